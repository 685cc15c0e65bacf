import Derived.Test.YtnfnbcbadakofabChk2
namespace Go.Proofs.Ytnfnbcbadakofab
open Go.RowKit
set_option maxHeartbeats 400000
set_option maxRecDepth 100000
def ahead (ls:List (List Int)) (fs:List Fn) (f:Fn) (op A B:Int):List Int:=
 if op=1 \/ op=2 \/ op=3 \/ op=4 then [0,0] else if op=14 \/ op=17 then [0] else if op=6 then [tyAt f.locals A]
 else if op=7 then flds ls A else if op=8 \/ op=11 then [A] else if op=9 then [A,tyAt (flds ls A) B] else if op=12 then [A,A]
 else if op=15 then argsF fs A else if op=16 then [f.result] else []
theorem IntsV.lit {W:World} {base b:Nat} (l:List Int) (n:Nat) (hn:l.length=n) (h:W.heap.size=b) (hb:base<=b) (hm:n<=maxLen):IntsV (W.alloc (.cells (ints l).toArray 3)) base (.slice b n n) l:=by
 subst hn;subst h
 exact ⟨by simp [ints],.inr ⟨W.heap.size,l.length,(ints l).toArray,rfl,hb,heap_alloc_new W _,Nat.le_refl _,hm,by simp [ints],by simp only [Nat.mul_one,ints];rw [List.take_of_length_le (by simp)]⟩⟩
theorem ah_0 (ta fa la ca:Option Addr) (tc fc lc cn cc:Nat) (ls:List (List Int)) (fs:List Fn) (f:Fn) (A B:Int) (w:World) (base:Nat) (_hbase:base<=w.heap.size) (_ht:TypesV w base (.slice ta ls.length tc) ls) (_hf:FuncsV 78 93 w base (.slice fa fs.length fc) fs) (_hl:IntsV w base (.slice la f.locals.length lc) f.locals)
 (_hn:ls.length<=10000) :
 Calls Try.prog 75 #[.agg #[.slice ta ls.length tc,.slice fa fs.length fc],.agg #[f.args,.slice la f.locals.length lc,f.result,.slice ca cn cc],.agg #[oO,A,B]] w fun e w' =>
  ∃ v,e=.returned v/\IntsV w' base v (ahead ls fs f 0 A B)/\Chg () w w':=by
 have kb:Chg () w (((w.alloc (Obj.cells #[.slice ta ls.length tc,.slice fa fs.length fc] 56)).alloc (Obj.cells #[f.args,.slice la f.locals.length lc,f.result,.slice ca cn cc] 78)).alloc (Obj.cells #[oO,A,B] 93)):=(((Chg.refl () w).alloc _).alloc _).alloc _
 have KB:Hid _:=kb
 clear kb
 have ea:ahead ls fs f 0 A B=[]:=by simp [ahead]
 rw [ea]
 clear ea
 go_enter Try.func75,Try.ntmps75
 go_wp2
 go_ret
 exact ⟨_,rfl,World.ownsRow_nil _ _ _ _,KB.out⟩
theorem ah_1 (ta fa la ca:Option Addr) (tc fc lc cn cc:Nat) (ls:List (List Int)) (fs:List Fn) (f:Fn) (A B:Int) (w:World) (base:Nat) (hbase:base<=w.heap.size) (_ht:TypesV w base (.slice ta ls.length tc) ls) (_hf:FuncsV 78 93 w base (.slice fa fs.length fc) fs) (_hl:IntsV w base (.slice la f.locals.length lc) f.locals)
 (_hn:ls.length<=10000) :
 Calls Try.prog 75 #[.agg #[.slice ta ls.length tc,.slice fa fs.length fc],.agg #[f.args,.slice la f.locals.length lc,f.result,.slice ca cn cc],.agg #[(1:Int),A,B]] w fun e w' =>
  ∃ v,e=.returned v/\IntsV w' base v (ahead ls fs f 1 A B)/\Chg () w w':=by
 have kb:Chg () w (((w.alloc (Obj.cells #[.slice ta ls.length tc,.slice fa fs.length fc] 56)).alloc (Obj.cells #[f.args,.slice la f.locals.length lc,f.result,.slice ca cn cc] 78)).alloc (Obj.cells #[(1:Int),A,B] 93)):=(((Chg.refl () w).alloc _).alloc _).alloc _
 have KB:Hid _:=kb
 clear kb
 have ea:ahead ls fs f 1 A B=[0,0]:=by simp [ahead]
 rw [ea]
 clear ea
 go_enter Try.func75,Try.ntmps75
 go_wp2
 go_ret
 exact ⟨_,rfl,IntsV.lit [0,0] 2 rfl (by simp) (by omega) (by unfold maxLen;omega),KB.out.alloc _⟩
theorem ah_2 (ta fa la ca:Option Addr) (tc fc lc cn cc:Nat) (ls:List (List Int)) (fs:List Fn) (f:Fn) (A B:Int) (w:World) (base:Nat) (hbase:base<=w.heap.size) (_ht:TypesV w base (.slice ta ls.length tc) ls) (_hf:FuncsV 78 93 w base (.slice fa fs.length fc) fs) (_hl:IntsV w base (.slice la f.locals.length lc) f.locals)
 (_hn:ls.length<=10000) :
 Calls Try.prog 75 #[.agg #[.slice ta ls.length tc,.slice fa fs.length fc],.agg #[f.args,.slice la f.locals.length lc,f.result,.slice ca cn cc],.agg #[(2:Int),A,B]] w fun e w' =>
  ∃ v,e=.returned v/\IntsV w' base v (ahead ls fs f 2 A B)/\Chg () w w':=by
 have kb:Chg () w (((w.alloc (Obj.cells #[.slice ta ls.length tc,.slice fa fs.length fc] 56)).alloc (Obj.cells #[f.args,.slice la f.locals.length lc,f.result,.slice ca cn cc] 78)).alloc (Obj.cells #[(2:Int),A,B] 93)):=(((Chg.refl () w).alloc _).alloc _).alloc _
 have KB:Hid _:=kb
 clear kb
 have ea:ahead ls fs f 2 A B=[0,0]:=by simp [ahead]
 rw [ea]
 clear ea
 go_enter Try.func75,Try.ntmps75
 go_wp2
 go_ret
 exact ⟨_,rfl,IntsV.lit [0,0] 2 rfl (by simp) (by omega) (by unfold maxLen;omega),KB.out.alloc _⟩
theorem ah_3 (ta fa la ca:Option Addr) (tc fc lc cn cc:Nat) (ls:List (List Int)) (fs:List Fn) (f:Fn) (A B:Int) (w:World) (base:Nat) (hbase:base<=w.heap.size) (_ht:TypesV w base (.slice ta ls.length tc) ls) (_hf:FuncsV 78 93 w base (.slice fa fs.length fc) fs) (_hl:IntsV w base (.slice la f.locals.length lc) f.locals)
 (_hn:ls.length<=10000) :
 Calls Try.prog 75 #[.agg #[.slice ta ls.length tc,.slice fa fs.length fc],.agg #[f.args,.slice la f.locals.length lc,f.result,.slice ca cn cc],.agg #[(3:Int),A,B]] w fun e w' =>
  ∃ v,e=.returned v/\IntsV w' base v (ahead ls fs f 3 A B)/\Chg () w w':=by
 have kb:Chg () w (((w.alloc (Obj.cells #[.slice ta ls.length tc,.slice fa fs.length fc] 56)).alloc (Obj.cells #[f.args,.slice la f.locals.length lc,f.result,.slice ca cn cc] 78)).alloc (Obj.cells #[(3:Int),A,B] 93)):=(((Chg.refl () w).alloc _).alloc _).alloc _
 have KB:Hid _:=kb
 clear kb
 have ea:ahead ls fs f 3 A B=[0,0]:=by simp [ahead]
 rw [ea]
 clear ea
 go_enter Try.func75,Try.ntmps75
 go_wp2
 go_ret
 exact ⟨_,rfl,IntsV.lit [0,0] 2 rfl (by simp) (by omega) (by unfold maxLen;omega),KB.out.alloc _⟩
theorem ah_4 (ta fa la ca:Option Addr) (tc fc lc cn cc:Nat) (ls:List (List Int)) (fs:List Fn) (f:Fn) (A B:Int) (w:World) (base:Nat) (hbase:base<=w.heap.size) (_ht:TypesV w base (.slice ta ls.length tc) ls) (_hf:FuncsV 78 93 w base (.slice fa fs.length fc) fs) (_hl:IntsV w base (.slice la f.locals.length lc) f.locals)
 (_hn:ls.length<=10000) :
 Calls Try.prog 75 #[.agg #[.slice ta ls.length tc,.slice fa fs.length fc],.agg #[f.args,.slice la f.locals.length lc,f.result,.slice ca cn cc],.agg #[(4:Int),A,B]] w fun e w' =>
  ∃ v,e=.returned v/\IntsV w' base v (ahead ls fs f 4 A B)/\Chg () w w':=by
 have kb:Chg () w (((w.alloc (Obj.cells #[.slice ta ls.length tc,.slice fa fs.length fc] 56)).alloc (Obj.cells #[f.args,.slice la f.locals.length lc,f.result,.slice ca cn cc] 78)).alloc (Obj.cells #[(4:Int),A,B] 93)):=(((Chg.refl () w).alloc _).alloc _).alloc _
 have KB:Hid _:=kb
 clear kb
 have ea:ahead ls fs f 4 A B=[0,0]:=by simp [ahead]
 rw [ea]
 clear ea
 go_enter Try.func75,Try.ntmps75
 go_wp2
 go_ret
 exact ⟨_,rfl,IntsV.lit [0,0] 2 rfl (by simp) (by omega) (by unfold maxLen;omega),KB.out.alloc _⟩
theorem ah_5 (ta fa la ca:Option Addr) (tc fc lc cn cc:Nat) (ls:List (List Int)) (fs:List Fn) (f:Fn) (A B:Int) (w:World) (base:Nat) (_hbase:base<=w.heap.size) (_ht:TypesV w base (.slice ta ls.length tc) ls) (_hf:FuncsV 78 93 w base (.slice fa fs.length fc) fs) (_hl:IntsV w base (.slice la f.locals.length lc) f.locals)
 (_hn:ls.length<=10000) :
 Calls Try.prog 75 #[.agg #[.slice ta ls.length tc,.slice fa fs.length fc],.agg #[f.args,.slice la f.locals.length lc,f.result,.slice ca cn cc],.agg #[(5:Int),A,B]] w fun e w' =>
  ∃ v,e=.returned v/\IntsV w' base v (ahead ls fs f 5 A B)/\Chg () w w':=by
 have kb:Chg () w (((w.alloc (Obj.cells #[.slice ta ls.length tc,.slice fa fs.length fc] 56)).alloc (Obj.cells #[f.args,.slice la f.locals.length lc,f.result,.slice ca cn cc] 78)).alloc (Obj.cells #[(5:Int),A,B] 93)):=(((Chg.refl () w).alloc _).alloc _).alloc _
 have KB:Hid _:=kb
 clear kb
 have ea:ahead ls fs f 5 A B=[]:=by simp [ahead]
 rw [ea]
 clear ea
 go_enter Try.func75,Try.ntmps75
 go_wp2
 go_ret
 exact ⟨_,rfl,World.ownsRow_nil _ _ _ _,KB.out⟩
theorem ah_6 (ta fa la ca:Option Addr) (tc fc lc cn cc:Nat) (ls:List (List Int)) (fs:List Fn) (f:Fn) (A B:Int) (w:World) (base:Nat) (hbase:base<=w.heap.size) (_ht:TypesV w base (.slice ta ls.length tc) ls) (_hf:FuncsV 78 93 w base (.slice fa fs.length fc) fs) (hl:IntsV w base (.slice la f.locals.length lc) f.locals)
 (_hn:ls.length<=10000) :
 Calls Try.prog 75 #[.agg #[.slice ta ls.length tc,.slice fa fs.length fc],.agg #[f.args,.slice la f.locals.length lc,f.result,.slice ca cn cc],.agg #[(6:Int),A,B]] w fun e w' =>
  ∃ v,e=.returned v/\IntsV w' base v (ahead ls fs f 6 A B)/\Chg () w w':=by
 have kb:Chg () w (((w.alloc (Obj.cells #[.slice ta ls.length tc,.slice fa fs.length fc] 56)).alloc (Obj.cells #[f.args,.slice la f.locals.length lc,f.result,.slice ca cn cc] 78)).alloc (Obj.cells #[(6:Int),A,B] 93)):=(((Chg.refl () w).alloc _).alloc _).alloc _
 have KB:Hid _:=kb
 clear kb
 have ea:ahead ls fs f 6 A B=[tyAt f.locals A]:=by simp [ahead]
 rw [ea]
 clear ea
 go_enter Try.func75,Try.ntmps75
 go_wp2_with fail
 refine (typeAt_any _ f.locals A _ base (IntsV.chg hl KB.out (fun _ _ _ e=>e))).mono ?_
 rintro e w1 ⟨rfl,rfl⟩
 go_wp2
 go_ret
 exact ⟨_,rfl,IntsV.lit [tyAt f.locals A] 1 rfl (by simp) (by omega) (by unfold maxLen;omega),KB.out.alloc _⟩
theorem ah_7 (ta fa la ca:Option Addr) (tc fc lc cn cc:Nat) (ls:List (List Int)) (fs:List Fn) (f:Fn) (A B:Int) (w:World) (base:Nat) (_hbase:base<=w.heap.size) (ht:TypesV w base (.slice ta ls.length tc) ls) (_hf:FuncsV 78 93 w base (.slice fa fs.length fc) fs) (_hl:IntsV w base (.slice la f.locals.length lc) f.locals)
 (hn:ls.length<=10000) :
 Calls Try.prog 75 #[.agg #[.slice ta ls.length tc,.slice fa fs.length fc],.agg #[f.args,.slice la f.locals.length lc,f.result,.slice ca cn cc],.agg #[(7:Int),A,B]] w fun e w' =>
  ∃ v,e=.returned v/\IntsV w' base v (ahead ls fs f 7 A B)/\Chg () w w':=by
 have kb:Chg () w (((w.alloc (Obj.cells #[.slice ta ls.length tc,.slice fa fs.length fc] 56)).alloc (Obj.cells #[f.args,.slice la f.locals.length lc,f.result,.slice ca cn cc] 78)).alloc (Obj.cells #[(7:Int),A,B] 93)):=(((Chg.refl () w).alloc _).alloc _).alloc _
 have KB:Hid _:=kb
 clear kb
 have ea:ahead ls fs f 7 A B=flds ls A:=by simp [ahead]
 rw [ea]
 clear ea
 go_enter Try.func75,Try.ntmps75
 go_wp2_with fail
 refine (fieldsOf_any _ ls A _ base (ht.new KB.out) hn).mono ?_
 rintro e w1 ⟨u,rfl,hu,rfl⟩
 obtain ⟨ua,uc,rfl⟩:=hu.slice
 go_wp2
 go_ret
 exact ⟨_,rfl,hu,KB.out⟩
theorem ah_8 (ta fa la ca:Option Addr) (tc fc lc cn cc:Nat) (ls:List (List Int)) (fs:List Fn) (f:Fn) (A B:Int) (w:World) (base:Nat) (hbase:base<=w.heap.size) (_ht:TypesV w base (.slice ta ls.length tc) ls) (_hf:FuncsV 78 93 w base (.slice fa fs.length fc) fs) (_hl:IntsV w base (.slice la f.locals.length lc) f.locals)
 (_hn:ls.length<=10000) :
 Calls Try.prog 75 #[.agg #[.slice ta ls.length tc,.slice fa fs.length fc],.agg #[f.args,.slice la f.locals.length lc,f.result,.slice ca cn cc],.agg #[(8:Int),A,B]] w fun e w' =>
  ∃ v,e=.returned v/\IntsV w' base v (ahead ls fs f 8 A B)/\Chg () w w':=by
 have kb:Chg () w (((w.alloc (Obj.cells #[.slice ta ls.length tc,.slice fa fs.length fc] 56)).alloc (Obj.cells #[f.args,.slice la f.locals.length lc,f.result,.slice ca cn cc] 78)).alloc (Obj.cells #[(8:Int),A,B] 93)):=(((Chg.refl () w).alloc _).alloc _).alloc _
 have KB:Hid _:=kb
 clear kb
 have ea:ahead ls fs f 8 A B=[A]:=by simp [ahead]
 rw [ea]
 clear ea
 go_enter Try.func75,Try.ntmps75
 go_wp2
 go_ret
 exact ⟨_,rfl,IntsV.lit [A] 1 rfl (by simp) (by omega) (by unfold maxLen;omega),KB.out.alloc _⟩
theorem ah_9 (ta fa la ca:Option Addr) (tc fc lc cn cc:Nat) (ls:List (List Int)) (fs:List Fn) (f:Fn) (A B:Int) (w:World) (base:Nat) (hbase:base<=w.heap.size) (ht:TypesV w base (.slice ta ls.length tc) ls) (_hf:FuncsV 78 93 w base (.slice fa fs.length fc) fs) (_hl:IntsV w base (.slice la f.locals.length lc) f.locals)
 (hn:ls.length<=10000) :
 Calls Try.prog 75 #[.agg #[.slice ta ls.length tc,.slice fa fs.length fc],.agg #[f.args,.slice la f.locals.length lc,f.result,.slice ca cn cc],.agg #[(9:Int),A,B]] w fun e w' =>
  ∃ v,e=.returned v/\IntsV w' base v (ahead ls fs f 9 A B)/\Chg () w w':=by
 have kb:Chg () w (((w.alloc (Obj.cells #[.slice ta ls.length tc,.slice fa fs.length fc] 56)).alloc (Obj.cells #[f.args,.slice la f.locals.length lc,f.result,.slice ca cn cc] 78)).alloc (Obj.cells #[(9:Int),A,B] 93)):=(((Chg.refl () w).alloc _).alloc _).alloc _
 have KB:Hid _:=kb
 clear kb
 have ea:ahead ls fs f 9 A B=[A,tyAt (flds ls A) B]:=by simp [ahead]
 rw [ea]
 clear ea
 go_enter Try.func75,Try.ntmps75
 go_wp2_with fail
 refine (fieldsOf_any _ ls A _ base (ht.new KB.out) hn).mono ?_
 rintro e w1 ⟨u,rfl,hu,rfl⟩
 obtain ⟨ua,uc,rfl⟩:=hu.slice
 have b3:Blk (((w.alloc (Obj.cells #[.slice ta ls.length tc,.slice fa fs.length fc] 56)).alloc (Obj.cells #[f.args,.slice la f.locals.length lc,f.result,.slice ca cn cc] 78)).alloc (Obj.cells #[(9:Int),A,B] 93)) (w.heap.size+2) #[.int .i64 9,.int .i64 A,.int .i64 B] 93:=Blk.new' (by simp) _ 93
 have hu0:=hu
 have k0:=KB.out
 go_wp2_with fail
 generalize (((w.alloc (Obj.cells #[.slice ta ls.length tc,.slice fa fs.length fc] 56)).alloc (Obj.cells #[f.args,.slice la f.locals.length lc,f.result,.slice ca cn cc] 78)).alloc (Obj.cells #[(9:Int),A,B] 93))=W at *
 have y1:W.cell? ⟨w.heap.size+2,1,none⟩=some (.int .i64 A):=b3.cell 1
 have y2:W.cell? ⟨w.heap.size+2,2,none⟩=some (.int .i64 B):=b3.cell 2
 have hWs:=k0.size
 go_region_with (go_at_call 65;refine (typeAt_any _ (flds ls A) B _ base (by exact hu0)).mono ?_;rintro e w' ⟨rfl,rfl⟩)
 all_goals
  go_wp2
  go_ret
  exact ⟨.slice W.heap.size 2 2,rfl,(by have h9:=IntsV.lit (W:=W) (base:=base) [A,tyAt (flds ls A) B] 2 rfl rfl (by omega) (by unfold maxLen;omega);exact h9),((k0.alloc _).drew)⟩
theorem ah_10 (ta fa la ca:Option Addr) (tc fc lc cn cc:Nat) (ls:List (List Int)) (fs:List Fn) (f:Fn) (A B:Int) (w:World) (base:Nat) (_hbase:base<=w.heap.size) (_ht:TypesV w base (.slice ta ls.length tc) ls) (_hf:FuncsV 78 93 w base (.slice fa fs.length fc) fs) (_hl:IntsV w base (.slice la f.locals.length lc) f.locals)
 (_hn:ls.length<=10000) :
 Calls Try.prog 75 #[.agg #[.slice ta ls.length tc,.slice fa fs.length fc],.agg #[f.args,.slice la f.locals.length lc,f.result,.slice ca cn cc],.agg #[(10:Int),A,B]] w fun e w' =>
  ∃ v,e=.returned v/\IntsV w' base v (ahead ls fs f 10 A B)/\Chg () w w':=by
 have kb:Chg () w (((w.alloc (Obj.cells #[.slice ta ls.length tc,.slice fa fs.length fc] 56)).alloc (Obj.cells #[f.args,.slice la f.locals.length lc,f.result,.slice ca cn cc] 78)).alloc (Obj.cells #[(10:Int),A,B] 93)):=(((Chg.refl () w).alloc _).alloc _).alloc _
 have KB:Hid _:=kb
 clear kb
 have ea:ahead ls fs f 10 A B=[]:=by simp [ahead]
 rw [ea]
 clear ea
 go_enter Try.func75,Try.ntmps75
 go_wp2
 go_ret
 exact ⟨_,rfl,World.ownsRow_nil _ _ _ _,KB.out⟩
theorem ah_11 (ta fa la ca:Option Addr) (tc fc lc cn cc:Nat) (ls:List (List Int)) (fs:List Fn) (f:Fn) (A B:Int) (w:World) (base:Nat) (hbase:base<=w.heap.size) (_ht:TypesV w base (.slice ta ls.length tc) ls) (_hf:FuncsV 78 93 w base (.slice fa fs.length fc) fs) (_hl:IntsV w base (.slice la f.locals.length lc) f.locals)
 (_hn:ls.length<=10000) :
 Calls Try.prog 75 #[.agg #[.slice ta ls.length tc,.slice fa fs.length fc],.agg #[f.args,.slice la f.locals.length lc,f.result,.slice ca cn cc],.agg #[(11:Int),A,B]] w fun e w' =>
  ∃ v,e=.returned v/\IntsV w' base v (ahead ls fs f 11 A B)/\Chg () w w':=by
 have kb:Chg () w (((w.alloc (Obj.cells #[.slice ta ls.length tc,.slice fa fs.length fc] 56)).alloc (Obj.cells #[f.args,.slice la f.locals.length lc,f.result,.slice ca cn cc] 78)).alloc (Obj.cells #[(11:Int),A,B] 93)):=(((Chg.refl () w).alloc _).alloc _).alloc _
 have KB:Hid _:=kb
 clear kb
 have ea:ahead ls fs f 11 A B=[A]:=by simp [ahead]
 rw [ea]
 clear ea
 go_enter Try.func75,Try.ntmps75
 go_wp2
 go_ret
 exact ⟨_,rfl,IntsV.lit [A] 1 rfl (by simp) (by omega) (by unfold maxLen;omega),KB.out.alloc _⟩
theorem ah_12 (ta fa la ca:Option Addr) (tc fc lc cn cc:Nat) (ls:List (List Int)) (fs:List Fn) (f:Fn) (A B:Int) (w:World) (base:Nat) (hbase:base<=w.heap.size) (_ht:TypesV w base (.slice ta ls.length tc) ls) (_hf:FuncsV 78 93 w base (.slice fa fs.length fc) fs) (_hl:IntsV w base (.slice la f.locals.length lc) f.locals)
 (_hn:ls.length<=10000) :
 Calls Try.prog 75 #[.agg #[.slice ta ls.length tc,.slice fa fs.length fc],.agg #[f.args,.slice la f.locals.length lc,f.result,.slice ca cn cc],.agg #[(12:Int),A,B]] w fun e w' =>
  ∃ v,e=.returned v/\IntsV w' base v (ahead ls fs f 12 A B)/\Chg () w w':=by
 have kb:Chg () w (((w.alloc (Obj.cells #[.slice ta ls.length tc,.slice fa fs.length fc] 56)).alloc (Obj.cells #[f.args,.slice la f.locals.length lc,f.result,.slice ca cn cc] 78)).alloc (Obj.cells #[(12:Int),A,B] 93)):=(((Chg.refl () w).alloc _).alloc _).alloc _
 have KB:Hid _:=kb
 clear kb
 have ea:ahead ls fs f 12 A B=[A,A]:=by simp [ahead]
 rw [ea]
 clear ea
 go_enter Try.func75,Try.ntmps75
 go_wp2
 go_ret
 exact ⟨_,rfl,IntsV.lit [A,A] 2 rfl (by simp) (by omega) (by unfold maxLen;omega),KB.out.alloc _⟩
theorem ah_13 (ta fa la ca:Option Addr) (tc fc lc cn cc:Nat) (ls:List (List Int)) (fs:List Fn) (f:Fn) (A B:Int) (w:World) (base:Nat) (_hbase:base<=w.heap.size) (_ht:TypesV w base (.slice ta ls.length tc) ls) (_hf:FuncsV 78 93 w base (.slice fa fs.length fc) fs) (_hl:IntsV w base (.slice la f.locals.length lc) f.locals)
 (_hn:ls.length<=10000) :
 Calls Try.prog 75 #[.agg #[.slice ta ls.length tc,.slice fa fs.length fc],.agg #[f.args,.slice la f.locals.length lc,f.result,.slice ca cn cc],.agg #[(13:Int),A,B]] w fun e w' =>
  ∃ v,e=.returned v/\IntsV w' base v (ahead ls fs f 13 A B)/\Chg () w w':=by
 have kb:Chg () w (((w.alloc (Obj.cells #[.slice ta ls.length tc,.slice fa fs.length fc] 56)).alloc (Obj.cells #[f.args,.slice la f.locals.length lc,f.result,.slice ca cn cc] 78)).alloc (Obj.cells #[(13:Int),A,B] 93)):=(((Chg.refl () w).alloc _).alloc _).alloc _
 have KB:Hid _:=kb
 clear kb
 have ea:ahead ls fs f 13 A B=[]:=by simp [ahead]
 rw [ea]
 clear ea
 go_enter Try.func75,Try.ntmps75
 go_wp2
 go_ret
 exact ⟨_,rfl,World.ownsRow_nil _ _ _ _,KB.out⟩
theorem ah_14 (ta fa la ca:Option Addr) (tc fc lc cn cc:Nat) (ls:List (List Int)) (fs:List Fn) (f:Fn) (A B:Int) (w:World) (base:Nat) (hbase:base<=w.heap.size) (_ht:TypesV w base (.slice ta ls.length tc) ls) (_hf:FuncsV 78 93 w base (.slice fa fs.length fc) fs) (_hl:IntsV w base (.slice la f.locals.length lc) f.locals)
 (_hn:ls.length<=10000) :
 Calls Try.prog 75 #[.agg #[.slice ta ls.length tc,.slice fa fs.length fc],.agg #[f.args,.slice la f.locals.length lc,f.result,.slice ca cn cc],.agg #[(14:Int),A,B]] w fun e w' =>
  ∃ v,e=.returned v/\IntsV w' base v (ahead ls fs f 14 A B)/\Chg () w w':=by
 have kb:Chg () w (((w.alloc (Obj.cells #[.slice ta ls.length tc,.slice fa fs.length fc] 56)).alloc (Obj.cells #[f.args,.slice la f.locals.length lc,f.result,.slice ca cn cc] 78)).alloc (Obj.cells #[(14:Int),A,B] 93)):=(((Chg.refl () w).alloc _).alloc _).alloc _
 have KB:Hid _:=kb
 clear kb
 have ea:ahead ls fs f 14 A B=[0]:=by simp [ahead]
 rw [ea]
 clear ea
 go_enter Try.func75,Try.ntmps75
 go_wp2
 go_ret
 exact ⟨_,rfl,IntsV.lit [0] 1 rfl (by simp) (by omega) (by unfold maxLen;omega),KB.out.alloc _⟩
theorem ah_15 (ta fa la ca:Option Addr) (tc fc lc cn cc:Nat) (ls:List (List Int)) (fs:List Fn) (f:Fn) (A B:Int) (w:World) (base:Nat) (_hbase:base<=w.heap.size) (_ht:TypesV w base (.slice ta ls.length tc) ls) (hf:FuncsV 78 93 w base (.slice fa fs.length fc) fs) (_hl:IntsV w base (.slice la f.locals.length lc) f.locals)
 (_hn:ls.length<=10000) :
 Calls Try.prog 75 #[.agg #[.slice ta ls.length tc,.slice fa fs.length fc],.agg #[f.args,.slice la f.locals.length lc,f.result,.slice ca cn cc],.agg #[(15:Int),A,B]] w fun e w' =>
  ∃ v,e=.returned v/\IntsV w' base v (ahead ls fs f 15 A B)/\Chg () w w':=by
 have kb:Chg () w (((w.alloc (Obj.cells #[.slice ta ls.length tc,.slice fa fs.length fc] 56)).alloc (Obj.cells #[f.args,.slice la f.locals.length lc,f.result,.slice ca cn cc] 78)).alloc (Obj.cells #[(15:Int),A,B] 93)):=(((Chg.refl () w).alloc _).alloc _).alloc _
 have KB:Hid _:=kb
 clear kb
 have ea:ahead ls fs f 15 A B=argsF fs A:=by simp [ahead]
 rw [ea,argsF_eq]
 clear ea
 generalize hg:fnAt fs A=g
 have HG:=hid hg
 clear hg
 go_enter Try.func75,Try.ntmps75
 go_wp2_with fail
 refine (funcAt_any _ fs A _ base (hf.chg KB.out (fun _ _ _ e=>e) (fun _ _ _ e=>e) (fun _ _ _ e=>e))).mono ?_
 rw [HG.out]
 rintro e w1 ⟨u,v,rfl,hu,hv,hch⟩
 have KC:Hid _:=KB.out.trans hch
 clear hch
 obtain ⟨ua,uc,rfl⟩:=hu.slice
 obtain ⟨va,vc,rfl⟩:=hv.slice
 have HU:=hid hu
 clear hu hv
 go_wp2_with fail
 have hb:Chg () w1 (w1.alloc (Obj.cells #[g.args,.slice ua g.locals.length uc,g.result,.slice va g.code.length vc] 78)):=(Chg.refl _ _).alloc _
 refine (argsOf_any _ g va _ vc _ base (HU.out.chg hb (fun _ _ _ e=>e))).mono ?_
 rintro e w2 ⟨u,rfl,hu2,hch2⟩
 have kd:=KC.out.trans (hb.trans hch2)
 clear hb hch2
 obtain ⟨ra,rc,rfl⟩:=hu2.slice
 go_wp2
 go_ret
 exact ⟨_,rfl,hu2,kd⟩
theorem ah_16 (ta fa la ca:Option Addr) (tc fc lc cn cc:Nat) (ls:List (List Int)) (fs:List Fn) (f:Fn) (A B:Int) (w:World) (base:Nat) (hbase:base<=w.heap.size) (_ht:TypesV w base (.slice ta ls.length tc) ls) (_hf:FuncsV 78 93 w base (.slice fa fs.length fc) fs) (_hl:IntsV w base (.slice la f.locals.length lc) f.locals)
 (_hn:ls.length<=10000) :
 Calls Try.prog 75 #[.agg #[.slice ta ls.length tc,.slice fa fs.length fc],.agg #[f.args,.slice la f.locals.length lc,f.result,.slice ca cn cc],.agg #[(16:Int),A,B]] w fun e w' =>
  ∃ v,e=.returned v/\IntsV w' base v (ahead ls fs f 16 A B)/\Chg () w w':=by
 have kb:Chg () w (((w.alloc (Obj.cells #[.slice ta ls.length tc,.slice fa fs.length fc] 56)).alloc (Obj.cells #[f.args,.slice la f.locals.length lc,f.result,.slice ca cn cc] 78)).alloc (Obj.cells #[(16:Int),A,B] 93)):=(((Chg.refl () w).alloc _).alloc _).alloc _
 have KB:Hid _:=kb
 clear kb
 have ea:ahead ls fs f 16 A B=[f.result]:=by simp [ahead]
 rw [ea]
 clear ea
 go_enter Try.func75,Try.ntmps75
 go_wp2
 go_ret
 exact ⟨_,rfl,IntsV.lit [f.result] 1 rfl (by simp) (by omega) (by unfold maxLen;omega),KB.out.alloc _⟩
theorem ah_17 (ta fa la ca:Option Addr) (tc fc lc cn cc:Nat) (ls:List (List Int)) (fs:List Fn) (f:Fn) (A B:Int) (w:World) (base:Nat) (hbase:base<=w.heap.size) (_ht:TypesV w base (.slice ta ls.length tc) ls) (_hf:FuncsV 78 93 w base (.slice fa fs.length fc) fs) (_hl:IntsV w base (.slice la f.locals.length lc) f.locals)
 (_hn:ls.length<=10000) :
 Calls Try.prog 75 #[.agg #[.slice ta ls.length tc,.slice fa fs.length fc],.agg #[f.args,.slice la f.locals.length lc,f.result,.slice ca cn cc],.agg #[(17:Int),A,B]] w fun e w' =>
  ∃ v,e=.returned v/\IntsV w' base v (ahead ls fs f 17 A B)/\Chg () w w':=by
 have kb:Chg () w (((w.alloc (Obj.cells #[.slice ta ls.length tc,.slice fa fs.length fc] 56)).alloc (Obj.cells #[f.args,.slice la f.locals.length lc,f.result,.slice ca cn cc] 78)).alloc (Obj.cells #[(17:Int),A,B] 93)):=(((Chg.refl () w).alloc _).alloc _).alloc _
 have KB:Hid _:=kb
 clear kb
 have ea:ahead ls fs f 17 A B=[0]:=by simp [ahead]
 rw [ea]
 clear ea
 go_enter Try.func75,Try.ntmps75
 go_wp2
 go_ret
 exact ⟨_,rfl,IntsV.lit [0] 1 rfl (by simp) (by omega) (by unfold maxLen;omega),KB.out.alloc _⟩
theorem ah_18 (ta fa la ca:Option Addr) (tc fc lc cn cc:Nat) (ls:List (List Int)) (fs:List Fn) (f:Fn) (A B:Int) (w:World) (base:Nat) (_hbase:base<=w.heap.size) (_ht:TypesV w base (.slice ta ls.length tc) ls) (_hf:FuncsV 78 93 w base (.slice fa fs.length fc) fs) (_hl:IntsV w base (.slice la f.locals.length lc) f.locals)
 (_hn:ls.length<=10000) :
 Calls Try.prog 75 #[.agg #[.slice ta ls.length tc,.slice fa fs.length fc],.agg #[f.args,.slice la f.locals.length lc,f.result,.slice ca cn cc],.agg #[(18:Int),A,B]] w fun e w' =>
  ∃ v,e=.returned v/\IntsV w' base v (ahead ls fs f 18 A B)/\Chg () w w':=by
 have kb:Chg () w (((w.alloc (Obj.cells #[.slice ta ls.length tc,.slice fa fs.length fc] 56)).alloc (Obj.cells #[f.args,.slice la f.locals.length lc,f.result,.slice ca cn cc] 78)).alloc (Obj.cells #[(18:Int),A,B] 93)):=(((Chg.refl () w).alloc _).alloc _).alloc _
 have KB:Hid _:=kb
 clear kb
 have ea:ahead ls fs f 18 A B=[]:=by simp [ahead]
 rw [ea]
 clear ea
 go_enter Try.func75,Try.ntmps75
 go_wp2
 go_ret
 exact ⟨_,rfl,World.ownsRow_nil _ _ _ _,KB.out⟩
theorem stackAhead_any (tv fv lv cv:Value) (ls:List (List Int)) (fs:List Fn) (f:Fn) (op A B:Int) (w:World) (base:Nat) (hbase:base<=w.heap.size) (ht:TypesV w base tv ls) (hf:FuncsV 78 93 w base fv fs) (hl:IntsV w base lv f.locals) (hc:∃ ca n cc,cv=.slice ca n cc)
 (hn:ls.length<=10000) (h1:0<=op) (h2:op<=18) :
 Calls Try.prog 75 #[.agg #[tv,fv],.agg #[f.args,lv,f.result,cv],.agg #[op,A,B]] w fun e w' =>
  ∃ v,e=.returned v/\IntsV w' base v (ahead ls fs f op A B)/\Chg () w w':=by
 have hop:op=0 \/ op=1 \/ op=2 \/ op=3 \/ op=4 \/ op=5 \/ op=6 \/ op=7 \/ op=8 \/ op=9 \/ op=10 \/ op=11 \/ op=12 \/ op=13 \/ op=14 \/ op=15 \/ op=16 \/ op=17 \/ op=18:=by omega
 clear h1 h2
 obtain ⟨ta,tc,rfl⟩:=ht.slice
 obtain ⟨fa,fc,rfl⟩:=hf.slice
 obtain ⟨la,lc,rfl⟩:=hl.slice
 obtain ⟨ca,cn,cc,rfl⟩:=hc
 rcases hop with rfl | rfl | rfl | rfl | rfl | rfl | rfl | rfl | rfl | rfl | rfl | rfl | rfl | rfl | rfl | rfl | rfl | rfl | rfl
 ·exact ah_0 ta fa la ca tc fc lc cn cc ls fs f A B w base hbase ht hf hl hn
 ·exact ah_1 ta fa la ca tc fc lc cn cc ls fs f A B w base hbase ht hf hl hn
 ·exact ah_2 ta fa la ca tc fc lc cn cc ls fs f A B w base hbase ht hf hl hn
 ·exact ah_3 ta fa la ca tc fc lc cn cc ls fs f A B w base hbase ht hf hl hn
 ·exact ah_4 ta fa la ca tc fc lc cn cc ls fs f A B w base hbase ht hf hl hn
 ·exact ah_5 ta fa la ca tc fc lc cn cc ls fs f A B w base hbase ht hf hl hn
 ·exact ah_6 ta fa la ca tc fc lc cn cc ls fs f A B w base hbase ht hf hl hn
 ·exact ah_7 ta fa la ca tc fc lc cn cc ls fs f A B w base hbase ht hf hl hn
 ·exact ah_8 ta fa la ca tc fc lc cn cc ls fs f A B w base hbase ht hf hl hn
 ·exact ah_9 ta fa la ca tc fc lc cn cc ls fs f A B w base hbase ht hf hl hn
 ·exact ah_10 ta fa la ca tc fc lc cn cc ls fs f A B w base hbase ht hf hl hn
 ·exact ah_11 ta fa la ca tc fc lc cn cc ls fs f A B w base hbase ht hf hl hn
 ·exact ah_12 ta fa la ca tc fc lc cn cc ls fs f A B w base hbase ht hf hl hn
 ·exact ah_13 ta fa la ca tc fc lc cn cc ls fs f A B w base hbase ht hf hl hn
 ·exact ah_14 ta fa la ca tc fc lc cn cc ls fs f A B w base hbase ht hf hl hn
 ·exact ah_15 ta fa la ca tc fc lc cn cc ls fs f A B w base hbase ht hf hl hn
 ·exact ah_16 ta fa la ca tc fc lc cn cc ls fs f A B w base hbase ht hf hl hn
 ·exact ah_17 ta fa la ca tc fc lc cn cc ls fs f A B w base hbase ht hf hl hn
 ·exact ah_18 ta fa la ca tc fc lc cn cc ls fs f A B w base hbase ht hf hl hn
def behind (ls:List (List Int)) (fs:List Fn) (f:Fn) (op A B:Int):List Int:=
 if op=0 \/ op=1 \/ op=2 \/ op=3 \/ op=4 \/ op=11 \/ op=12 \/ op=18 then [0] else if op=5 then [tyAt f.locals A]
 else if op=7 \/ op=10 then [A] else if op=8 then [tyAt (flds ls A) B] else if op=15 then [resF fs A] else []
theorem bh_0 (ta fa la ca:Option Addr) (tc fc lc cn cc:Nat) (ls:List (List Int)) (fs:List Fn) (f:Fn) (A B:Int) (w:World) (base:Nat) (hbase:base<=w.heap.size) (_ht:TypesV w base (.slice ta ls.length tc) ls) (_hf:FuncsV 78 93 w base (.slice fa fs.length fc) fs) (_hl:IntsV w base (.slice la f.locals.length lc) f.locals)
 (_hn:ls.length<=10000) :
 Calls Try.prog 76 #[.agg #[.slice ta ls.length tc,.slice fa fs.length fc],.agg #[f.args,.slice la f.locals.length lc,f.result,.slice ca cn cc],.agg #[oO,A,B]] w fun e w' =>
  ∃ v,e=.returned v/\IntsV w' base v (behind ls fs f 0 A B)/\Chg () w w':=by
 have kb:Chg () w (((w.alloc (Obj.cells #[.slice ta ls.length tc,.slice fa fs.length fc] 56)).alloc (Obj.cells #[f.args,.slice la f.locals.length lc,f.result,.slice ca cn cc] 78)).alloc (Obj.cells #[oO,A,B] 93)):=(((Chg.refl () w).alloc _).alloc _).alloc _
 have KB:Hid _:=kb
 clear kb
 have ea:behind ls fs f 0 A B=[0]:=by simp [behind]
 rw [ea]
 clear ea
 go_enter Try.func76,Try.ntmps76
 go_wp2
 go_ret
 exact ⟨_,rfl,IntsV.lit [0] 1 rfl (by simp) (by omega) (by unfold maxLen;omega),KB.out.alloc _⟩
theorem bh_1 (ta fa la ca:Option Addr) (tc fc lc cn cc:Nat) (ls:List (List Int)) (fs:List Fn) (f:Fn) (A B:Int) (w:World) (base:Nat) (hbase:base<=w.heap.size) (_ht:TypesV w base (.slice ta ls.length tc) ls) (_hf:FuncsV 78 93 w base (.slice fa fs.length fc) fs) (_hl:IntsV w base (.slice la f.locals.length lc) f.locals)
 (_hn:ls.length<=10000) :
 Calls Try.prog 76 #[.agg #[.slice ta ls.length tc,.slice fa fs.length fc],.agg #[f.args,.slice la f.locals.length lc,f.result,.slice ca cn cc],.agg #[(1:Int),A,B]] w fun e w' =>
  ∃ v,e=.returned v/\IntsV w' base v (behind ls fs f 1 A B)/\Chg () w w':=by
 have kb:Chg () w (((w.alloc (Obj.cells #[.slice ta ls.length tc,.slice fa fs.length fc] 56)).alloc (Obj.cells #[f.args,.slice la f.locals.length lc,f.result,.slice ca cn cc] 78)).alloc (Obj.cells #[(1:Int),A,B] 93)):=(((Chg.refl () w).alloc _).alloc _).alloc _
 have KB:Hid _:=kb
 clear kb
 have ea:behind ls fs f 1 A B=[0]:=by simp [behind]
 rw [ea]
 clear ea
 go_enter Try.func76,Try.ntmps76
 go_wp2
 go_ret
 exact ⟨_,rfl,IntsV.lit [0] 1 rfl (by simp) (by omega) (by unfold maxLen;omega),KB.out.alloc _⟩
theorem bh_2 (ta fa la ca:Option Addr) (tc fc lc cn cc:Nat) (ls:List (List Int)) (fs:List Fn) (f:Fn) (A B:Int) (w:World) (base:Nat) (hbase:base<=w.heap.size) (_ht:TypesV w base (.slice ta ls.length tc) ls) (_hf:FuncsV 78 93 w base (.slice fa fs.length fc) fs) (_hl:IntsV w base (.slice la f.locals.length lc) f.locals)
 (_hn:ls.length<=10000) :
 Calls Try.prog 76 #[.agg #[.slice ta ls.length tc,.slice fa fs.length fc],.agg #[f.args,.slice la f.locals.length lc,f.result,.slice ca cn cc],.agg #[(2:Int),A,B]] w fun e w' =>
  ∃ v,e=.returned v/\IntsV w' base v (behind ls fs f 2 A B)/\Chg () w w':=by
 have kb:Chg () w (((w.alloc (Obj.cells #[.slice ta ls.length tc,.slice fa fs.length fc] 56)).alloc (Obj.cells #[f.args,.slice la f.locals.length lc,f.result,.slice ca cn cc] 78)).alloc (Obj.cells #[(2:Int),A,B] 93)):=(((Chg.refl () w).alloc _).alloc _).alloc _
 have KB:Hid _:=kb
 clear kb
 have ea:behind ls fs f 2 A B=[0]:=by simp [behind]
 rw [ea]
 clear ea
 go_enter Try.func76,Try.ntmps76
 go_wp2
 go_ret
 exact ⟨_,rfl,IntsV.lit [0] 1 rfl (by simp) (by omega) (by unfold maxLen;omega),KB.out.alloc _⟩
theorem bh_3 (ta fa la ca:Option Addr) (tc fc lc cn cc:Nat) (ls:List (List Int)) (fs:List Fn) (f:Fn) (A B:Int) (w:World) (base:Nat) (hbase:base<=w.heap.size) (_ht:TypesV w base (.slice ta ls.length tc) ls) (_hf:FuncsV 78 93 w base (.slice fa fs.length fc) fs) (_hl:IntsV w base (.slice la f.locals.length lc) f.locals)
 (_hn:ls.length<=10000) :
 Calls Try.prog 76 #[.agg #[.slice ta ls.length tc,.slice fa fs.length fc],.agg #[f.args,.slice la f.locals.length lc,f.result,.slice ca cn cc],.agg #[(3:Int),A,B]] w fun e w' =>
  ∃ v,e=.returned v/\IntsV w' base v (behind ls fs f 3 A B)/\Chg () w w':=by
 have kb:Chg () w (((w.alloc (Obj.cells #[.slice ta ls.length tc,.slice fa fs.length fc] 56)).alloc (Obj.cells #[f.args,.slice la f.locals.length lc,f.result,.slice ca cn cc] 78)).alloc (Obj.cells #[(3:Int),A,B] 93)):=(((Chg.refl () w).alloc _).alloc _).alloc _
 have KB:Hid _:=kb
 clear kb
 have ea:behind ls fs f 3 A B=[0]:=by simp [behind]
 rw [ea]
 clear ea
 go_enter Try.func76,Try.ntmps76
 go_wp2
 go_ret
 exact ⟨_,rfl,IntsV.lit [0] 1 rfl (by simp) (by omega) (by unfold maxLen;omega),KB.out.alloc _⟩
theorem bh_4 (ta fa la ca:Option Addr) (tc fc lc cn cc:Nat) (ls:List (List Int)) (fs:List Fn) (f:Fn) (A B:Int) (w:World) (base:Nat) (hbase:base<=w.heap.size) (_ht:TypesV w base (.slice ta ls.length tc) ls) (_hf:FuncsV 78 93 w base (.slice fa fs.length fc) fs) (_hl:IntsV w base (.slice la f.locals.length lc) f.locals)
 (_hn:ls.length<=10000) :
 Calls Try.prog 76 #[.agg #[.slice ta ls.length tc,.slice fa fs.length fc],.agg #[f.args,.slice la f.locals.length lc,f.result,.slice ca cn cc],.agg #[(4:Int),A,B]] w fun e w' =>
  ∃ v,e=.returned v/\IntsV w' base v (behind ls fs f 4 A B)/\Chg () w w':=by
 have kb:Chg () w (((w.alloc (Obj.cells #[.slice ta ls.length tc,.slice fa fs.length fc] 56)).alloc (Obj.cells #[f.args,.slice la f.locals.length lc,f.result,.slice ca cn cc] 78)).alloc (Obj.cells #[(4:Int),A,B] 93)):=(((Chg.refl () w).alloc _).alloc _).alloc _
 have KB:Hid _:=kb
 clear kb
 have ea:behind ls fs f 4 A B=[0]:=by simp [behind]
 rw [ea]
 clear ea
 go_enter Try.func76,Try.ntmps76
 go_wp2
 go_ret
 exact ⟨_,rfl,IntsV.lit [0] 1 rfl (by simp) (by omega) (by unfold maxLen;omega),KB.out.alloc _⟩
theorem bh_5 (ta fa la ca:Option Addr) (tc fc lc cn cc:Nat) (ls:List (List Int)) (fs:List Fn) (f:Fn) (A B:Int) (w:World) (base:Nat) (hbase:base<=w.heap.size) (_ht:TypesV w base (.slice ta ls.length tc) ls) (_hf:FuncsV 78 93 w base (.slice fa fs.length fc) fs) (hl:IntsV w base (.slice la f.locals.length lc) f.locals)
 (_hn:ls.length<=10000) :
 Calls Try.prog 76 #[.agg #[.slice ta ls.length tc,.slice fa fs.length fc],.agg #[f.args,.slice la f.locals.length lc,f.result,.slice ca cn cc],.agg #[(5:Int),A,B]] w fun e w' =>
  ∃ v,e=.returned v/\IntsV w' base v (behind ls fs f 5 A B)/\Chg () w w':=by
 have kb:Chg () w (((w.alloc (Obj.cells #[.slice ta ls.length tc,.slice fa fs.length fc] 56)).alloc (Obj.cells #[f.args,.slice la f.locals.length lc,f.result,.slice ca cn cc] 78)).alloc (Obj.cells #[(5:Int),A,B] 93)):=(((Chg.refl () w).alloc _).alloc _).alloc _
 have KB:Hid _:=kb
 clear kb
 have ea:behind ls fs f 5 A B=[tyAt f.locals A]:=by simp [behind]
 rw [ea]
 clear ea
 go_enter Try.func76,Try.ntmps76
 go_wp2_with fail
 refine (typeAt_any _ f.locals A _ base (IntsV.chg hl KB.out (fun _ _ _ e=>e))).mono ?_
 rintro e w1 ⟨rfl,rfl⟩
 go_wp2
 go_ret
 exact ⟨_,rfl,IntsV.lit [tyAt f.locals A] 1 rfl (by simp) (by omega) (by unfold maxLen;omega),KB.out.alloc _⟩
theorem bh_6 (ta fa la ca:Option Addr) (tc fc lc cn cc:Nat) (ls:List (List Int)) (fs:List Fn) (f:Fn) (A B:Int) (w:World) (base:Nat) (_hbase:base<=w.heap.size) (_ht:TypesV w base (.slice ta ls.length tc) ls) (_hf:FuncsV 78 93 w base (.slice fa fs.length fc) fs) (_hl:IntsV w base (.slice la f.locals.length lc) f.locals)
 (_hn:ls.length<=10000) :
 Calls Try.prog 76 #[.agg #[.slice ta ls.length tc,.slice fa fs.length fc],.agg #[f.args,.slice la f.locals.length lc,f.result,.slice ca cn cc],.agg #[(6:Int),A,B]] w fun e w' =>
  ∃ v,e=.returned v/\IntsV w' base v (behind ls fs f 6 A B)/\Chg () w w':=by
 have kb:Chg () w (((w.alloc (Obj.cells #[.slice ta ls.length tc,.slice fa fs.length fc] 56)).alloc (Obj.cells #[f.args,.slice la f.locals.length lc,f.result,.slice ca cn cc] 78)).alloc (Obj.cells #[(6:Int),A,B] 93)):=(((Chg.refl () w).alloc _).alloc _).alloc _
 have KB:Hid _:=kb
 clear kb
 have ea:behind ls fs f 6 A B=[]:=by simp [behind]
 rw [ea]
 clear ea
 go_enter Try.func76,Try.ntmps76
 go_wp2
 go_ret
 exact ⟨_,rfl,World.ownsRow_nil _ _ _ _,KB.out⟩
theorem bh_7 (ta fa la ca:Option Addr) (tc fc lc cn cc:Nat) (ls:List (List Int)) (fs:List Fn) (f:Fn) (A B:Int) (w:World) (base:Nat) (hbase:base<=w.heap.size) (_ht:TypesV w base (.slice ta ls.length tc) ls) (_hf:FuncsV 78 93 w base (.slice fa fs.length fc) fs) (_hl:IntsV w base (.slice la f.locals.length lc) f.locals)
 (_hn:ls.length<=10000) :
 Calls Try.prog 76 #[.agg #[.slice ta ls.length tc,.slice fa fs.length fc],.agg #[f.args,.slice la f.locals.length lc,f.result,.slice ca cn cc],.agg #[(7:Int),A,B]] w fun e w' =>
  ∃ v,e=.returned v/\IntsV w' base v (behind ls fs f 7 A B)/\Chg () w w':=by
 have kb:Chg () w (((w.alloc (Obj.cells #[.slice ta ls.length tc,.slice fa fs.length fc] 56)).alloc (Obj.cells #[f.args,.slice la f.locals.length lc,f.result,.slice ca cn cc] 78)).alloc (Obj.cells #[(7:Int),A,B] 93)):=(((Chg.refl () w).alloc _).alloc _).alloc _
 have KB:Hid _:=kb
 clear kb
 have ea:behind ls fs f 7 A B=[A]:=by simp [behind]
 rw [ea]
 clear ea
 go_enter Try.func76,Try.ntmps76
 go_wp2
 go_ret
 exact ⟨_,rfl,IntsV.lit [A] 1 rfl (by simp) (by omega) (by unfold maxLen;omega),KB.out.alloc _⟩
theorem bh_8 (ta fa la ca:Option Addr) (tc fc lc cn cc:Nat) (ls:List (List Int)) (fs:List Fn) (f:Fn) (A B:Int) (w:World) (base:Nat) (hbase:base<=w.heap.size) (ht:TypesV w base (.slice ta ls.length tc) ls) (_hf:FuncsV 78 93 w base (.slice fa fs.length fc) fs) (_hl:IntsV w base (.slice la f.locals.length lc) f.locals)
 (hn:ls.length<=10000) :
 Calls Try.prog 76 #[.agg #[.slice ta ls.length tc,.slice fa fs.length fc],.agg #[f.args,.slice la f.locals.length lc,f.result,.slice ca cn cc],.agg #[(8:Int),A,B]] w fun e w' =>
  ∃ v,e=.returned v/\IntsV w' base v (behind ls fs f 8 A B)/\Chg () w w':=by
 have kb:Chg () w (((w.alloc (Obj.cells #[.slice ta ls.length tc,.slice fa fs.length fc] 56)).alloc (Obj.cells #[f.args,.slice la f.locals.length lc,f.result,.slice ca cn cc] 78)).alloc (Obj.cells #[(8:Int),A,B] 93)):=(((Chg.refl () w).alloc _).alloc _).alloc _
 have KB:Hid _:=kb
 clear kb
 have ea:behind ls fs f 8 A B=[tyAt (flds ls A) B]:=by simp [behind]
 rw [ea]
 clear ea
 go_enter Try.func76,Try.ntmps76
 go_wp2_with fail
 refine (fieldsOf_any _ ls A _ base (ht.new KB.out) hn).mono ?_
 rintro e w1 ⟨u,rfl,hu,rfl⟩
 obtain ⟨ua,uc,rfl⟩:=hu.slice
 go_wp2_with fail
 refine (typeAt_any _ (flds ls A) B _ base hu).mono ?_
 rintro e w1 ⟨rfl,rfl⟩
 go_wp2
 go_ret
 exact ⟨_,rfl,IntsV.lit [tyAt (flds ls A) B] 1 rfl (by simp) (by omega) (by unfold maxLen;omega),KB.out.alloc _⟩
theorem bh_9 (ta fa la ca:Option Addr) (tc fc lc cn cc:Nat) (ls:List (List Int)) (fs:List Fn) (f:Fn) (A B:Int) (w:World) (base:Nat) (_hbase:base<=w.heap.size) (_ht:TypesV w base (.slice ta ls.length tc) ls) (_hf:FuncsV 78 93 w base (.slice fa fs.length fc) fs) (_hl:IntsV w base (.slice la f.locals.length lc) f.locals)
 (_hn:ls.length<=10000) :
 Calls Try.prog 76 #[.agg #[.slice ta ls.length tc,.slice fa fs.length fc],.agg #[f.args,.slice la f.locals.length lc,f.result,.slice ca cn cc],.agg #[(9:Int),A,B]] w fun e w' =>
  ∃ v,e=.returned v/\IntsV w' base v (behind ls fs f 9 A B)/\Chg () w w':=by
 have kb:Chg () w (((w.alloc (Obj.cells #[.slice ta ls.length tc,.slice fa fs.length fc] 56)).alloc (Obj.cells #[f.args,.slice la f.locals.length lc,f.result,.slice ca cn cc] 78)).alloc (Obj.cells #[(9:Int),A,B] 93)):=(((Chg.refl () w).alloc _).alloc _).alloc _
 have KB:Hid _:=kb
 clear kb
 have ea:behind ls fs f 9 A B=[]:=by simp [behind]
 rw [ea]
 clear ea
 go_enter Try.func76,Try.ntmps76
 go_wp2
 go_ret
 exact ⟨_,rfl,World.ownsRow_nil _ _ _ _,KB.out⟩
theorem bh_10 (ta fa la ca:Option Addr) (tc fc lc cn cc:Nat) (ls:List (List Int)) (fs:List Fn) (f:Fn) (A B:Int) (w:World) (base:Nat) (hbase:base<=w.heap.size) (_ht:TypesV w base (.slice ta ls.length tc) ls) (_hf:FuncsV 78 93 w base (.slice fa fs.length fc) fs) (_hl:IntsV w base (.slice la f.locals.length lc) f.locals)
 (_hn:ls.length<=10000) :
 Calls Try.prog 76 #[.agg #[.slice ta ls.length tc,.slice fa fs.length fc],.agg #[f.args,.slice la f.locals.length lc,f.result,.slice ca cn cc],.agg #[(10:Int),A,B]] w fun e w' =>
  ∃ v,e=.returned v/\IntsV w' base v (behind ls fs f 10 A B)/\Chg () w w':=by
 have kb:Chg () w (((w.alloc (Obj.cells #[.slice ta ls.length tc,.slice fa fs.length fc] 56)).alloc (Obj.cells #[f.args,.slice la f.locals.length lc,f.result,.slice ca cn cc] 78)).alloc (Obj.cells #[(10:Int),A,B] 93)):=(((Chg.refl () w).alloc _).alloc _).alloc _
 have KB:Hid _:=kb
 clear kb
 have ea:behind ls fs f 10 A B=[A]:=by simp [behind]
 rw [ea]
 clear ea
 go_enter Try.func76,Try.ntmps76
 go_wp2
 go_ret
 exact ⟨_,rfl,IntsV.lit [A] 1 rfl (by simp) (by omega) (by unfold maxLen;omega),KB.out.alloc _⟩
theorem bh_11 (ta fa la ca:Option Addr) (tc fc lc cn cc:Nat) (ls:List (List Int)) (fs:List Fn) (f:Fn) (A B:Int) (w:World) (base:Nat) (hbase:base<=w.heap.size) (_ht:TypesV w base (.slice ta ls.length tc) ls) (_hf:FuncsV 78 93 w base (.slice fa fs.length fc) fs) (_hl:IntsV w base (.slice la f.locals.length lc) f.locals)
 (_hn:ls.length<=10000) :
 Calls Try.prog 76 #[.agg #[.slice ta ls.length tc,.slice fa fs.length fc],.agg #[f.args,.slice la f.locals.length lc,f.result,.slice ca cn cc],.agg #[(11:Int),A,B]] w fun e w' =>
  ∃ v,e=.returned v/\IntsV w' base v (behind ls fs f 11 A B)/\Chg () w w':=by
 have kb:Chg () w (((w.alloc (Obj.cells #[.slice ta ls.length tc,.slice fa fs.length fc] 56)).alloc (Obj.cells #[f.args,.slice la f.locals.length lc,f.result,.slice ca cn cc] 78)).alloc (Obj.cells #[(11:Int),A,B] 93)):=(((Chg.refl () w).alloc _).alloc _).alloc _
 have KB:Hid _:=kb
 clear kb
 have ea:behind ls fs f 11 A B=[0]:=by simp [behind]
 rw [ea]
 clear ea
 go_enter Try.func76,Try.ntmps76
 go_wp2
 go_ret
 exact ⟨_,rfl,IntsV.lit [0] 1 rfl (by simp) (by omega) (by unfold maxLen;omega),KB.out.alloc _⟩
theorem bh_12 (ta fa la ca:Option Addr) (tc fc lc cn cc:Nat) (ls:List (List Int)) (fs:List Fn) (f:Fn) (A B:Int) (w:World) (base:Nat) (hbase:base<=w.heap.size) (_ht:TypesV w base (.slice ta ls.length tc) ls) (_hf:FuncsV 78 93 w base (.slice fa fs.length fc) fs) (_hl:IntsV w base (.slice la f.locals.length lc) f.locals)
 (_hn:ls.length<=10000) :
 Calls Try.prog 76 #[.agg #[.slice ta ls.length tc,.slice fa fs.length fc],.agg #[f.args,.slice la f.locals.length lc,f.result,.slice ca cn cc],.agg #[(12:Int),A,B]] w fun e w' =>
  ∃ v,e=.returned v/\IntsV w' base v (behind ls fs f 12 A B)/\Chg () w w':=by
 have kb:Chg () w (((w.alloc (Obj.cells #[.slice ta ls.length tc,.slice fa fs.length fc] 56)).alloc (Obj.cells #[f.args,.slice la f.locals.length lc,f.result,.slice ca cn cc] 78)).alloc (Obj.cells #[(12:Int),A,B] 93)):=(((Chg.refl () w).alloc _).alloc _).alloc _
 have KB:Hid _:=kb
 clear kb
 have ea:behind ls fs f 12 A B=[0]:=by simp [behind]
 rw [ea]
 clear ea
 go_enter Try.func76,Try.ntmps76
 go_wp2
 go_ret
 exact ⟨_,rfl,IntsV.lit [0] 1 rfl (by simp) (by omega) (by unfold maxLen;omega),KB.out.alloc _⟩
theorem bh_13 (ta fa la ca:Option Addr) (tc fc lc cn cc:Nat) (ls:List (List Int)) (fs:List Fn) (f:Fn) (A B:Int) (w:World) (base:Nat) (_hbase:base<=w.heap.size) (_ht:TypesV w base (.slice ta ls.length tc) ls) (_hf:FuncsV 78 93 w base (.slice fa fs.length fc) fs) (_hl:IntsV w base (.slice la f.locals.length lc) f.locals)
 (_hn:ls.length<=10000) :
 Calls Try.prog 76 #[.agg #[.slice ta ls.length tc,.slice fa fs.length fc],.agg #[f.args,.slice la f.locals.length lc,f.result,.slice ca cn cc],.agg #[(13:Int),A,B]] w fun e w' =>
  ∃ v,e=.returned v/\IntsV w' base v (behind ls fs f 13 A B)/\Chg () w w':=by
 have kb:Chg () w (((w.alloc (Obj.cells #[.slice ta ls.length tc,.slice fa fs.length fc] 56)).alloc (Obj.cells #[f.args,.slice la f.locals.length lc,f.result,.slice ca cn cc] 78)).alloc (Obj.cells #[(13:Int),A,B] 93)):=(((Chg.refl () w).alloc _).alloc _).alloc _
 have KB:Hid _:=kb
 clear kb
 have ea:behind ls fs f 13 A B=[]:=by simp [behind]
 rw [ea]
 clear ea
 go_enter Try.func76,Try.ntmps76
 go_wp2
 go_ret
 exact ⟨_,rfl,World.ownsRow_nil _ _ _ _,KB.out⟩
theorem bh_14 (ta fa la ca:Option Addr) (tc fc lc cn cc:Nat) (ls:List (List Int)) (fs:List Fn) (f:Fn) (A B:Int) (w:World) (base:Nat) (_hbase:base<=w.heap.size) (_ht:TypesV w base (.slice ta ls.length tc) ls) (_hf:FuncsV 78 93 w base (.slice fa fs.length fc) fs) (_hl:IntsV w base (.slice la f.locals.length lc) f.locals)
 (_hn:ls.length<=10000) :
 Calls Try.prog 76 #[.agg #[.slice ta ls.length tc,.slice fa fs.length fc],.agg #[f.args,.slice la f.locals.length lc,f.result,.slice ca cn cc],.agg #[(14:Int),A,B]] w fun e w' =>
  ∃ v,e=.returned v/\IntsV w' base v (behind ls fs f 14 A B)/\Chg () w w':=by
 have kb:Chg () w (((w.alloc (Obj.cells #[.slice ta ls.length tc,.slice fa fs.length fc] 56)).alloc (Obj.cells #[f.args,.slice la f.locals.length lc,f.result,.slice ca cn cc] 78)).alloc (Obj.cells #[(14:Int),A,B] 93)):=(((Chg.refl () w).alloc _).alloc _).alloc _
 have KB:Hid _:=kb
 clear kb
 have ea:behind ls fs f 14 A B=[]:=by simp [behind]
 rw [ea]
 clear ea
 go_enter Try.func76,Try.ntmps76
 go_wp2
 go_ret
 exact ⟨_,rfl,World.ownsRow_nil _ _ _ _,KB.out⟩
theorem bh_15 (ta fa la ca:Option Addr) (tc fc lc cn cc:Nat) (ls:List (List Int)) (fs:List Fn) (f:Fn) (A B:Int) (w:World) (base:Nat) (hbase:base<=w.heap.size) (_ht:TypesV w base (.slice ta ls.length tc) ls) (hf:FuncsV 78 93 w base (.slice fa fs.length fc) fs) (_hl:IntsV w base (.slice la f.locals.length lc) f.locals)
 (_hn:ls.length<=10000) :
 Calls Try.prog 76 #[.agg #[.slice ta ls.length tc,.slice fa fs.length fc],.agg #[f.args,.slice la f.locals.length lc,f.result,.slice ca cn cc],.agg #[(15:Int),A,B]] w fun e w' =>
  ∃ v,e=.returned v/\IntsV w' base v (behind ls fs f 15 A B)/\Chg () w w':=by
 have kb:Chg () w (((w.alloc (Obj.cells #[.slice ta ls.length tc,.slice fa fs.length fc] 56)).alloc (Obj.cells #[f.args,.slice la f.locals.length lc,f.result,.slice ca cn cc] 78)).alloc (Obj.cells #[(15:Int),A,B] 93)):=(((Chg.refl () w).alloc _).alloc _).alloc _
 have KB:Hid _:=kb
 clear kb
 have ea:behind ls fs f 15 A B=[resF fs A]:=by simp [behind]
 rw [ea,resF_eq]
 clear ea
 generalize hg:fnAt fs A=g
 have HG:=hid hg
 clear hg
 go_enter Try.func76,Try.ntmps76
 go_wp2_with fail
 refine (funcAt_any _ fs A _ base (hf.chg KB.out (fun _ _ _ e=>e) (fun _ _ _ e=>e) (fun _ _ _ e=>e))).mono ?_
 rw [HG.out]
 rintro e w1 ⟨u,v,rfl,hu,hv,hch⟩
 have KC:=hid (KB.out.trans hch)
 clear hch
 obtain ⟨ua,uc,rfl⟩:=hu.slice
 obtain ⟨va,vc,rfl⟩:=hv.slice
 clear hu hv
 have hbb:base<=w1.heap.size:=Nat.le_trans hbase KC.out.size
 go_wp2
 go_ret
 exact ⟨_,rfl,IntsV.lit [g.result] 1 rfl (by simp) (by omega) (by unfold maxLen;omega),(KC.out.alloc _).alloc _⟩
theorem bh_16 (ta fa la ca:Option Addr) (tc fc lc cn cc:Nat) (ls:List (List Int)) (fs:List Fn) (f:Fn) (A B:Int) (w:World) (base:Nat) (_hbase:base<=w.heap.size) (_ht:TypesV w base (.slice ta ls.length tc) ls) (_hf:FuncsV 78 93 w base (.slice fa fs.length fc) fs) (_hl:IntsV w base (.slice la f.locals.length lc) f.locals)
 (_hn:ls.length<=10000) :
 Calls Try.prog 76 #[.agg #[.slice ta ls.length tc,.slice fa fs.length fc],.agg #[f.args,.slice la f.locals.length lc,f.result,.slice ca cn cc],.agg #[(16:Int),A,B]] w fun e w' =>
  ∃ v,e=.returned v/\IntsV w' base v (behind ls fs f 16 A B)/\Chg () w w':=by
 have kb:Chg () w (((w.alloc (Obj.cells #[.slice ta ls.length tc,.slice fa fs.length fc] 56)).alloc (Obj.cells #[f.args,.slice la f.locals.length lc,f.result,.slice ca cn cc] 78)).alloc (Obj.cells #[(16:Int),A,B] 93)):=(((Chg.refl () w).alloc _).alloc _).alloc _
 have KB:Hid _:=kb
 clear kb
 have ea:behind ls fs f 16 A B=[]:=by simp [behind]
 rw [ea]
 clear ea
 go_enter Try.func76,Try.ntmps76
 go_wp2
 go_ret
 exact ⟨_,rfl,World.ownsRow_nil _ _ _ _,KB.out⟩
theorem bh_17 (ta fa la ca:Option Addr) (tc fc lc cn cc:Nat) (ls:List (List Int)) (fs:List Fn) (f:Fn) (A B:Int) (w:World) (base:Nat) (_hbase:base<=w.heap.size) (_ht:TypesV w base (.slice ta ls.length tc) ls) (_hf:FuncsV 78 93 w base (.slice fa fs.length fc) fs) (_hl:IntsV w base (.slice la f.locals.length lc) f.locals)
 (_hn:ls.length<=10000) :
 Calls Try.prog 76 #[.agg #[.slice ta ls.length tc,.slice fa fs.length fc],.agg #[f.args,.slice la f.locals.length lc,f.result,.slice ca cn cc],.agg #[(17:Int),A,B]] w fun e w' =>
  ∃ v,e=.returned v/\IntsV w' base v (behind ls fs f 17 A B)/\Chg () w w':=by
 have kb:Chg () w (((w.alloc (Obj.cells #[.slice ta ls.length tc,.slice fa fs.length fc] 56)).alloc (Obj.cells #[f.args,.slice la f.locals.length lc,f.result,.slice ca cn cc] 78)).alloc (Obj.cells #[(17:Int),A,B] 93)):=(((Chg.refl () w).alloc _).alloc _).alloc _
 have KB:Hid _:=kb
 clear kb
 have ea:behind ls fs f 17 A B=[]:=by simp [behind]
 rw [ea]
 clear ea
 go_enter Try.func76,Try.ntmps76
 go_wp2
 go_ret
 exact ⟨_,rfl,World.ownsRow_nil _ _ _ _,KB.out⟩
theorem bh_18 (ta fa la ca:Option Addr) (tc fc lc cn cc:Nat) (ls:List (List Int)) (fs:List Fn) (f:Fn) (A B:Int) (w:World) (base:Nat) (hbase:base<=w.heap.size) (_ht:TypesV w base (.slice ta ls.length tc) ls) (_hf:FuncsV 78 93 w base (.slice fa fs.length fc) fs) (_hl:IntsV w base (.slice la f.locals.length lc) f.locals)
 (_hn:ls.length<=10000) :
 Calls Try.prog 76 #[.agg #[.slice ta ls.length tc,.slice fa fs.length fc],.agg #[f.args,.slice la f.locals.length lc,f.result,.slice ca cn cc],.agg #[(18:Int),A,B]] w fun e w' =>
  ∃ v,e=.returned v/\IntsV w' base v (behind ls fs f 18 A B)/\Chg () w w':=by
 have kb:Chg () w (((w.alloc (Obj.cells #[.slice ta ls.length tc,.slice fa fs.length fc] 56)).alloc (Obj.cells #[f.args,.slice la f.locals.length lc,f.result,.slice ca cn cc] 78)).alloc (Obj.cells #[(18:Int),A,B] 93)):=(((Chg.refl () w).alloc _).alloc _).alloc _
 have KB:Hid _:=kb
 clear kb
 have ea:behind ls fs f 18 A B=[0]:=by simp [behind]
 rw [ea]
 clear ea
 go_enter Try.func76,Try.ntmps76
 go_wp2
 go_ret
 exact ⟨_,rfl,IntsV.lit [0] 1 rfl (by simp) (by omega) (by unfold maxLen;omega),KB.out.alloc _⟩
theorem stackBehind_any (tv fv lv cv:Value) (ls:List (List Int)) (fs:List Fn) (f:Fn) (op A B:Int) (w:World) (base:Nat) (hbase:base<=w.heap.size) (ht:TypesV w base tv ls) (hf:FuncsV 78 93 w base fv fs) (hl:IntsV w base lv f.locals) (hc:∃ ca n cc,cv=.slice ca n cc)
 (hn:ls.length<=10000) (h1:0<=op) (h2:op<=18) :
 Calls Try.prog 76 #[.agg #[tv,fv],.agg #[f.args,lv,f.result,cv],.agg #[op,A,B]] w fun e w' =>
  ∃ v,e=.returned v/\IntsV w' base v (behind ls fs f op A B)/\Chg () w w':=by
 have hop:op=0 \/ op=1 \/ op=2 \/ op=3 \/ op=4 \/ op=5 \/ op=6 \/ op=7 \/ op=8 \/ op=9 \/ op=10 \/ op=11 \/ op=12 \/ op=13 \/ op=14 \/ op=15 \/ op=16 \/ op=17 \/ op=18:=by omega
 clear h1 h2
 obtain ⟨ta,tc,rfl⟩:=ht.slice
 obtain ⟨fa,fc,rfl⟩:=hf.slice
 obtain ⟨la,lc,rfl⟩:=hl.slice
 obtain ⟨ca,cn,cc,rfl⟩:=hc
 rcases hop with rfl | rfl | rfl | rfl | rfl | rfl | rfl | rfl | rfl | rfl | rfl | rfl | rfl | rfl | rfl | rfl | rfl | rfl | rfl
 ·exact bh_0 ta fa la ca tc fc lc cn cc ls fs f A B w base hbase ht hf hl hn
 ·exact bh_1 ta fa la ca tc fc lc cn cc ls fs f A B w base hbase ht hf hl hn
 ·exact bh_2 ta fa la ca tc fc lc cn cc ls fs f A B w base hbase ht hf hl hn
 ·exact bh_3 ta fa la ca tc fc lc cn cc ls fs f A B w base hbase ht hf hl hn
 ·exact bh_4 ta fa la ca tc fc lc cn cc ls fs f A B w base hbase ht hf hl hn
 ·exact bh_5 ta fa la ca tc fc lc cn cc ls fs f A B w base hbase ht hf hl hn
 ·exact bh_6 ta fa la ca tc fc lc cn cc ls fs f A B w base hbase ht hf hl hn
 ·exact bh_7 ta fa la ca tc fc lc cn cc ls fs f A B w base hbase ht hf hl hn
 ·exact bh_8 ta fa la ca tc fc lc cn cc ls fs f A B w base hbase ht hf hl hn
 ·exact bh_9 ta fa la ca tc fc lc cn cc ls fs f A B w base hbase ht hf hl hn
 ·exact bh_10 ta fa la ca tc fc lc cn cc ls fs f A B w base hbase ht hf hl hn
 ·exact bh_11 ta fa la ca tc fc lc cn cc ls fs f A B w base hbase ht hf hl hn
 ·exact bh_12 ta fa la ca tc fc lc cn cc ls fs f A B w base hbase ht hf hl hn
 ·exact bh_13 ta fa la ca tc fc lc cn cc ls fs f A B w base hbase ht hf hl hn
 ·exact bh_14 ta fa la ca tc fc lc cn cc ls fs f A B w base hbase ht hf hl hn
 ·exact bh_15 ta fa la ca tc fc lc cn cc ls fs f A B w base hbase ht hf hl hn
 ·exact bh_16 ta fa la ca tc fc lc cn cc ls fs f A B w base hbase ht hf hl hn
 ·exact bh_17 ta fa la ca tc fc lc cn cc ls fs f A B w base hbase ht hf hl hn
 ·exact bh_18 ta fa la ca tc fc lc cn cc ls fs f A B w base hbase ht hf hl hn
end Go.Proofs.Ytnfnbcbadakofab
