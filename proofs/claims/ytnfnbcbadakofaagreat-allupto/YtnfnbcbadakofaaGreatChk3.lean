import Derived.Test.YtnfnbcbadakofaaGreatRfun
namespace Go.Proofs.YtnfnbcbadakofaaGreat
open Go.RowKit
set_option maxHeartbeats 400000
set_option maxRecDepth 100000
def ak (ls:List (List Int)) (fs:List Fn) (f:Fn) (op A B:Int):List Int:=
 if op=1 \/ op=2 \/ op=3 \/ op=4 then [0,0] else if op=14 \/ op=17 then [0] else if op=6 then [aU f.locals A]
 else if op=7 then flds ls A else if op=8 \/ op=11 then [A] else if op=9 then [A,aU (flds ls A) B] else if op=12 then [A,A]
 else if op=15 then aP fs A else if op=16 then [f.result] else []
theorem ad.lit {W:World} {base b:Nat} (l:List Int) (n:Nat) (hn:l.length=n) (h:W.heap.size=b) (hb:base<=b) (hm:n<=maxLen):ad (W.alloc (.cells (aE l).toArray 3)) base (.slice b n n) l:=by
 subst hn;subst h
 exact ⟨by simp [aE],.inr ⟨W.heap.size,l.length,(aE l).toArray,rfl,hb,heap_alloc_new W _,Nat.le_refl _,hm,by simp [aE],by simp only [Nat.mul_one,aE];rw [List.take_of_length_le (by simp)]⟩⟩
theorem wh (ta fa la ca:Option Addr) (tc fc lc cn cc:Nat) (ls:List (List Int)) (fs:List Fn) (f:Fn) (A B:Int) (w:World) (base:Nat) (_hbase:base<=w.heap.size) (_ht:ai w base (.slice ta ls.length tc) ls) (_hf:aj 111 135 w base (.slice fa fs.length fc) fs) (_hl:ad w base (.slice la f.locals.length lc) f.locals)
 (_hn:ls.length<=10000) :
 Calls Tryz.prog 76 #[.agg #[.slice ta ls.length tc,.slice fa fs.length fc],.agg #[f.args,.slice la f.locals.length lc,f.result,.slice ca cn cc],.agg #[oO,A,B]] w fun e w' =>
  ∃ v,e=.returned v/\ad w' base v (ak ls fs f 0 A B)/\Chg () w w':=by
 have kb:Chg () w (((w.alloc (Obj.cells #[.slice ta ls.length tc,.slice fa fs.length fc] 56)).alloc (Obj.cells #[f.args,.slice la f.locals.length lc,f.result,.slice ca cn cc] 111)).alloc (Obj.cells #[oO,A,B] 135)):=(((Chg.refl () w).alloc _).alloc _).alloc _
 have KB:Hid _:=kb
 clear kb
 have ea:ak ls fs f 0 A B=[]:=by simp [ak]
 rw [ea]
 clear ea
 go_enter Tryz.func76,Tryz.ntmps76
 go_wp2
 go_ret
 exact ⟨_,rfl,World.ownsRow_nil _ _ _ _,KB.out⟩
theorem vq (ta fa la ca:Option Addr) (tc fc lc cn cc:Nat) (ls:List (List Int)) (fs:List Fn) (f:Fn) (A B:Int) (w:World) (base:Nat) (hbase:base<=w.heap.size) (_ht:ai w base (.slice ta ls.length tc) ls) (_hf:aj 111 135 w base (.slice fa fs.length fc) fs) (_hl:ad w base (.slice la f.locals.length lc) f.locals)
 (_hn:ls.length<=10000) :
 Calls Tryz.prog 76 #[.agg #[.slice ta ls.length tc,.slice fa fs.length fc],.agg #[f.args,.slice la f.locals.length lc,f.result,.slice ca cn cc],.agg #[(1:Int),A,B]] w fun e w' =>
  ∃ v,e=.returned v/\ad w' base v (ak ls fs f 1 A B)/\Chg () w w':=by
 have kb:Chg () w (((w.alloc (Obj.cells #[.slice ta ls.length tc,.slice fa fs.length fc] 56)).alloc (Obj.cells #[f.args,.slice la f.locals.length lc,f.result,.slice ca cn cc] 111)).alloc (Obj.cells #[(1:Int),A,B] 135)):=(((Chg.refl () w).alloc _).alloc _).alloc _
 have KB:Hid _:=kb
 clear kb
 have ea:ak ls fs f 1 A B=[0,0]:=by simp [ak]
 rw [ea]
 clear ea
 go_enter Tryz.func76,Tryz.ntmps76
 go_wp2
 go_ret
 exact ⟨_,rfl,ad.lit [0,0] 2 rfl (by simp) (by omega) (by unfold maxLen;omega),KB.out.alloc _⟩
theorem vI (ta fa la ca:Option Addr) (tc fc lc cn cc:Nat) (ls:List (List Int)) (fs:List Fn) (f:Fn) (A B:Int) (w:World) (base:Nat) (hbase:base<=w.heap.size) (_ht:ai w base (.slice ta ls.length tc) ls) (_hf:aj 111 135 w base (.slice fa fs.length fc) fs) (_hl:ad w base (.slice la f.locals.length lc) f.locals)
 (_hn:ls.length<=10000) :
 Calls Tryz.prog 76 #[.agg #[.slice ta ls.length tc,.slice fa fs.length fc],.agg #[f.args,.slice la f.locals.length lc,f.result,.slice ca cn cc],.agg #[(2:Int),A,B]] w fun e w' =>
  ∃ v,e=.returned v/\ad w' base v (ak ls fs f 2 A B)/\Chg () w w':=by
 have kb:Chg () w (((w.alloc (Obj.cells #[.slice ta ls.length tc,.slice fa fs.length fc] 56)).alloc (Obj.cells #[f.args,.slice la f.locals.length lc,f.result,.slice ca cn cc] 111)).alloc (Obj.cells #[(2:Int),A,B] 135)):=(((Chg.refl () w).alloc _).alloc _).alloc _
 have KB:Hid _:=kb
 clear kb
 have ea:ak ls fs f 2 A B=[0,0]:=by simp [ak]
 rw [ea]
 clear ea
 go_enter Tryz.func76,Tryz.ntmps76
 go_wp2
 go_ret
 exact ⟨_,rfl,ad.lit [0,0] 2 rfl (by simp) (by omega) (by unfold maxLen;omega),KB.out.alloc _⟩
theorem wg (ta fa la ca:Option Addr) (tc fc lc cn cc:Nat) (ls:List (List Int)) (fs:List Fn) (f:Fn) (A B:Int) (w:World) (base:Nat) (hbase:base<=w.heap.size) (_ht:ai w base (.slice ta ls.length tc) ls) (_hf:aj 111 135 w base (.slice fa fs.length fc) fs) (_hl:ad w base (.slice la f.locals.length lc) f.locals)
 (_hn:ls.length<=10000) :
 Calls Tryz.prog 76 #[.agg #[.slice ta ls.length tc,.slice fa fs.length fc],.agg #[f.args,.slice la f.locals.length lc,f.result,.slice ca cn cc],.agg #[(3:Int),A,B]] w fun e w' =>
  ∃ v,e=.returned v/\ad w' base v (ak ls fs f 3 A B)/\Chg () w w':=by
 have kb:Chg () w (((w.alloc (Obj.cells #[.slice ta ls.length tc,.slice fa fs.length fc] 56)).alloc (Obj.cells #[f.args,.slice la f.locals.length lc,f.result,.slice ca cn cc] 111)).alloc (Obj.cells #[(3:Int),A,B] 135)):=(((Chg.refl () w).alloc _).alloc _).alloc _
 have KB:Hid _:=kb
 clear kb
 have ea:ak ls fs f 3 A B=[0,0]:=by simp [ak]
 rw [ea]
 clear ea
 go_enter Tryz.func76,Tryz.ntmps76
 go_wp2
 go_ret
 exact ⟨_,rfl,ad.lit [0,0] 2 rfl (by simp) (by omega) (by unfold maxLen;omega),KB.out.alloc _⟩
theorem wm (ta fa la ca:Option Addr) (tc fc lc cn cc:Nat) (ls:List (List Int)) (fs:List Fn) (f:Fn) (A B:Int) (w:World) (base:Nat) (hbase:base<=w.heap.size) (_ht:ai w base (.slice ta ls.length tc) ls) (_hf:aj 111 135 w base (.slice fa fs.length fc) fs) (_hl:ad w base (.slice la f.locals.length lc) f.locals)
 (_hn:ls.length<=10000) :
 Calls Tryz.prog 76 #[.agg #[.slice ta ls.length tc,.slice fa fs.length fc],.agg #[f.args,.slice la f.locals.length lc,f.result,.slice ca cn cc],.agg #[(4:Int),A,B]] w fun e w' =>
  ∃ v,e=.returned v/\ad w' base v (ak ls fs f 4 A B)/\Chg () w w':=by
 have kb:Chg () w (((w.alloc (Obj.cells #[.slice ta ls.length tc,.slice fa fs.length fc] 56)).alloc (Obj.cells #[f.args,.slice la f.locals.length lc,f.result,.slice ca cn cc] 111)).alloc (Obj.cells #[(4:Int),A,B] 135)):=(((Chg.refl () w).alloc _).alloc _).alloc _
 have KB:Hid _:=kb
 clear kb
 have ea:ak ls fs f 4 A B=[0,0]:=by simp [ak]
 rw [ea]
 clear ea
 go_enter Tryz.func76,Tryz.ntmps76
 go_wp2
 go_ret
 exact ⟨_,rfl,ad.lit [0,0] 2 rfl (by simp) (by omega) (by unfold maxLen;omega),KB.out.alloc _⟩
theorem vU (ta fa la ca:Option Addr) (tc fc lc cn cc:Nat) (ls:List (List Int)) (fs:List Fn) (f:Fn) (A B:Int) (w:World) (base:Nat) (_hbase:base<=w.heap.size) (_ht:ai w base (.slice ta ls.length tc) ls) (_hf:aj 111 135 w base (.slice fa fs.length fc) fs) (_hl:ad w base (.slice la f.locals.length lc) f.locals)
 (_hn:ls.length<=10000) :
 Calls Tryz.prog 76 #[.agg #[.slice ta ls.length tc,.slice fa fs.length fc],.agg #[f.args,.slice la f.locals.length lc,f.result,.slice ca cn cc],.agg #[(5:Int),A,B]] w fun e w' =>
  ∃ v,e=.returned v/\ad w' base v (ak ls fs f 5 A B)/\Chg () w w':=by
 have kb:Chg () w (((w.alloc (Obj.cells #[.slice ta ls.length tc,.slice fa fs.length fc] 56)).alloc (Obj.cells #[f.args,.slice la f.locals.length lc,f.result,.slice ca cn cc] 111)).alloc (Obj.cells #[(5:Int),A,B] 135)):=(((Chg.refl () w).alloc _).alloc _).alloc _
 have KB:Hid _:=kb
 clear kb
 have ea:ak ls fs f 5 A B=[]:=by simp [ak]
 rw [ea]
 clear ea
 go_enter Tryz.func76,Tryz.ntmps76
 go_wp2
 go_ret
 exact ⟨_,rfl,World.ownsRow_nil _ _ _ _,KB.out⟩
theorem vX (ta fa la ca:Option Addr) (tc fc lc cn cc:Nat) (ls:List (List Int)) (fs:List Fn) (f:Fn) (A B:Int) (w:World) (base:Nat) (hbase:base<=w.heap.size) (_ht:ai w base (.slice ta ls.length tc) ls) (_hf:aj 111 135 w base (.slice fa fs.length fc) fs) (hl:ad w base (.slice la f.locals.length lc) f.locals)
 (_hn:ls.length<=10000) :
 Calls Tryz.prog 76 #[.agg #[.slice ta ls.length tc,.slice fa fs.length fc],.agg #[f.args,.slice la f.locals.length lc,f.result,.slice ca cn cc],.agg #[(6:Int),A,B]] w fun e w' =>
  ∃ v,e=.returned v/\ad w' base v (ak ls fs f 6 A B)/\Chg () w w':=by
 have kb:Chg () w (((w.alloc (Obj.cells #[.slice ta ls.length tc,.slice fa fs.length fc] 56)).alloc (Obj.cells #[f.args,.slice la f.locals.length lc,f.result,.slice ca cn cc] 111)).alloc (Obj.cells #[(6:Int),A,B] 135)):=(((Chg.refl () w).alloc _).alloc _).alloc _
 have KB:Hid _:=kb
 clear kb
 have ea:ak ls fs f 6 A B=[aU f.locals A]:=by simp [ak]
 rw [ea]
 clear ea
 go_enter Tryz.func76,Tryz.ntmps76
 go_wp2_with fail
 refine (bq _ f.locals A _ base (ad.chg hl KB.out (fun _ _ _ e=>e))).mono ?_
 rintro e w1 ⟨rfl,rfl⟩
 go_wp2
 go_ret
 exact ⟨_,rfl,ad.lit [aU f.locals A] 1 rfl (by simp) (by omega) (by unfold maxLen;omega),KB.out.alloc _⟩
theorem vS (ta fa la ca:Option Addr) (tc fc lc cn cc:Nat) (ls:List (List Int)) (fs:List Fn) (f:Fn) (A B:Int) (w:World) (base:Nat) (_hbase:base<=w.heap.size) (ht:ai w base (.slice ta ls.length tc) ls) (_hf:aj 111 135 w base (.slice fa fs.length fc) fs) (_hl:ad w base (.slice la f.locals.length lc) f.locals)
 (hn:ls.length<=10000) :
 Calls Tryz.prog 76 #[.agg #[.slice ta ls.length tc,.slice fa fs.length fc],.agg #[f.args,.slice la f.locals.length lc,f.result,.slice ca cn cc],.agg #[(7:Int),A,B]] w fun e w' =>
  ∃ v,e=.returned v/\ad w' base v (ak ls fs f 7 A B)/\Chg () w w':=by
 have kb:Chg () w (((w.alloc (Obj.cells #[.slice ta ls.length tc,.slice fa fs.length fc] 56)).alloc (Obj.cells #[f.args,.slice la f.locals.length lc,f.result,.slice ca cn cc] 111)).alloc (Obj.cells #[(7:Int),A,B] 135)):=(((Chg.refl () w).alloc _).alloc _).alloc _
 have KB:Hid _:=kb
 clear kb
 have ea:ak ls fs f 7 A B=flds ls A:=by simp [ak]
 rw [ea]
 clear ea
 go_enter Tryz.func76,Tryz.ntmps76
 go_wp2_with fail
 refine (bO _ ls A _ base (ht.new KB.out) hn).mono ?_
 rintro e w1 ⟨u,rfl,hu,rfl⟩
 obtain ⟨ua,uc,rfl⟩:=hu.slice
 go_wp2
 go_ret
 exact ⟨_,rfl,hu,KB.out⟩
theorem vA (ta fa la ca:Option Addr) (tc fc lc cn cc:Nat) (ls:List (List Int)) (fs:List Fn) (f:Fn) (A B:Int) (w:World) (base:Nat) (hbase:base<=w.heap.size) (_ht:ai w base (.slice ta ls.length tc) ls) (_hf:aj 111 135 w base (.slice fa fs.length fc) fs) (_hl:ad w base (.slice la f.locals.length lc) f.locals)
 (_hn:ls.length<=10000) :
 Calls Tryz.prog 76 #[.agg #[.slice ta ls.length tc,.slice fa fs.length fc],.agg #[f.args,.slice la f.locals.length lc,f.result,.slice ca cn cc],.agg #[(8:Int),A,B]] w fun e w' =>
  ∃ v,e=.returned v/\ad w' base v (ak ls fs f 8 A B)/\Chg () w w':=by
 have kb:Chg () w (((w.alloc (Obj.cells #[.slice ta ls.length tc,.slice fa fs.length fc] 56)).alloc (Obj.cells #[f.args,.slice la f.locals.length lc,f.result,.slice ca cn cc] 111)).alloc (Obj.cells #[(8:Int),A,B] 135)):=(((Chg.refl () w).alloc _).alloc _).alloc _
 have KB:Hid _:=kb
 clear kb
 have ea:ak ls fs f 8 A B=[A]:=by simp [ak]
 rw [ea]
 clear ea
 go_enter Tryz.func76,Tryz.ntmps76
 go_wp2
 go_ret
 exact ⟨_,rfl,ad.lit [A] 1 rfl (by simp) (by omega) (by unfold maxLen;omega),KB.out.alloc _⟩
theorem vz (ta fa la ca:Option Addr) (tc fc lc cn cc:Nat) (ls:List (List Int)) (fs:List Fn) (f:Fn) (A B:Int) (w:World) (base:Nat) (hbase:base<=w.heap.size) (ht:ai w base (.slice ta ls.length tc) ls) (_hf:aj 111 135 w base (.slice fa fs.length fc) fs) (_hl:ad w base (.slice la f.locals.length lc) f.locals)
 (hn:ls.length<=10000) :
 Calls Tryz.prog 76 #[.agg #[.slice ta ls.length tc,.slice fa fs.length fc],.agg #[f.args,.slice la f.locals.length lc,f.result,.slice ca cn cc],.agg #[(9:Int),A,B]] w fun e w' =>
  ∃ v,e=.returned v/\ad w' base v (ak ls fs f 9 A B)/\Chg () w w':=by
 have kb:Chg () w (((w.alloc (Obj.cells #[.slice ta ls.length tc,.slice fa fs.length fc] 56)).alloc (Obj.cells #[f.args,.slice la f.locals.length lc,f.result,.slice ca cn cc] 111)).alloc (Obj.cells #[(9:Int),A,B] 135)):=(((Chg.refl () w).alloc _).alloc _).alloc _
 have KB:Hid _:=kb
 clear kb
 have ea:ak ls fs f 9 A B=[A,aU (flds ls A) B]:=by simp [ak]
 rw [ea]
 clear ea
 go_enter Tryz.func76,Tryz.ntmps76
 go_wp2_with fail
 refine (bO _ ls A _ base (ht.new KB.out) hn).mono ?_
 rintro e w1 ⟨u,rfl,hu,rfl⟩
 obtain ⟨ua,uc,rfl⟩:=hu.slice
 have b3:Blk (((w.alloc (Obj.cells #[.slice ta ls.length tc,.slice fa fs.length fc] 56)).alloc (Obj.cells #[f.args,.slice la f.locals.length lc,f.result,.slice ca cn cc] 111)).alloc (Obj.cells #[(9:Int),A,B] 135)) (w.heap.size+2) #[.int .i64 9,.int .i64 A,.int .i64 B] 135:=Blk.new' (by simp) _ 135
 have hu0:=hu
 have k0:=KB.out
 go_wp2_with fail
 generalize (((w.alloc (Obj.cells #[.slice ta ls.length tc,.slice fa fs.length fc] 56)).alloc (Obj.cells #[f.args,.slice la f.locals.length lc,f.result,.slice ca cn cc] 111)).alloc (Obj.cells #[(9:Int),A,B] 135))=W at *
 have y1:W.cell? ⟨w.heap.size+2,1,none⟩=some (.int .i64 A):=b3.cell 1
 have y2:W.cell? ⟨w.heap.size+2,2,none⟩=some (.int .i64 B):=b3.cell 2
 have hWs:=k0.size
 go_region_with (go_at_call 53;refine (bq _ (flds ls A) B _ base (by exact hu0)).mono ?_;rintro e w' ⟨rfl,rfl⟩)
 all_goals
  go_wp2
  go_ret
  exact ⟨.slice W.heap.size 2 2,rfl,(by have h9:=ad.lit (W:=W) (base:=base) [A,aU (flds ls A) B] 2 rfl rfl (by omega) (by unfold maxLen;omega);exact h9),((k0.alloc _).drew)⟩
theorem uR (ta fa la ca:Option Addr) (tc fc lc cn cc:Nat) (ls:List (List Int)) (fs:List Fn) (f:Fn) (A B:Int) (w:World) (base:Nat) (_hbase:base<=w.heap.size) (_ht:ai w base (.slice ta ls.length tc) ls) (_hf:aj 111 135 w base (.slice fa fs.length fc) fs) (_hl:ad w base (.slice la f.locals.length lc) f.locals)
 (_hn:ls.length<=10000) :
 Calls Tryz.prog 76 #[.agg #[.slice ta ls.length tc,.slice fa fs.length fc],.agg #[f.args,.slice la f.locals.length lc,f.result,.slice ca cn cc],.agg #[(10:Int),A,B]] w fun e w' =>
  ∃ v,e=.returned v/\ad w' base v (ak ls fs f 10 A B)/\Chg () w w':=by
 have kb:Chg () w (((w.alloc (Obj.cells #[.slice ta ls.length tc,.slice fa fs.length fc] 56)).alloc (Obj.cells #[f.args,.slice la f.locals.length lc,f.result,.slice ca cn cc] 111)).alloc (Obj.cells #[(10:Int),A,B] 135)):=(((Chg.refl () w).alloc _).alloc _).alloc _
 have KB:Hid _:=kb
 clear kb
 have ea:ak ls fs f 10 A B=[]:=by simp [ak]
 rw [ea]
 clear ea
 go_enter Tryz.func76,Tryz.ntmps76
 go_wp2
 go_ret
 exact ⟨_,rfl,World.ownsRow_nil _ _ _ _,KB.out⟩
theorem vo (ta fa la ca:Option Addr) (tc fc lc cn cc:Nat) (ls:List (List Int)) (fs:List Fn) (f:Fn) (A B:Int) (w:World) (base:Nat) (hbase:base<=w.heap.size) (_ht:ai w base (.slice ta ls.length tc) ls) (_hf:aj 111 135 w base (.slice fa fs.length fc) fs) (_hl:ad w base (.slice la f.locals.length lc) f.locals)
 (_hn:ls.length<=10000) :
 Calls Tryz.prog 76 #[.agg #[.slice ta ls.length tc,.slice fa fs.length fc],.agg #[f.args,.slice la f.locals.length lc,f.result,.slice ca cn cc],.agg #[(11:Int),A,B]] w fun e w' =>
  ∃ v,e=.returned v/\ad w' base v (ak ls fs f 11 A B)/\Chg () w w':=by
 have kb:Chg () w (((w.alloc (Obj.cells #[.slice ta ls.length tc,.slice fa fs.length fc] 56)).alloc (Obj.cells #[f.args,.slice la f.locals.length lc,f.result,.slice ca cn cc] 111)).alloc (Obj.cells #[(11:Int),A,B] 135)):=(((Chg.refl () w).alloc _).alloc _).alloc _
 have KB:Hid _:=kb
 clear kb
 have ea:ak ls fs f 11 A B=[A]:=by simp [ak]
 rw [ea]
 clear ea
 go_enter Tryz.func76,Tryz.ntmps76
 go_wp2
 go_ret
 exact ⟨_,rfl,ad.lit [A] 1 rfl (by simp) (by omega) (by unfold maxLen;omega),KB.out.alloc _⟩
theorem tW (ta fa la ca:Option Addr) (tc fc lc cn cc:Nat) (ls:List (List Int)) (fs:List Fn) (f:Fn) (A B:Int) (w:World) (base:Nat) (hbase:base<=w.heap.size) (_ht:ai w base (.slice ta ls.length tc) ls) (_hf:aj 111 135 w base (.slice fa fs.length fc) fs) (_hl:ad w base (.slice la f.locals.length lc) f.locals)
 (_hn:ls.length<=10000) :
 Calls Tryz.prog 76 #[.agg #[.slice ta ls.length tc,.slice fa fs.length fc],.agg #[f.args,.slice la f.locals.length lc,f.result,.slice ca cn cc],.agg #[(12:Int),A,B]] w fun e w' =>
  ∃ v,e=.returned v/\ad w' base v (ak ls fs f 12 A B)/\Chg () w w':=by
 have kb:Chg () w (((w.alloc (Obj.cells #[.slice ta ls.length tc,.slice fa fs.length fc] 56)).alloc (Obj.cells #[f.args,.slice la f.locals.length lc,f.result,.slice ca cn cc] 111)).alloc (Obj.cells #[(12:Int),A,B] 135)):=(((Chg.refl () w).alloc _).alloc _).alloc _
 have KB:Hid _:=kb
 clear kb
 have ea:ak ls fs f 12 A B=[A,A]:=by simp [ak]
 rw [ea]
 clear ea
 go_enter Tryz.func76,Tryz.ntmps76
 go_wp2
 go_ret
 exact ⟨_,rfl,ad.lit [A,A] 2 rfl (by simp) (by omega) (by unfold maxLen;omega),KB.out.alloc _⟩
theorem tT (ta fa la ca:Option Addr) (tc fc lc cn cc:Nat) (ls:List (List Int)) (fs:List Fn) (f:Fn) (A B:Int) (w:World) (base:Nat) (_hbase:base<=w.heap.size) (_ht:ai w base (.slice ta ls.length tc) ls) (_hf:aj 111 135 w base (.slice fa fs.length fc) fs) (_hl:ad w base (.slice la f.locals.length lc) f.locals)
 (_hn:ls.length<=10000) :
 Calls Tryz.prog 76 #[.agg #[.slice ta ls.length tc,.slice fa fs.length fc],.agg #[f.args,.slice la f.locals.length lc,f.result,.slice ca cn cc],.agg #[(13:Int),A,B]] w fun e w' =>
  ∃ v,e=.returned v/\ad w' base v (ak ls fs f 13 A B)/\Chg () w w':=by
 have kb:Chg () w (((w.alloc (Obj.cells #[.slice ta ls.length tc,.slice fa fs.length fc] 56)).alloc (Obj.cells #[f.args,.slice la f.locals.length lc,f.result,.slice ca cn cc] 111)).alloc (Obj.cells #[(13:Int),A,B] 135)):=(((Chg.refl () w).alloc _).alloc _).alloc _
 have KB:Hid _:=kb
 clear kb
 have ea:ak ls fs f 13 A B=[]:=by simp [ak]
 rw [ea]
 clear ea
 go_enter Tryz.func76,Tryz.ntmps76
 go_wp2
 go_ret
 exact ⟨_,rfl,World.ownsRow_nil _ _ _ _,KB.out⟩
theorem uZ (ta fa la ca:Option Addr) (tc fc lc cn cc:Nat) (ls:List (List Int)) (fs:List Fn) (f:Fn) (A B:Int) (w:World) (base:Nat) (hbase:base<=w.heap.size) (_ht:ai w base (.slice ta ls.length tc) ls) (_hf:aj 111 135 w base (.slice fa fs.length fc) fs) (_hl:ad w base (.slice la f.locals.length lc) f.locals)
 (_hn:ls.length<=10000) :
 Calls Tryz.prog 76 #[.agg #[.slice ta ls.length tc,.slice fa fs.length fc],.agg #[f.args,.slice la f.locals.length lc,f.result,.slice ca cn cc],.agg #[(14:Int),A,B]] w fun e w' =>
  ∃ v,e=.returned v/\ad w' base v (ak ls fs f 14 A B)/\Chg () w w':=by
 have kb:Chg () w (((w.alloc (Obj.cells #[.slice ta ls.length tc,.slice fa fs.length fc] 56)).alloc (Obj.cells #[f.args,.slice la f.locals.length lc,f.result,.slice ca cn cc] 111)).alloc (Obj.cells #[(14:Int),A,B] 135)):=(((Chg.refl () w).alloc _).alloc _).alloc _
 have KB:Hid _:=kb
 clear kb
 have ea:ak ls fs f 14 A B=[0]:=by simp [ak]
 rw [ea]
 clear ea
 go_enter Tryz.func76,Tryz.ntmps76
 go_wp2
 go_ret
 exact ⟨_,rfl,ad.lit [0] 1 rfl (by simp) (by omega) (by unfold maxLen;omega),KB.out.alloc _⟩
theorem uh (ta fa la ca:Option Addr) (tc fc lc cn cc:Nat) (ls:List (List Int)) (fs:List Fn) (f:Fn) (A B:Int) (w:World) (base:Nat) (_hbase:base<=w.heap.size) (_ht:ai w base (.slice ta ls.length tc) ls) (hf:aj 111 135 w base (.slice fa fs.length fc) fs) (_hl:ad w base (.slice la f.locals.length lc) f.locals)
 (_hn:ls.length<=10000) :
 Calls Tryz.prog 76 #[.agg #[.slice ta ls.length tc,.slice fa fs.length fc],.agg #[f.args,.slice la f.locals.length lc,f.result,.slice ca cn cc],.agg #[(15:Int),A,B]] w fun e w' =>
  ∃ v,e=.returned v/\ad w' base v (ak ls fs f 15 A B)/\Chg () w w':=by
 have kb:Chg () w (((w.alloc (Obj.cells #[.slice ta ls.length tc,.slice fa fs.length fc] 56)).alloc (Obj.cells #[f.args,.slice la f.locals.length lc,f.result,.slice ca cn cc] 111)).alloc (Obj.cells #[(15:Int),A,B] 135)):=(((Chg.refl () w).alloc _).alloc _).alloc _
 have KB:Hid _:=kb
 clear kb
 have ea:ak ls fs f 15 A B=aP fs A:=by simp [ak]
 rw [ea,fY]
 clear ea
 generalize hg:aq fs A=g
 have HG:=hid hg
 clear hg
 go_enter Tryz.func76,Tryz.ntmps76
 go_wp2_with fail
 refine (fq _ fs A _ base (hf.chg KB.out (fun _ _ _ e=>e) (fun _ _ _ e=>e) (fun _ _ _ e=>e))).mono ?_
 rw [HG.out]
 rintro e w1 ⟨u,v,rfl,hu,hv,hch⟩
 have KC:Hid _:=KB.out.trans hch
 clear hch
 obtain ⟨ua,uc,rfl⟩:=hu.slice
 obtain ⟨va,vc,rfl⟩:=hv.slice
 have HU:=hid hu
 clear hu hv
 go_wp2_with fail
 have hb:Chg () w1 (w1.alloc (Obj.cells #[g.args,.slice ua g.locals.length uc,g.result,.slice va g.code.length vc] 111)):=(Chg.refl _ _).alloc _
 refine (io _ g va _ vc _ base (HU.out.chg hb (fun _ _ _ e=>e))).mono ?_
 rintro e w2 ⟨u,rfl,hu2,hch2⟩
 have kd:=KC.out.trans (hb.trans hch2)
 clear hb hch2
 obtain ⟨ra,rc,rfl⟩:=hu2.slice
 go_wp2
 go_ret
 exact ⟨_,rfl,hu2,kd⟩
theorem uo (ta fa la ca:Option Addr) (tc fc lc cn cc:Nat) (ls:List (List Int)) (fs:List Fn) (f:Fn) (A B:Int) (w:World) (base:Nat) (hbase:base<=w.heap.size) (_ht:ai w base (.slice ta ls.length tc) ls) (_hf:aj 111 135 w base (.slice fa fs.length fc) fs) (_hl:ad w base (.slice la f.locals.length lc) f.locals)
 (_hn:ls.length<=10000) :
 Calls Tryz.prog 76 #[.agg #[.slice ta ls.length tc,.slice fa fs.length fc],.agg #[f.args,.slice la f.locals.length lc,f.result,.slice ca cn cc],.agg #[(16:Int),A,B]] w fun e w' =>
  ∃ v,e=.returned v/\ad w' base v (ak ls fs f 16 A B)/\Chg () w w':=by
 have kb:Chg () w (((w.alloc (Obj.cells #[.slice ta ls.length tc,.slice fa fs.length fc] 56)).alloc (Obj.cells #[f.args,.slice la f.locals.length lc,f.result,.slice ca cn cc] 111)).alloc (Obj.cells #[(16:Int),A,B] 135)):=(((Chg.refl () w).alloc _).alloc _).alloc _
 have KB:Hid _:=kb
 clear kb
 have ea:ak ls fs f 16 A B=[f.result]:=by simp [ak]
 rw [ea]
 clear ea
 go_enter Tryz.func76,Tryz.ntmps76
 go_wp2
 go_ret
 exact ⟨_,rfl,ad.lit [f.result] 1 rfl (by simp) (by omega) (by unfold maxLen;omega),KB.out.alloc _⟩
theorem u5 (ta fa la ca:Option Addr) (tc fc lc cn cc:Nat) (ls:List (List Int)) (fs:List Fn) (f:Fn) (A B:Int) (w:World) (base:Nat) (hbase:base<=w.heap.size) (_ht:ai w base (.slice ta ls.length tc) ls) (_hf:aj 111 135 w base (.slice fa fs.length fc) fs) (_hl:ad w base (.slice la f.locals.length lc) f.locals)
 (_hn:ls.length<=10000) :
 Calls Tryz.prog 76 #[.agg #[.slice ta ls.length tc,.slice fa fs.length fc],.agg #[f.args,.slice la f.locals.length lc,f.result,.slice ca cn cc],.agg #[(17:Int),A,B]] w fun e w' =>
  ∃ v,e=.returned v/\ad w' base v (ak ls fs f 17 A B)/\Chg () w w':=by
 have kb:Chg () w (((w.alloc (Obj.cells #[.slice ta ls.length tc,.slice fa fs.length fc] 56)).alloc (Obj.cells #[f.args,.slice la f.locals.length lc,f.result,.slice ca cn cc] 111)).alloc (Obj.cells #[(17:Int),A,B] 135)):=(((Chg.refl () w).alloc _).alloc _).alloc _
 have KB:Hid _:=kb
 clear kb
 have ea:ak ls fs f 17 A B=[0]:=by simp [ak]
 rw [ea]
 clear ea
 go_enter Tryz.func76,Tryz.ntmps76
 go_wp2
 go_ret
 exact ⟨_,rfl,ad.lit [0] 1 rfl (by simp) (by omega) (by unfold maxLen;omega),KB.out.alloc _⟩
theorem tS (ta fa la ca:Option Addr) (tc fc lc cn cc:Nat) (ls:List (List Int)) (fs:List Fn) (f:Fn) (A B:Int) (w:World) (base:Nat) (_hbase:base<=w.heap.size) (_ht:ai w base (.slice ta ls.length tc) ls) (_hf:aj 111 135 w base (.slice fa fs.length fc) fs) (_hl:ad w base (.slice la f.locals.length lc) f.locals)
 (_hn:ls.length<=10000) :
 Calls Tryz.prog 76 #[.agg #[.slice ta ls.length tc,.slice fa fs.length fc],.agg #[f.args,.slice la f.locals.length lc,f.result,.slice ca cn cc],.agg #[(18:Int),A,B]] w fun e w' =>
  ∃ v,e=.returned v/\ad w' base v (ak ls fs f 18 A B)/\Chg () w w':=by
 have kb:Chg () w (((w.alloc (Obj.cells #[.slice ta ls.length tc,.slice fa fs.length fc] 56)).alloc (Obj.cells #[f.args,.slice la f.locals.length lc,f.result,.slice ca cn cc] 111)).alloc (Obj.cells #[(18:Int),A,B] 135)):=(((Chg.refl () w).alloc _).alloc _).alloc _
 have KB:Hid _:=kb
 clear kb
 have ea:ak ls fs f 18 A B=[]:=by simp [ak]
 rw [ea]
 clear ea
 go_enter Tryz.func76,Tryz.ntmps76
 go_wp2
 go_ret
 exact ⟨_,rfl,World.ownsRow_nil _ _ _ _,KB.out⟩
theorem dA (tv fv lv cv:Value) (ls:List (List Int)) (fs:List Fn) (f:Fn) (op A B:Int) (w:World) (base:Nat) (hbase:base<=w.heap.size) (ht:ai w base tv ls) (hf:aj 111 135 w base fv fs) (hl:ad w base lv f.locals) (hc:∃ ca n cc,cv=.slice ca n cc)
 (hn:ls.length<=10000) (h1:0<=op) (h2:op<=18) :
 Calls Tryz.prog 76 #[.agg #[tv,fv],.agg #[f.args,lv,f.result,cv],.agg #[op,A,B]] w fun e w' =>
  ∃ v,e=.returned v/\ad w' base v (ak ls fs f op A B)/\Chg () w w':=by
 have hop:op=0 \/ op=1 \/ op=2 \/ op=3 \/ op=4 \/ op=5 \/ op=6 \/ op=7 \/ op=8 \/ op=9 \/ op=10 \/ op=11 \/ op=12 \/ op=13 \/ op=14 \/ op=15 \/ op=16 \/ op=17 \/ op=18:=by omega
 clear h1 h2
 obtain ⟨ta,tc,rfl⟩:=ht.slice
 obtain ⟨fa,fc,rfl⟩:=hf.slice
 obtain ⟨la,lc,rfl⟩:=hl.slice
 obtain ⟨ca,cn,cc,rfl⟩:=hc
 rcases hop with rfl | rfl | rfl | rfl | rfl | rfl | rfl | rfl | rfl | rfl | rfl | rfl | rfl | rfl | rfl | rfl | rfl | rfl | rfl
 ·exact wh ta fa la ca tc fc lc cn cc ls fs f A B w base hbase ht hf hl hn
 ·exact vq ta fa la ca tc fc lc cn cc ls fs f A B w base hbase ht hf hl hn
 ·exact vI ta fa la ca tc fc lc cn cc ls fs f A B w base hbase ht hf hl hn
 ·exact wg ta fa la ca tc fc lc cn cc ls fs f A B w base hbase ht hf hl hn
 ·exact wm ta fa la ca tc fc lc cn cc ls fs f A B w base hbase ht hf hl hn
 ·exact vU ta fa la ca tc fc lc cn cc ls fs f A B w base hbase ht hf hl hn
 ·exact vX ta fa la ca tc fc lc cn cc ls fs f A B w base hbase ht hf hl hn
 ·exact vS ta fa la ca tc fc lc cn cc ls fs f A B w base hbase ht hf hl hn
 ·exact vA ta fa la ca tc fc lc cn cc ls fs f A B w base hbase ht hf hl hn
 ·exact vz ta fa la ca tc fc lc cn cc ls fs f A B w base hbase ht hf hl hn
 ·exact uR ta fa la ca tc fc lc cn cc ls fs f A B w base hbase ht hf hl hn
 ·exact vo ta fa la ca tc fc lc cn cc ls fs f A B w base hbase ht hf hl hn
 ·exact tW ta fa la ca tc fc lc cn cc ls fs f A B w base hbase ht hf hl hn
 ·exact tT ta fa la ca tc fc lc cn cc ls fs f A B w base hbase ht hf hl hn
 ·exact uZ ta fa la ca tc fc lc cn cc ls fs f A B w base hbase ht hf hl hn
 ·exact uh ta fa la ca tc fc lc cn cc ls fs f A B w base hbase ht hf hl hn
 ·exact uo ta fa la ca tc fc lc cn cc ls fs f A B w base hbase ht hf hl hn
 ·exact u5 ta fa la ca tc fc lc cn cc ls fs f A B w base hbase ht hf hl hn
 ·exact tS ta fa la ca tc fc lc cn cc ls fs f A B w base hbase ht hf hl hn
def ag (ls:List (List Int)) (fs:List Fn) (f:Fn) (op A B:Int):List Int:=
 if op=0 \/ op=1 \/ op=2 \/ op=3 \/ op=4 \/ op=11 \/ op=12 \/ op=18 then [0] else if op=5 then [aU f.locals A]
 else if op=7 \/ op=10 then [A] else if op=8 then [aU (flds ls A) B] else if op=15 then [j5 fs A] else []
theorem vC (ta fa la ca:Option Addr) (tc fc lc cn cc:Nat) (ls:List (List Int)) (fs:List Fn) (f:Fn) (A B:Int) (w:World) (base:Nat) (hbase:base<=w.heap.size) (_ht:ai w base (.slice ta ls.length tc) ls) (_hf:aj 111 135 w base (.slice fa fs.length fc) fs) (_hl:ad w base (.slice la f.locals.length lc) f.locals)
 (_hn:ls.length<=10000) :
 Calls Tryz.prog 89 #[.agg #[.slice ta ls.length tc,.slice fa fs.length fc],.agg #[f.args,.slice la f.locals.length lc,f.result,.slice ca cn cc],.agg #[oO,A,B]] w fun e w' =>
  ∃ v,e=.returned v/\ad w' base v (ag ls fs f 0 A B)/\Chg () w w':=by
 have kb:Chg () w (((w.alloc (Obj.cells #[.slice ta ls.length tc,.slice fa fs.length fc] 56)).alloc (Obj.cells #[f.args,.slice la f.locals.length lc,f.result,.slice ca cn cc] 111)).alloc (Obj.cells #[oO,A,B] 135)):=(((Chg.refl () w).alloc _).alloc _).alloc _
 have KB:Hid _:=kb
 clear kb
 have ea:ag ls fs f 0 A B=[0]:=by simp [ag]
 rw [ea]
 clear ea
 go_enter Tryz.func89,Tryz.ntmps89
 go_wp2
 go_ret
 exact ⟨_,rfl,ad.lit [0] 1 rfl (by simp) (by omega) (by unfold maxLen;omega),KB.out.alloc _⟩
theorem wp (ta fa la ca:Option Addr) (tc fc lc cn cc:Nat) (ls:List (List Int)) (fs:List Fn) (f:Fn) (A B:Int) (w:World) (base:Nat) (hbase:base<=w.heap.size) (_ht:ai w base (.slice ta ls.length tc) ls) (_hf:aj 111 135 w base (.slice fa fs.length fc) fs) (_hl:ad w base (.slice la f.locals.length lc) f.locals)
 (_hn:ls.length<=10000) :
 Calls Tryz.prog 89 #[.agg #[.slice ta ls.length tc,.slice fa fs.length fc],.agg #[f.args,.slice la f.locals.length lc,f.result,.slice ca cn cc],.agg #[(1:Int),A,B]] w fun e w' =>
  ∃ v,e=.returned v/\ad w' base v (ag ls fs f 1 A B)/\Chg () w w':=by
 have kb:Chg () w (((w.alloc (Obj.cells #[.slice ta ls.length tc,.slice fa fs.length fc] 56)).alloc (Obj.cells #[f.args,.slice la f.locals.length lc,f.result,.slice ca cn cc] 111)).alloc (Obj.cells #[(1:Int),A,B] 135)):=(((Chg.refl () w).alloc _).alloc _).alloc _
 have KB:Hid _:=kb
 clear kb
 have ea:ag ls fs f 1 A B=[0]:=by simp [ag]
 rw [ea]
 clear ea
 go_enter Tryz.func89,Tryz.ntmps89
 go_wp2
 go_ret
 exact ⟨_,rfl,ad.lit [0] 1 rfl (by simp) (by omega) (by unfold maxLen;omega),KB.out.alloc _⟩
theorem vR (ta fa la ca:Option Addr) (tc fc lc cn cc:Nat) (ls:List (List Int)) (fs:List Fn) (f:Fn) (A B:Int) (w:World) (base:Nat) (hbase:base<=w.heap.size) (_ht:ai w base (.slice ta ls.length tc) ls) (_hf:aj 111 135 w base (.slice fa fs.length fc) fs) (_hl:ad w base (.slice la f.locals.length lc) f.locals)
 (_hn:ls.length<=10000) :
 Calls Tryz.prog 89 #[.agg #[.slice ta ls.length tc,.slice fa fs.length fc],.agg #[f.args,.slice la f.locals.length lc,f.result,.slice ca cn cc],.agg #[(2:Int),A,B]] w fun e w' =>
  ∃ v,e=.returned v/\ad w' base v (ag ls fs f 2 A B)/\Chg () w w':=by
 have kb:Chg () w (((w.alloc (Obj.cells #[.slice ta ls.length tc,.slice fa fs.length fc] 56)).alloc (Obj.cells #[f.args,.slice la f.locals.length lc,f.result,.slice ca cn cc] 111)).alloc (Obj.cells #[(2:Int),A,B] 135)):=(((Chg.refl () w).alloc _).alloc _).alloc _
 have KB:Hid _:=kb
 clear kb
 have ea:ag ls fs f 2 A B=[0]:=by simp [ag]
 rw [ea]
 clear ea
 go_enter Tryz.func89,Tryz.ntmps89
 go_wp2
 go_ret
 exact ⟨_,rfl,ad.lit [0] 1 rfl (by simp) (by omega) (by unfold maxLen;omega),KB.out.alloc _⟩
theorem vO (ta fa la ca:Option Addr) (tc fc lc cn cc:Nat) (ls:List (List Int)) (fs:List Fn) (f:Fn) (A B:Int) (w:World) (base:Nat) (hbase:base<=w.heap.size) (_ht:ai w base (.slice ta ls.length tc) ls) (_hf:aj 111 135 w base (.slice fa fs.length fc) fs) (_hl:ad w base (.slice la f.locals.length lc) f.locals)
 (_hn:ls.length<=10000) :
 Calls Tryz.prog 89 #[.agg #[.slice ta ls.length tc,.slice fa fs.length fc],.agg #[f.args,.slice la f.locals.length lc,f.result,.slice ca cn cc],.agg #[(3:Int),A,B]] w fun e w' =>
  ∃ v,e=.returned v/\ad w' base v (ag ls fs f 3 A B)/\Chg () w w':=by
 have kb:Chg () w (((w.alloc (Obj.cells #[.slice ta ls.length tc,.slice fa fs.length fc] 56)).alloc (Obj.cells #[f.args,.slice la f.locals.length lc,f.result,.slice ca cn cc] 111)).alloc (Obj.cells #[(3:Int),A,B] 135)):=(((Chg.refl () w).alloc _).alloc _).alloc _
 have KB:Hid _:=kb
 clear kb
 have ea:ag ls fs f 3 A B=[0]:=by simp [ag]
 rw [ea]
 clear ea
 go_enter Tryz.func89,Tryz.ntmps89
 go_wp2
 go_ret
 exact ⟨_,rfl,ad.lit [0] 1 rfl (by simp) (by omega) (by unfold maxLen;omega),KB.out.alloc _⟩
theorem vY (ta fa la ca:Option Addr) (tc fc lc cn cc:Nat) (ls:List (List Int)) (fs:List Fn) (f:Fn) (A B:Int) (w:World) (base:Nat) (hbase:base<=w.heap.size) (_ht:ai w base (.slice ta ls.length tc) ls) (_hf:aj 111 135 w base (.slice fa fs.length fc) fs) (_hl:ad w base (.slice la f.locals.length lc) f.locals)
 (_hn:ls.length<=10000) :
 Calls Tryz.prog 89 #[.agg #[.slice ta ls.length tc,.slice fa fs.length fc],.agg #[f.args,.slice la f.locals.length lc,f.result,.slice ca cn cc],.agg #[(4:Int),A,B]] w fun e w' =>
  ∃ v,e=.returned v/\ad w' base v (ag ls fs f 4 A B)/\Chg () w w':=by
 have kb:Chg () w (((w.alloc (Obj.cells #[.slice ta ls.length tc,.slice fa fs.length fc] 56)).alloc (Obj.cells #[f.args,.slice la f.locals.length lc,f.result,.slice ca cn cc] 111)).alloc (Obj.cells #[(4:Int),A,B] 135)):=(((Chg.refl () w).alloc _).alloc _).alloc _
 have KB:Hid _:=kb
 clear kb
 have ea:ag ls fs f 4 A B=[0]:=by simp [ag]
 rw [ea]
 clear ea
 go_enter Tryz.func89,Tryz.ntmps89
 go_wp2
 go_ret
 exact ⟨_,rfl,ad.lit [0] 1 rfl (by simp) (by omega) (by unfold maxLen;omega),KB.out.alloc _⟩
theorem v9 (ta fa la ca:Option Addr) (tc fc lc cn cc:Nat) (ls:List (List Int)) (fs:List Fn) (f:Fn) (A B:Int) (w:World) (base:Nat) (hbase:base<=w.heap.size) (_ht:ai w base (.slice ta ls.length tc) ls) (_hf:aj 111 135 w base (.slice fa fs.length fc) fs) (hl:ad w base (.slice la f.locals.length lc) f.locals)
 (_hn:ls.length<=10000) :
 Calls Tryz.prog 89 #[.agg #[.slice ta ls.length tc,.slice fa fs.length fc],.agg #[f.args,.slice la f.locals.length lc,f.result,.slice ca cn cc],.agg #[(5:Int),A,B]] w fun e w' =>
  ∃ v,e=.returned v/\ad w' base v (ag ls fs f 5 A B)/\Chg () w w':=by
 have kb:Chg () w (((w.alloc (Obj.cells #[.slice ta ls.length tc,.slice fa fs.length fc] 56)).alloc (Obj.cells #[f.args,.slice la f.locals.length lc,f.result,.slice ca cn cc] 111)).alloc (Obj.cells #[(5:Int),A,B] 135)):=(((Chg.refl () w).alloc _).alloc _).alloc _
 have KB:Hid _:=kb
 clear kb
 have ea:ag ls fs f 5 A B=[aU f.locals A]:=by simp [ag]
 rw [ea]
 clear ea
 go_enter Tryz.func89,Tryz.ntmps89
 go_wp2_with fail
 refine (bq _ f.locals A _ base (ad.chg hl KB.out (fun _ _ _ e=>e))).mono ?_
 rintro e w1 ⟨rfl,rfl⟩
 go_wp2
 go_ret
 exact ⟨_,rfl,ad.lit [aU f.locals A] 1 rfl (by simp) (by omega) (by unfold maxLen;omega),KB.out.alloc _⟩
theorem v6 (ta fa la ca:Option Addr) (tc fc lc cn cc:Nat) (ls:List (List Int)) (fs:List Fn) (f:Fn) (A B:Int) (w:World) (base:Nat) (_hbase:base<=w.heap.size) (_ht:ai w base (.slice ta ls.length tc) ls) (_hf:aj 111 135 w base (.slice fa fs.length fc) fs) (_hl:ad w base (.slice la f.locals.length lc) f.locals)
 (_hn:ls.length<=10000) :
 Calls Tryz.prog 89 #[.agg #[.slice ta ls.length tc,.slice fa fs.length fc],.agg #[f.args,.slice la f.locals.length lc,f.result,.slice ca cn cc],.agg #[(6:Int),A,B]] w fun e w' =>
  ∃ v,e=.returned v/\ad w' base v (ag ls fs f 6 A B)/\Chg () w w':=by
 have kb:Chg () w (((w.alloc (Obj.cells #[.slice ta ls.length tc,.slice fa fs.length fc] 56)).alloc (Obj.cells #[f.args,.slice la f.locals.length lc,f.result,.slice ca cn cc] 111)).alloc (Obj.cells #[(6:Int),A,B] 135)):=(((Chg.refl () w).alloc _).alloc _).alloc _
 have KB:Hid _:=kb
 clear kb
 have ea:ag ls fs f 6 A B=[]:=by simp [ag]
 rw [ea]
 clear ea
 go_enter Tryz.func89,Tryz.ntmps89
 go_wp2
 go_ret
 exact ⟨_,rfl,World.ownsRow_nil _ _ _ _,KB.out⟩
theorem vZ (ta fa la ca:Option Addr) (tc fc lc cn cc:Nat) (ls:List (List Int)) (fs:List Fn) (f:Fn) (A B:Int) (w:World) (base:Nat) (hbase:base<=w.heap.size) (_ht:ai w base (.slice ta ls.length tc) ls) (_hf:aj 111 135 w base (.slice fa fs.length fc) fs) (_hl:ad w base (.slice la f.locals.length lc) f.locals)
 (_hn:ls.length<=10000) :
 Calls Tryz.prog 89 #[.agg #[.slice ta ls.length tc,.slice fa fs.length fc],.agg #[f.args,.slice la f.locals.length lc,f.result,.slice ca cn cc],.agg #[(7:Int),A,B]] w fun e w' =>
  ∃ v,e=.returned v/\ad w' base v (ag ls fs f 7 A B)/\Chg () w w':=by
 have kb:Chg () w (((w.alloc (Obj.cells #[.slice ta ls.length tc,.slice fa fs.length fc] 56)).alloc (Obj.cells #[f.args,.slice la f.locals.length lc,f.result,.slice ca cn cc] 111)).alloc (Obj.cells #[(7:Int),A,B] 135)):=(((Chg.refl () w).alloc _).alloc _).alloc _
 have KB:Hid _:=kb
 clear kb
 have ea:ag ls fs f 7 A B=[A]:=by simp [ag]
 rw [ea]
 clear ea
 go_enter Tryz.func89,Tryz.ntmps89
 go_wp2
 go_ret
 exact ⟨_,rfl,ad.lit [A] 1 rfl (by simp) (by omega) (by unfold maxLen;omega),KB.out.alloc _⟩
theorem vW (ta fa la ca:Option Addr) (tc fc lc cn cc:Nat) (ls:List (List Int)) (fs:List Fn) (f:Fn) (A B:Int) (w:World) (base:Nat) (hbase:base<=w.heap.size) (ht:ai w base (.slice ta ls.length tc) ls) (_hf:aj 111 135 w base (.slice fa fs.length fc) fs) (_hl:ad w base (.slice la f.locals.length lc) f.locals)
 (hn:ls.length<=10000) :
 Calls Tryz.prog 89 #[.agg #[.slice ta ls.length tc,.slice fa fs.length fc],.agg #[f.args,.slice la f.locals.length lc,f.result,.slice ca cn cc],.agg #[(8:Int),A,B]] w fun e w' =>
  ∃ v,e=.returned v/\ad w' base v (ag ls fs f 8 A B)/\Chg () w w':=by
 have kb:Chg () w (((w.alloc (Obj.cells #[.slice ta ls.length tc,.slice fa fs.length fc] 56)).alloc (Obj.cells #[f.args,.slice la f.locals.length lc,f.result,.slice ca cn cc] 111)).alloc (Obj.cells #[(8:Int),A,B] 135)):=(((Chg.refl () w).alloc _).alloc _).alloc _
 have KB:Hid _:=kb
 clear kb
 have ea:ag ls fs f 8 A B=[aU (flds ls A) B]:=by simp [ag]
 rw [ea]
 clear ea
 go_enter Tryz.func89,Tryz.ntmps89
 go_wp2_with fail
 refine (bO _ ls A _ base (ht.new KB.out) hn).mono ?_
 rintro e w1 ⟨u,rfl,hu,rfl⟩
 obtain ⟨ua,uc,rfl⟩:=hu.slice
 go_wp2_with fail
 refine (bq _ (flds ls A) B _ base hu).mono ?_
 rintro e w1 ⟨rfl,rfl⟩
 go_wp2
 go_ret
 exact ⟨_,rfl,ad.lit [aU (flds ls A) B] 1 rfl (by simp) (by omega) (by unfold maxLen;omega),KB.out.alloc _⟩
theorem v8 (ta fa la ca:Option Addr) (tc fc lc cn cc:Nat) (ls:List (List Int)) (fs:List Fn) (f:Fn) (A B:Int) (w:World) (base:Nat) (_hbase:base<=w.heap.size) (_ht:ai w base (.slice ta ls.length tc) ls) (_hf:aj 111 135 w base (.slice fa fs.length fc) fs) (_hl:ad w base (.slice la f.locals.length lc) f.locals)
 (_hn:ls.length<=10000) :
 Calls Tryz.prog 89 #[.agg #[.slice ta ls.length tc,.slice fa fs.length fc],.agg #[f.args,.slice la f.locals.length lc,f.result,.slice ca cn cc],.agg #[(9:Int),A,B]] w fun e w' =>
  ∃ v,e=.returned v/\ad w' base v (ag ls fs f 9 A B)/\Chg () w w':=by
 have kb:Chg () w (((w.alloc (Obj.cells #[.slice ta ls.length tc,.slice fa fs.length fc] 56)).alloc (Obj.cells #[f.args,.slice la f.locals.length lc,f.result,.slice ca cn cc] 111)).alloc (Obj.cells #[(9:Int),A,B] 135)):=(((Chg.refl () w).alloc _).alloc _).alloc _
 have KB:Hid _:=kb
 clear kb
 have ea:ag ls fs f 9 A B=[]:=by simp [ag]
 rw [ea]
 clear ea
 go_enter Tryz.func89,Tryz.ntmps89
 go_wp2
 go_ret
 exact ⟨_,rfl,World.ownsRow_nil _ _ _ _,KB.out⟩
theorem uC (ta fa la ca:Option Addr) (tc fc lc cn cc:Nat) (ls:List (List Int)) (fs:List Fn) (f:Fn) (A B:Int) (w:World) (base:Nat) (hbase:base<=w.heap.size) (_ht:ai w base (.slice ta ls.length tc) ls) (_hf:aj 111 135 w base (.slice fa fs.length fc) fs) (_hl:ad w base (.slice la f.locals.length lc) f.locals)
 (_hn:ls.length<=10000) :
 Calls Tryz.prog 89 #[.agg #[.slice ta ls.length tc,.slice fa fs.length fc],.agg #[f.args,.slice la f.locals.length lc,f.result,.slice ca cn cc],.agg #[(10:Int),A,B]] w fun e w' =>
  ∃ v,e=.returned v/\ad w' base v (ag ls fs f 10 A B)/\Chg () w w':=by
 have kb:Chg () w (((w.alloc (Obj.cells #[.slice ta ls.length tc,.slice fa fs.length fc] 56)).alloc (Obj.cells #[f.args,.slice la f.locals.length lc,f.result,.slice ca cn cc] 111)).alloc (Obj.cells #[(10:Int),A,B] 135)):=(((Chg.refl () w).alloc _).alloc _).alloc _
 have KB:Hid _:=kb
 clear kb
 have ea:ag ls fs f 10 A B=[A]:=by simp [ag]
 rw [ea]
 clear ea
 go_enter Tryz.func89,Tryz.ntmps89
 go_wp2
 go_ret
 exact ⟨_,rfl,ad.lit [A] 1 rfl (by simp) (by omega) (by unfold maxLen;omega),KB.out.alloc _⟩
theorem uT (ta fa la ca:Option Addr) (tc fc lc cn cc:Nat) (ls:List (List Int)) (fs:List Fn) (f:Fn) (A B:Int) (w:World) (base:Nat) (hbase:base<=w.heap.size) (_ht:ai w base (.slice ta ls.length tc) ls) (_hf:aj 111 135 w base (.slice fa fs.length fc) fs) (_hl:ad w base (.slice la f.locals.length lc) f.locals)
 (_hn:ls.length<=10000) :
 Calls Tryz.prog 89 #[.agg #[.slice ta ls.length tc,.slice fa fs.length fc],.agg #[f.args,.slice la f.locals.length lc,f.result,.slice ca cn cc],.agg #[(11:Int),A,B]] w fun e w' =>
  ∃ v,e=.returned v/\ad w' base v (ag ls fs f 11 A B)/\Chg () w w':=by
 have kb:Chg () w (((w.alloc (Obj.cells #[.slice ta ls.length tc,.slice fa fs.length fc] 56)).alloc (Obj.cells #[f.args,.slice la f.locals.length lc,f.result,.slice ca cn cc] 111)).alloc (Obj.cells #[(11:Int),A,B] 135)):=(((Chg.refl () w).alloc _).alloc _).alloc _
 have KB:Hid _:=kb
 clear kb
 have ea:ag ls fs f 11 A B=[0]:=by simp [ag]
 rw [ea]
 clear ea
 go_enter Tryz.func89,Tryz.ntmps89
 go_wp2
 go_ret
 exact ⟨_,rfl,ad.lit [0] 1 rfl (by simp) (by omega) (by unfold maxLen;omega),KB.out.alloc _⟩
theorem vd (ta fa la ca:Option Addr) (tc fc lc cn cc:Nat) (ls:List (List Int)) (fs:List Fn) (f:Fn) (A B:Int) (w:World) (base:Nat) (hbase:base<=w.heap.size) (_ht:ai w base (.slice ta ls.length tc) ls) (_hf:aj 111 135 w base (.slice fa fs.length fc) fs) (_hl:ad w base (.slice la f.locals.length lc) f.locals)
 (_hn:ls.length<=10000) :
 Calls Tryz.prog 89 #[.agg #[.slice ta ls.length tc,.slice fa fs.length fc],.agg #[f.args,.slice la f.locals.length lc,f.result,.slice ca cn cc],.agg #[(12:Int),A,B]] w fun e w' =>
  ∃ v,e=.returned v/\ad w' base v (ag ls fs f 12 A B)/\Chg () w w':=by
 have kb:Chg () w (((w.alloc (Obj.cells #[.slice ta ls.length tc,.slice fa fs.length fc] 56)).alloc (Obj.cells #[f.args,.slice la f.locals.length lc,f.result,.slice ca cn cc] 111)).alloc (Obj.cells #[(12:Int),A,B] 135)):=(((Chg.refl () w).alloc _).alloc _).alloc _
 have KB:Hid _:=kb
 clear kb
 have ea:ag ls fs f 12 A B=[0]:=by simp [ag]
 rw [ea]
 clear ea
 go_enter Tryz.func89,Tryz.ntmps89
 go_wp2
 go_ret
 exact ⟨_,rfl,ad.lit [0] 1 rfl (by simp) (by omega) (by unfold maxLen;omega),KB.out.alloc _⟩
theorem vf (ta fa la ca:Option Addr) (tc fc lc cn cc:Nat) (ls:List (List Int)) (fs:List Fn) (f:Fn) (A B:Int) (w:World) (base:Nat) (_hbase:base<=w.heap.size) (_ht:ai w base (.slice ta ls.length tc) ls) (_hf:aj 111 135 w base (.slice fa fs.length fc) fs) (_hl:ad w base (.slice la f.locals.length lc) f.locals)
 (_hn:ls.length<=10000) :
 Calls Tryz.prog 89 #[.agg #[.slice ta ls.length tc,.slice fa fs.length fc],.agg #[f.args,.slice la f.locals.length lc,f.result,.slice ca cn cc],.agg #[(13:Int),A,B]] w fun e w' =>
  ∃ v,e=.returned v/\ad w' base v (ag ls fs f 13 A B)/\Chg () w w':=by
 have kb:Chg () w (((w.alloc (Obj.cells #[.slice ta ls.length tc,.slice fa fs.length fc] 56)).alloc (Obj.cells #[f.args,.slice la f.locals.length lc,f.result,.slice ca cn cc] 111)).alloc (Obj.cells #[(13:Int),A,B] 135)):=(((Chg.refl () w).alloc _).alloc _).alloc _
 have KB:Hid _:=kb
 clear kb
 have ea:ag ls fs f 13 A B=[]:=by simp [ag]
 rw [ea]
 clear ea
 go_enter Tryz.func89,Tryz.ntmps89
 go_wp2
 go_ret
 exact ⟨_,rfl,World.ownsRow_nil _ _ _ _,KB.out⟩
theorem uk (ta fa la ca:Option Addr) (tc fc lc cn cc:Nat) (ls:List (List Int)) (fs:List Fn) (f:Fn) (A B:Int) (w:World) (base:Nat) (_hbase:base<=w.heap.size) (_ht:ai w base (.slice ta ls.length tc) ls) (_hf:aj 111 135 w base (.slice fa fs.length fc) fs) (_hl:ad w base (.slice la f.locals.length lc) f.locals)
 (_hn:ls.length<=10000) :
 Calls Tryz.prog 89 #[.agg #[.slice ta ls.length tc,.slice fa fs.length fc],.agg #[f.args,.slice la f.locals.length lc,f.result,.slice ca cn cc],.agg #[(14:Int),A,B]] w fun e w' =>
  ∃ v,e=.returned v/\ad w' base v (ag ls fs f 14 A B)/\Chg () w w':=by
 have kb:Chg () w (((w.alloc (Obj.cells #[.slice ta ls.length tc,.slice fa fs.length fc] 56)).alloc (Obj.cells #[f.args,.slice la f.locals.length lc,f.result,.slice ca cn cc] 111)).alloc (Obj.cells #[(14:Int),A,B] 135)):=(((Chg.refl () w).alloc _).alloc _).alloc _
 have KB:Hid _:=kb
 clear kb
 have ea:ag ls fs f 14 A B=[]:=by simp [ag]
 rw [ea]
 clear ea
 go_enter Tryz.func89,Tryz.ntmps89
 go_wp2
 go_ret
 exact ⟨_,rfl,World.ownsRow_nil _ _ _ _,KB.out⟩
theorem vm (ta fa la ca:Option Addr) (tc fc lc cn cc:Nat) (ls:List (List Int)) (fs:List Fn) (f:Fn) (A B:Int) (w:World) (base:Nat) (hbase:base<=w.heap.size) (_ht:ai w base (.slice ta ls.length tc) ls) (hf:aj 111 135 w base (.slice fa fs.length fc) fs) (_hl:ad w base (.slice la f.locals.length lc) f.locals)
 (_hn:ls.length<=10000) :
 Calls Tryz.prog 89 #[.agg #[.slice ta ls.length tc,.slice fa fs.length fc],.agg #[f.args,.slice la f.locals.length lc,f.result,.slice ca cn cc],.agg #[(15:Int),A,B]] w fun e w' =>
  ∃ v,e=.returned v/\ad w' base v (ag ls fs f 15 A B)/\Chg () w w':=by
 have kb:Chg () w (((w.alloc (Obj.cells #[.slice ta ls.length tc,.slice fa fs.length fc] 56)).alloc (Obj.cells #[f.args,.slice la f.locals.length lc,f.result,.slice ca cn cc] 111)).alloc (Obj.cells #[(15:Int),A,B] 135)):=(((Chg.refl () w).alloc _).alloc _).alloc _
 have KB:Hid _:=kb
 clear kb
 have ea:ag ls fs f 15 A B=[j5 fs A]:=by simp [ag]
 rw [ea,qz]
 clear ea
 generalize hg:aq fs A=g
 have HG:=hid hg
 clear hg
 go_enter Tryz.func89,Tryz.ntmps89
 go_wp2_with fail
 refine (fq _ fs A _ base (hf.chg KB.out (fun _ _ _ e=>e) (fun _ _ _ e=>e) (fun _ _ _ e=>e))).mono ?_
 rw [HG.out]
 rintro e w1 ⟨u,v,rfl,hu,hv,hch⟩
 have KC:=hid (KB.out.trans hch)
 clear hch
 obtain ⟨ua,uc,rfl⟩:=hu.slice
 obtain ⟨va,vc,rfl⟩:=hv.slice
 clear hu hv
 have hbb:base<=w1.heap.size:=Nat.le_trans hbase KC.out.size
 go_wp2
 go_ret
 exact ⟨_,rfl,ad.lit [g.result] 1 rfl (by simp) (by omega) (by unfold maxLen;omega),(KC.out.alloc _).alloc _⟩
theorem uq (ta fa la ca:Option Addr) (tc fc lc cn cc:Nat) (ls:List (List Int)) (fs:List Fn) (f:Fn) (A B:Int) (w:World) (base:Nat) (_hbase:base<=w.heap.size) (_ht:ai w base (.slice ta ls.length tc) ls) (_hf:aj 111 135 w base (.slice fa fs.length fc) fs) (_hl:ad w base (.slice la f.locals.length lc) f.locals)
 (_hn:ls.length<=10000) :
 Calls Tryz.prog 89 #[.agg #[.slice ta ls.length tc,.slice fa fs.length fc],.agg #[f.args,.slice la f.locals.length lc,f.result,.slice ca cn cc],.agg #[(16:Int),A,B]] w fun e w' =>
  ∃ v,e=.returned v/\ad w' base v (ag ls fs f 16 A B)/\Chg () w w':=by
 have kb:Chg () w (((w.alloc (Obj.cells #[.slice ta ls.length tc,.slice fa fs.length fc] 56)).alloc (Obj.cells #[f.args,.slice la f.locals.length lc,f.result,.slice ca cn cc] 111)).alloc (Obj.cells #[(16:Int),A,B] 135)):=(((Chg.refl () w).alloc _).alloc _).alloc _
 have KB:Hid _:=kb
 clear kb
 have ea:ag ls fs f 16 A B=[]:=by simp [ag]
 rw [ea]
 clear ea
 go_enter Tryz.func89,Tryz.ntmps89
 go_wp2
 go_ret
 exact ⟨_,rfl,World.ownsRow_nil _ _ _ _,KB.out⟩
theorem uP (ta fa la ca:Option Addr) (tc fc lc cn cc:Nat) (ls:List (List Int)) (fs:List Fn) (f:Fn) (A B:Int) (w:World) (base:Nat) (_hbase:base<=w.heap.size) (_ht:ai w base (.slice ta ls.length tc) ls) (_hf:aj 111 135 w base (.slice fa fs.length fc) fs) (_hl:ad w base (.slice la f.locals.length lc) f.locals)
 (_hn:ls.length<=10000) :
 Calls Tryz.prog 89 #[.agg #[.slice ta ls.length tc,.slice fa fs.length fc],.agg #[f.args,.slice la f.locals.length lc,f.result,.slice ca cn cc],.agg #[(17:Int),A,B]] w fun e w' =>
  ∃ v,e=.returned v/\ad w' base v (ag ls fs f 17 A B)/\Chg () w w':=by
 have kb:Chg () w (((w.alloc (Obj.cells #[.slice ta ls.length tc,.slice fa fs.length fc] 56)).alloc (Obj.cells #[f.args,.slice la f.locals.length lc,f.result,.slice ca cn cc] 111)).alloc (Obj.cells #[(17:Int),A,B] 135)):=(((Chg.refl () w).alloc _).alloc _).alloc _
 have KB:Hid _:=kb
 clear kb
 have ea:ag ls fs f 17 A B=[]:=by simp [ag]
 rw [ea]
 clear ea
 go_enter Tryz.func89,Tryz.ntmps89
 go_wp2
 go_ret
 exact ⟨_,rfl,World.ownsRow_nil _ _ _ _,KB.out⟩
theorem ud (ta fa la ca:Option Addr) (tc fc lc cn cc:Nat) (ls:List (List Int)) (fs:List Fn) (f:Fn) (A B:Int) (w:World) (base:Nat) (hbase:base<=w.heap.size) (_ht:ai w base (.slice ta ls.length tc) ls) (_hf:aj 111 135 w base (.slice fa fs.length fc) fs) (_hl:ad w base (.slice la f.locals.length lc) f.locals)
 (_hn:ls.length<=10000) :
 Calls Tryz.prog 89 #[.agg #[.slice ta ls.length tc,.slice fa fs.length fc],.agg #[f.args,.slice la f.locals.length lc,f.result,.slice ca cn cc],.agg #[(18:Int),A,B]] w fun e w' =>
  ∃ v,e=.returned v/\ad w' base v (ag ls fs f 18 A B)/\Chg () w w':=by
 have kb:Chg () w (((w.alloc (Obj.cells #[.slice ta ls.length tc,.slice fa fs.length fc] 56)).alloc (Obj.cells #[f.args,.slice la f.locals.length lc,f.result,.slice ca cn cc] 111)).alloc (Obj.cells #[(18:Int),A,B] 135)):=(((Chg.refl () w).alloc _).alloc _).alloc _
 have KB:Hid _:=kb
 clear kb
 have ea:ag ls fs f 18 A B=[0]:=by simp [ag]
 rw [ea]
 clear ea
 go_enter Tryz.func89,Tryz.ntmps89
 go_wp2
 go_ret
 exact ⟨_,rfl,ad.lit [0] 1 rfl (by simp) (by omega) (by unfold maxLen;omega),KB.out.alloc _⟩
theorem df (tv fv lv cv:Value) (ls:List (List Int)) (fs:List Fn) (f:Fn) (op A B:Int) (w:World) (base:Nat) (hbase:base<=w.heap.size) (ht:ai w base tv ls) (hf:aj 111 135 w base fv fs) (hl:ad w base lv f.locals) (hc:∃ ca n cc,cv=.slice ca n cc)
 (hn:ls.length<=10000) (h1:0<=op) (h2:op<=18) :
 Calls Tryz.prog 89 #[.agg #[tv,fv],.agg #[f.args,lv,f.result,cv],.agg #[op,A,B]] w fun e w' =>
  ∃ v,e=.returned v/\ad w' base v (ag ls fs f op A B)/\Chg () w w':=by
 have hop:op=0 \/ op=1 \/ op=2 \/ op=3 \/ op=4 \/ op=5 \/ op=6 \/ op=7 \/ op=8 \/ op=9 \/ op=10 \/ op=11 \/ op=12 \/ op=13 \/ op=14 \/ op=15 \/ op=16 \/ op=17 \/ op=18:=by omega
 clear h1 h2
 obtain ⟨ta,tc,rfl⟩:=ht.slice
 obtain ⟨fa,fc,rfl⟩:=hf.slice
 obtain ⟨la,lc,rfl⟩:=hl.slice
 obtain ⟨ca,cn,cc,rfl⟩:=hc
 rcases hop with rfl | rfl | rfl | rfl | rfl | rfl | rfl | rfl | rfl | rfl | rfl | rfl | rfl | rfl | rfl | rfl | rfl | rfl | rfl
 ·exact vC ta fa la ca tc fc lc cn cc ls fs f A B w base hbase ht hf hl hn
 ·exact wp ta fa la ca tc fc lc cn cc ls fs f A B w base hbase ht hf hl hn
 ·exact vR ta fa la ca tc fc lc cn cc ls fs f A B w base hbase ht hf hl hn
 ·exact vO ta fa la ca tc fc lc cn cc ls fs f A B w base hbase ht hf hl hn
 ·exact vY ta fa la ca tc fc lc cn cc ls fs f A B w base hbase ht hf hl hn
 ·exact v9 ta fa la ca tc fc lc cn cc ls fs f A B w base hbase ht hf hl hn
 ·exact v6 ta fa la ca tc fc lc cn cc ls fs f A B w base hbase ht hf hl hn
 ·exact vZ ta fa la ca tc fc lc cn cc ls fs f A B w base hbase ht hf hl hn
 ·exact vW ta fa la ca tc fc lc cn cc ls fs f A B w base hbase ht hf hl hn
 ·exact v8 ta fa la ca tc fc lc cn cc ls fs f A B w base hbase ht hf hl hn
 ·exact uC ta fa la ca tc fc lc cn cc ls fs f A B w base hbase ht hf hl hn
 ·exact uT ta fa la ca tc fc lc cn cc ls fs f A B w base hbase ht hf hl hn
 ·exact vd ta fa la ca tc fc lc cn cc ls fs f A B w base hbase ht hf hl hn
 ·exact vf ta fa la ca tc fc lc cn cc ls fs f A B w base hbase ht hf hl hn
 ·exact uk ta fa la ca tc fc lc cn cc ls fs f A B w base hbase ht hf hl hn
 ·exact vm ta fa la ca tc fc lc cn cc ls fs f A B w base hbase ht hf hl hn
 ·exact uq ta fa la ca tc fc lc cn cc ls fs f A B w base hbase ht hf hl hn
 ·exact uP ta fa la ca tc fc lc cn cc ls fs f A B w base hbase ht hf hl hn
 ·exact ud ta fa la ca tc fc lc cn cc ls fs f A B w base hbase ht hf hl hn
end Go.Proofs.YtnfnbcbadakofaaGreat
