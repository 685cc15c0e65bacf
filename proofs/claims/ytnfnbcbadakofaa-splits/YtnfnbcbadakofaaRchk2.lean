import Derived.Test.YtnfnbcbadakofaaRchk
import Derived.Deep.RegionHeld3
namespace Go.Proofs.Ytnfnbcbadakofaa
open Go.RowKit
theorem tyAt_in (l:List Int) (j:Nat) (h:j < l.length):tyAt l (j:Int)=l.getD j 0:=by
 unfold tyAt;rw [if_neg (by omega)];simp
theorem flds_in (ls:List (List Int)) (j:Nat) (h:j < ls.length):flds ls ((j:Int)+1)=ls.getD j []:=by
 unfold flds;rw [if_neg (by omega)];congr 1;omega
theorem resF_in (fs:List Fn) (j:Nat) (h:j < fs.length):resF fs (j:Int)=fs[j].result:=by
 unfold resF;rw [dif_pos ⟨by omega,by simpa using h⟩];rfl
theorem argsF_in (fs:List Fn) (j:Nat) (h:j < fs.length) (hb:0<=fs[j].args/\fs[j].args<=(fs[j].locals.length:Int)):argsF fs (j:Int)=fs[j].locals.take fs[j].args.toNat:=by
 unfold argsF;rw [dif_pos ⟨by omega,by simpa using h⟩];exact if_neg (by simp only [Int.toNat_natCast];omega)
set_option maxHeartbeats 400000 in
set_option maxRecDepth 100000 in
theorem tx_0 (ta fa:Option Addr) (tc fc:Nat) (ls:List (List Int)) (fs:List Fn) (fi:Nat) (hfi:fi < fs.length) (A B:Int) (w:World) (base:Nat) (_hbase:base<=w.heap.size) (_ht:TypesV w base (.slice ta ls.length tc) ls) (_hf:FuncsV 92 99 w base (.slice fa fs.length fc) fs)  :
 Calls Try.prog 119 #[.agg #[.slice ta ls.length tc,.slice fa fs.length fc],.int .i64 (fi:Int),.agg #[.int .i64 0,.int .i64 A,.int .i64 B]] w fun e w' =>
  ∃ v,e=.returned v/\IntsV w' base v (ahead ls fs fs[fi] 0 A B)/\Chg (fun _=>False) w w':=by
 have kb:Chg (fun _=>False) w ((w.alloc (Obj.cells #[.slice ta ls.length tc,.slice fa fs.length fc] 28)).alloc (Obj.cells #[.int .i64 0,.int .i64 A,.int .i64 B] 99)):=((Chg.refl (fun _=>False) w).alloc _).alloc _
 have KB:Hid _:=kb
 clear kb
 have ea:ahead ls fs fs[fi] 0 A B=[]:=by simp [ahead]
 rw [ea]
 clear ea
 go_enter Try.func119,Try.ntmps119
 go_wp2
 go_ret
 exact ⟨_,rfl,World.ownsRow_nil _ _ _ _,KB.out⟩
set_option maxHeartbeats 400000 in
set_option maxRecDepth 100000 in
theorem tx_1 (ta fa:Option Addr) (tc fc:Nat) (ls:List (List Int)) (fs:List Fn) (fi:Nat) (hfi:fi < fs.length) (A B:Int) (w:World) (base:Nat) (hbase:base<=w.heap.size) (_ht:TypesV w base (.slice ta ls.length tc) ls) (_hf:FuncsV 92 99 w base (.slice fa fs.length fc) fs)  :
 Calls Try.prog 119 #[.agg #[.slice ta ls.length tc,.slice fa fs.length fc],.int .i64 (fi:Int),.agg #[.int .i64 1,.int .i64 A,.int .i64 B]] w fun e w' =>
  ∃ v,e=.returned v/\IntsV w' base v (ahead ls fs fs[fi] 1 A B)/\Chg (fun _=>False) w w':=by
 have kb:Chg (fun _=>False) w ((w.alloc (Obj.cells #[.slice ta ls.length tc,.slice fa fs.length fc] 28)).alloc (Obj.cells #[.int .i64 1,.int .i64 A,.int .i64 B] 99)):=((Chg.refl (fun _=>False) w).alloc _).alloc _
 have KB:Hid _:=kb
 clear kb
 have ea:ahead ls fs fs[fi] 1 A B=[0,0]:=by simp [ahead]
 rw [ea]
 clear ea
 go_enter Try.func119,Try.ntmps119
 go_wp2
 go_ret
 exact ⟨_,rfl,IntsV.lit [0,0] 2 rfl (by simp) (by omega) (by unfold maxLen;omega),KB.out.alloc _⟩
set_option maxHeartbeats 400000 in
set_option maxRecDepth 100000 in
theorem tx_2 (ta fa:Option Addr) (tc fc:Nat) (ls:List (List Int)) (fs:List Fn) (fi:Nat) (hfi:fi < fs.length) (A B:Int) (w:World) (base:Nat) (hbase:base<=w.heap.size) (_ht:TypesV w base (.slice ta ls.length tc) ls) (_hf:FuncsV 92 99 w base (.slice fa fs.length fc) fs)  :
 Calls Try.prog 119 #[.agg #[.slice ta ls.length tc,.slice fa fs.length fc],.int .i64 (fi:Int),.agg #[.int .i64 2,.int .i64 A,.int .i64 B]] w fun e w' =>
  ∃ v,e=.returned v/\IntsV w' base v (ahead ls fs fs[fi] 2 A B)/\Chg (fun _=>False) w w':=by
 have kb:Chg (fun _=>False) w ((w.alloc (Obj.cells #[.slice ta ls.length tc,.slice fa fs.length fc] 28)).alloc (Obj.cells #[.int .i64 2,.int .i64 A,.int .i64 B] 99)):=((Chg.refl (fun _=>False) w).alloc _).alloc _
 have KB:Hid _:=kb
 clear kb
 have ea:ahead ls fs fs[fi] 2 A B=[0,0]:=by simp [ahead]
 rw [ea]
 clear ea
 go_enter Try.func119,Try.ntmps119
 go_wp2
 go_ret
 exact ⟨_,rfl,IntsV.lit [0,0] 2 rfl (by simp) (by omega) (by unfold maxLen;omega),KB.out.alloc _⟩
set_option maxHeartbeats 400000 in
set_option maxRecDepth 100000 in
theorem tx_3 (ta fa:Option Addr) (tc fc:Nat) (ls:List (List Int)) (fs:List Fn) (fi:Nat) (hfi:fi < fs.length) (A B:Int) (w:World) (base:Nat) (hbase:base<=w.heap.size) (_ht:TypesV w base (.slice ta ls.length tc) ls) (_hf:FuncsV 92 99 w base (.slice fa fs.length fc) fs)  :
 Calls Try.prog 119 #[.agg #[.slice ta ls.length tc,.slice fa fs.length fc],.int .i64 (fi:Int),.agg #[.int .i64 3,.int .i64 A,.int .i64 B]] w fun e w' =>
  ∃ v,e=.returned v/\IntsV w' base v (ahead ls fs fs[fi] 3 A B)/\Chg (fun _=>False) w w':=by
 have kb:Chg (fun _=>False) w ((w.alloc (Obj.cells #[.slice ta ls.length tc,.slice fa fs.length fc] 28)).alloc (Obj.cells #[.int .i64 3,.int .i64 A,.int .i64 B] 99)):=((Chg.refl (fun _=>False) w).alloc _).alloc _
 have KB:Hid _:=kb
 clear kb
 have ea:ahead ls fs fs[fi] 3 A B=[0,0]:=by simp [ahead]
 rw [ea]
 clear ea
 go_enter Try.func119,Try.ntmps119
 go_wp2
 go_ret
 exact ⟨_,rfl,IntsV.lit [0,0] 2 rfl (by simp) (by omega) (by unfold maxLen;omega),KB.out.alloc _⟩
set_option maxHeartbeats 400000 in
set_option maxRecDepth 100000 in
theorem tx_4 (ta fa:Option Addr) (tc fc:Nat) (ls:List (List Int)) (fs:List Fn) (fi:Nat) (hfi:fi < fs.length) (A B:Int) (w:World) (base:Nat) (hbase:base<=w.heap.size) (_ht:TypesV w base (.slice ta ls.length tc) ls) (_hf:FuncsV 92 99 w base (.slice fa fs.length fc) fs)  :
 Calls Try.prog 119 #[.agg #[.slice ta ls.length tc,.slice fa fs.length fc],.int .i64 (fi:Int),.agg #[.int .i64 4,.int .i64 A,.int .i64 B]] w fun e w' =>
  ∃ v,e=.returned v/\IntsV w' base v (ahead ls fs fs[fi] 4 A B)/\Chg (fun _=>False) w w':=by
 have kb:Chg (fun _=>False) w ((w.alloc (Obj.cells #[.slice ta ls.length tc,.slice fa fs.length fc] 28)).alloc (Obj.cells #[.int .i64 4,.int .i64 A,.int .i64 B] 99)):=((Chg.refl (fun _=>False) w).alloc _).alloc _
 have KB:Hid _:=kb
 clear kb
 have ea:ahead ls fs fs[fi] 4 A B=[0,0]:=by simp [ahead]
 rw [ea]
 clear ea
 go_enter Try.func119,Try.ntmps119
 go_wp2
 go_ret
 exact ⟨_,rfl,IntsV.lit [0,0] 2 rfl (by simp) (by omega) (by unfold maxLen;omega),KB.out.alloc _⟩
set_option maxHeartbeats 400000 in
set_option maxRecDepth 100000 in
theorem tx_5 (ta fa:Option Addr) (tc fc:Nat) (ls:List (List Int)) (fs:List Fn) (fi:Nat) (hfi:fi < fs.length) (A B:Int) (w:World) (base:Nat) (_hbase:base<=w.heap.size) (_ht:TypesV w base (.slice ta ls.length tc) ls) (_hf:FuncsV 92 99 w base (.slice fa fs.length fc) fs)  :
 Calls Try.prog 119 #[.agg #[.slice ta ls.length tc,.slice fa fs.length fc],.int .i64 (fi:Int),.agg #[.int .i64 5,.int .i64 A,.int .i64 B]] w fun e w' =>
  ∃ v,e=.returned v/\IntsV w' base v (ahead ls fs fs[fi] 5 A B)/\Chg (fun _=>False) w w':=by
 have kb:Chg (fun _=>False) w ((w.alloc (Obj.cells #[.slice ta ls.length tc,.slice fa fs.length fc] 28)).alloc (Obj.cells #[.int .i64 5,.int .i64 A,.int .i64 B] 99)):=((Chg.refl (fun _=>False) w).alloc _).alloc _
 have KB:Hid _:=kb
 clear kb
 have ea:ahead ls fs fs[fi] 5 A B=[]:=by simp [ahead]
 rw [ea]
 clear ea
 go_enter Try.func119,Try.ntmps119
 go_wp2
 go_ret
 exact ⟨_,rfl,World.ownsRow_nil _ _ _ _,KB.out⟩
set_option maxHeartbeats 400000 in
set_option maxRecDepth 100000 in
theorem tx_6 (ta fa:Option Addr) (tc fc:Nat) (ls:List (List Int)) (fs:List Fn) (fi:Nat) (hfi:fi < fs.length) (A B:Int) (w:World) (base:Nat) (hbase:base<=w.heap.size) (_ht:TypesV w base (.slice ta ls.length tc) ls) (hf:FuncsV 92 99 w base (.slice fa fs.length fc) fs) (hA:0<=A/\A < (fs[fi].locals.length:Int)) :
 Calls Try.prog 119 #[.agg #[.slice ta ls.length tc,.slice fa fs.length fc],.int .i64 (fi:Int),.agg #[.int .i64 6,.int .i64 A,.int .i64 B]] w fun e w' =>
  ∃ v,e=.returned v/\IntsV w' base v (ahead ls fs fs[fi] 6 A B)/\Chg (fun _=>False) w w':=by
 have kb:Chg (fun _=>False) w ((w.alloc (Obj.cells #[.slice ta ls.length tc,.slice fa fs.length fc] 28)).alloc (Obj.cells #[.int .i64 6,.int .i64 A,.int .i64 B] 99)):=((Chg.refl (fun _=>False) w).alloc _).alloc _
 have KB:Hid _:=kb
 clear kb
 obtain ⟨a,rfl⟩:∃ a:Nat,A=(a:Int):=⟨A.toNat,by omega⟩
 obtain ⟨g,cap,hv,hle,hcells⟩:=(hf.chg KB.out (fun _ _ _ e=>e) (fun _ _ _ e=>e) (fun _ _ _ e=>e)).formS (by omega)
 simp only [Value.slice.injEq] at hv
 obtain ⟨rfl,_,rfl⟩:=hv
 obtain ⟨lv,cv,c0,c1,c2,_,hl,_⟩:=hcells fi hfi
 clear hcells
 obtain ⟨gl,lc,rfl,_,hle2,_,lcs⟩:=hl.form (by omega)
 have c3:=lcs a (by omega)
 have ha:(a:Int) < (fs[fi].locals.length:Int):=hA.2
 have hfi':(fi:Int) < (fs.length:Int):=by omega
 clear lcs hA
 have ea:ahead ls fs fs[fi] 6 (a:Int) B=[fs[fi].locals.getD a 0]:=by simp [ahead,tyAt_in fs[fi].locals a (by omega)]
 rw [ea]
 clear ea
 go_enter Try.func119,Try.ntmps119
 have k0:=KB.out
 have b0:Blk ((w.alloc (Obj.cells #[.slice ta ls.length tc,.slice (some ⟨g,0,none⟩) fs.length fc] 28)).alloc (Obj.cells #[.int .i64 6,.int .i64 (a:Int),.int .i64 B] 99)) w.heap.size #[.slice ta ls.length tc,.slice (some ⟨g,0,none⟩) fs.length fc] 28:=(Blk.new' rfl _ 28).alloc _
 have b1:Blk ((w.alloc (Obj.cells #[.slice ta ls.length tc,.slice (some ⟨g,0,none⟩) fs.length fc] 28)).alloc (Obj.cells #[.int .i64 6,.int .i64 (a:Int),.int .i64 B] 99)) (w.heap.size+1) #[.int .i64 6,.int .i64 (a:Int),.int .i64 B] 99:=Blk.new' (by simp) _ 99
 clear KB
 go_wp2_with fail
 generalize ((w.alloc (Obj.cells #[.slice ta ls.length tc,.slice (some ⟨g,0,none⟩) fs.length fc] 28)).alloc (Obj.cells #[.int .i64 6,.int .i64 (a:Int),.int .i64 B] 99))=W at *
 have y0:W.cell? ⟨w.heap.size,0,none⟩=some (.slice ta ls.length tc):=b0.cell 0
 have y1:W.cell? ⟨w.heap.size,1,none⟩=some (.slice (some ⟨g,0,none⟩) fs.length fc):=b0.cell 1
 have y2:W.cell? ⟨w.heap.size+1,1,none⟩=some (.int .i64 ((a:Int))):=b1.cell 1
 have y3:W.cell? ⟨w.heap.size+1,2,none⟩=some (.int .i64 (B)):=b1.cell 2
 have hWs:=k0.size
 go_region
 all_goals
  go_wp2
  go_ret
  exact ⟨.slice (some ⟨W.heap.size,0,none⟩) 1 1,rfl,own_drew (IntsV.lit (W:=W) (base:=base) [fs[fi].locals.getD a 0] 1 rfl rfl (by omega) (by unfold maxLen;omega)),((k0.alloc _).drew)⟩
set_option maxHeartbeats 400000 in
set_option maxRecDepth 100000 in
theorem tx_7 (ta fa:Option Addr) (tc fc:Nat) (ls:List (List Int)) (fs:List Fn) (fi:Nat) (hfi:fi < fs.length) (A B:Int) (w:World) (base:Nat) (_hbase:base<=w.heap.size) (ht:TypesV w base (.slice ta ls.length tc) ls) (_hf:FuncsV 92 99 w base (.slice fa fs.length fc) fs) (hn:ls.length<=10000) (hA:1<=A/\A<=(ls.length:Int)) :
 Calls Try.prog 119 #[.agg #[.slice ta ls.length tc,.slice fa fs.length fc],.int .i64 (fi:Int),.agg #[.int .i64 7,.int .i64 A,.int .i64 B]] w fun e w' =>
  ∃ v,e=.returned v/\IntsV w' base v (ahead ls fs fs[fi] 7 A B)/\Chg (fun _=>False) w w':=by
 have kb:Chg (fun _=>False) w ((w.alloc (Obj.cells #[.slice ta ls.length tc,.slice fa fs.length fc] 28)).alloc (Obj.cells #[.int .i64 7,.int .i64 A,.int .i64 B] 99)):=((Chg.refl (fun _=>False) w).alloc _).alloc _
 have KB:Hid _:=kb
 clear kb
 obtain ⟨a,rfl⟩:∃ a:Nat,A=(a:Int)+1:=⟨(A - 1).toNat,by omega⟩
 obtain ⟨gt,capt,u,hv,hle,ct,hu⟩:=(ht.new KB.out).cell a (by omega)
 simp only [Value.slice.injEq] at hv
 obtain ⟨rfl,_,rfl⟩:=hv
 obtain ⟨ua,uc,rfl⟩:=hu.slice
 have ha:(a:Int) < (ls.length:Int):=by omega
 clear hA
 have ea:ahead ls fs fs[fi] 7 ((a:Int)+1) B=ls.getD a []:=by simp [ahead,flds_in ls a (by omega)]
 rw [ea]
 clear ea
 go_enter Try.func119,Try.ntmps119
 go_wp2
 go_ret
 exact ⟨_,rfl,hu,KB.out⟩
set_option maxHeartbeats 400000 in
set_option maxRecDepth 100000 in
theorem tx_8 (ta fa:Option Addr) (tc fc:Nat) (ls:List (List Int)) (fs:List Fn) (fi:Nat) (hfi:fi < fs.length) (A B:Int) (w:World) (base:Nat) (hbase:base<=w.heap.size) (_ht:TypesV w base (.slice ta ls.length tc) ls) (_hf:FuncsV 92 99 w base (.slice fa fs.length fc) fs)  :
 Calls Try.prog 119 #[.agg #[.slice ta ls.length tc,.slice fa fs.length fc],.int .i64 (fi:Int),.agg #[.int .i64 8,.int .i64 A,.int .i64 B]] w fun e w' =>
  ∃ v,e=.returned v/\IntsV w' base v (ahead ls fs fs[fi] 8 A B)/\Chg (fun _=>False) w w':=by
 have kb:Chg (fun _=>False) w ((w.alloc (Obj.cells #[.slice ta ls.length tc,.slice fa fs.length fc] 28)).alloc (Obj.cells #[.int .i64 8,.int .i64 A,.int .i64 B] 99)):=((Chg.refl (fun _=>False) w).alloc _).alloc _
 have KB:Hid _:=kb
 clear kb
 have ea:ahead ls fs fs[fi] 8 A B=[A]:=by simp [ahead]
 rw [ea]
 clear ea
 go_enter Try.func119,Try.ntmps119
 go_wp2
 go_ret
 exact ⟨_,rfl,IntsV.lit [A] 1 rfl (by simp) (by omega) (by unfold maxLen;omega),KB.out.alloc _⟩
set_option maxHeartbeats 400000 in
set_option maxRecDepth 100000 in
theorem tx_9 (ta fa:Option Addr) (tc fc:Nat) (ls:List (List Int)) (fs:List Fn) (fi:Nat) (hfi:fi < fs.length) (A B:Int) (w:World) (base:Nat) (hbase:base<=w.heap.size) (ht:TypesV w base (.slice ta ls.length tc) ls) (_hf:FuncsV 92 99 w base (.slice fa fs.length fc) fs) (hn:ls.length<=10000) (hA:1<=A/\A<=(ls.length:Int)) (hB:0<=B/\B < ((flds ls A).length:Int)) :
 Calls Try.prog 119 #[.agg #[.slice ta ls.length tc,.slice fa fs.length fc],.int .i64 (fi:Int),.agg #[.int .i64 9,.int .i64 A,.int .i64 B]] w fun e w' =>
  ∃ v,e=.returned v/\IntsV w' base v (ahead ls fs fs[fi] 9 A B)/\Chg (fun _=>False) w w':=by
 have kb:Chg (fun _=>False) w ((w.alloc (Obj.cells #[.slice ta ls.length tc,.slice fa fs.length fc] 28)).alloc (Obj.cells #[.int .i64 9,.int .i64 A,.int .i64 B] 99)):=((Chg.refl (fun _=>False) w).alloc _).alloc _
 have KB:Hid _:=kb
 clear kb
 obtain ⟨a,rfl⟩:∃ a:Nat,A=(a:Int)+1:=⟨(A - 1).toNat,by omega⟩
 obtain ⟨b,rfl⟩:∃ b:Nat,B=(b:Int):=⟨B.toNat,by omega⟩
 have eL:=flds_in ls a (by omega)
 rw [eL] at hB
 obtain ⟨gt,capt,u,hv,hle,ct,hu⟩:=(ht.new KB.out).cell a (by omega)
 simp only [Value.slice.injEq] at hv
 obtain ⟨rfl,_,rfl⟩:=hv
 generalize ls.getD a []=L at *
 obtain ⟨gu,uc,rfl,_,hle2,_,ucs⟩:=hu.form (by omega)
 have c3:=ucs b (by omega)
 have ha:(a:Int) < (ls.length:Int):=by omega
 have hb:(b:Int) < (L.length:Int):=hB.2
 have eT:=tyAt_in L b (by omega)
 clear ucs hA hB
 have ea:ahead ls fs fs[fi] 9 ((a:Int)+1) (b:Int)=[(a:Int)+1,L.getD b 0]:=by simp [ahead,eL,eT]
 rw [ea]
 clear ea
 go_enter Try.func119,Try.ntmps119
 have k0:=KB.out
 have b0:Blk ((w.alloc (Obj.cells #[.slice (some ⟨gt,0,none⟩) ls.length tc,.slice fa fs.length fc] 28)).alloc (Obj.cells #[.int .i64 9,.int .i64 ((a:Int)+1),.int .i64 (b:Int)] 99)) w.heap.size #[.slice (some ⟨gt,0,none⟩) ls.length tc,.slice fa fs.length fc] 28:=(Blk.new' rfl _ 28).alloc _
 have b1:Blk ((w.alloc (Obj.cells #[.slice (some ⟨gt,0,none⟩) ls.length tc,.slice fa fs.length fc] 28)).alloc (Obj.cells #[.int .i64 9,.int .i64 ((a:Int)+1),.int .i64 (b:Int)] 99)) (w.heap.size+1) #[.int .i64 9,.int .i64 ((a:Int)+1),.int .i64 (b:Int)] 99:=Blk.new' (by simp) _ 99
 clear KB
 clear eL eT
 go_wp2_with fail
 generalize ((w.alloc (Obj.cells #[.slice (some ⟨gt,0,none⟩) ls.length tc,.slice fa fs.length fc] 28)).alloc (Obj.cells #[.int .i64 9,.int .i64 ((a:Int)+1),.int .i64 (b:Int)] 99))=W at *
 have y0:W.cell? ⟨w.heap.size,0,none⟩=some (.slice (some ⟨gt,0,none⟩) ls.length tc):=b0.cell 0
 have y1:W.cell? ⟨w.heap.size,1,none⟩=some (.slice fa fs.length fc):=b0.cell 1
 have y2:W.cell? ⟨w.heap.size+1,1,none⟩=some (.int .i64 (((a:Int)+1))):=b1.cell 1
 have y3:W.cell? ⟨w.heap.size+1,2,none⟩=some (.int .i64 ((b:Int))):=b1.cell 2
 have hWs:=k0.size
 go_region
 all_goals
  go_wp2
  go_ret
  exact ⟨.slice (some ⟨W.heap.size,0,none⟩) 2 2,rfl,own_drew (IntsV.lit (W:=W) (base:=base) [(a:Int)+1,L.getD b 0] 2 rfl rfl (by omega) (by unfold maxLen;omega)),((k0.alloc _).drew)⟩
set_option maxHeartbeats 400000 in
set_option maxRecDepth 100000 in
theorem tx_10 (ta fa:Option Addr) (tc fc:Nat) (ls:List (List Int)) (fs:List Fn) (fi:Nat) (hfi:fi < fs.length) (A B:Int) (w:World) (base:Nat) (_hbase:base<=w.heap.size) (_ht:TypesV w base (.slice ta ls.length tc) ls) (_hf:FuncsV 92 99 w base (.slice fa fs.length fc) fs)  :
 Calls Try.prog 119 #[.agg #[.slice ta ls.length tc,.slice fa fs.length fc],.int .i64 (fi:Int),.agg #[.int .i64 10,.int .i64 A,.int .i64 B]] w fun e w' =>
  ∃ v,e=.returned v/\IntsV w' base v (ahead ls fs fs[fi] 10 A B)/\Chg (fun _=>False) w w':=by
 have kb:Chg (fun _=>False) w ((w.alloc (Obj.cells #[.slice ta ls.length tc,.slice fa fs.length fc] 28)).alloc (Obj.cells #[.int .i64 10,.int .i64 A,.int .i64 B] 99)):=((Chg.refl (fun _=>False) w).alloc _).alloc _
 have KB:Hid _:=kb
 clear kb
 have ea:ahead ls fs fs[fi] 10 A B=[]:=by simp [ahead]
 rw [ea]
 clear ea
 go_enter Try.func119,Try.ntmps119
 go_wp2
 go_ret
 exact ⟨_,rfl,World.ownsRow_nil _ _ _ _,KB.out⟩
set_option maxHeartbeats 400000 in
set_option maxRecDepth 100000 in
theorem tx_11 (ta fa:Option Addr) (tc fc:Nat) (ls:List (List Int)) (fs:List Fn) (fi:Nat) (hfi:fi < fs.length) (A B:Int) (w:World) (base:Nat) (hbase:base<=w.heap.size) (_ht:TypesV w base (.slice ta ls.length tc) ls) (_hf:FuncsV 92 99 w base (.slice fa fs.length fc) fs)  :
 Calls Try.prog 119 #[.agg #[.slice ta ls.length tc,.slice fa fs.length fc],.int .i64 (fi:Int),.agg #[.int .i64 11,.int .i64 A,.int .i64 B]] w fun e w' =>
  ∃ v,e=.returned v/\IntsV w' base v (ahead ls fs fs[fi] 11 A B)/\Chg (fun _=>False) w w':=by
 have kb:Chg (fun _=>False) w ((w.alloc (Obj.cells #[.slice ta ls.length tc,.slice fa fs.length fc] 28)).alloc (Obj.cells #[.int .i64 11,.int .i64 A,.int .i64 B] 99)):=((Chg.refl (fun _=>False) w).alloc _).alloc _
 have KB:Hid _:=kb
 clear kb
 have ea:ahead ls fs fs[fi] 11 A B=[A]:=by simp [ahead]
 rw [ea]
 clear ea
 go_enter Try.func119,Try.ntmps119
 go_wp2
 go_ret
 exact ⟨_,rfl,IntsV.lit [A] 1 rfl (by simp) (by omega) (by unfold maxLen;omega),KB.out.alloc _⟩
set_option maxHeartbeats 400000 in
set_option maxRecDepth 100000 in
theorem tx_12 (ta fa:Option Addr) (tc fc:Nat) (ls:List (List Int)) (fs:List Fn) (fi:Nat) (hfi:fi < fs.length) (A B:Int) (w:World) (base:Nat) (hbase:base<=w.heap.size) (_ht:TypesV w base (.slice ta ls.length tc) ls) (_hf:FuncsV 92 99 w base (.slice fa fs.length fc) fs)  :
 Calls Try.prog 119 #[.agg #[.slice ta ls.length tc,.slice fa fs.length fc],.int .i64 (fi:Int),.agg #[.int .i64 12,.int .i64 A,.int .i64 B]] w fun e w' =>
  ∃ v,e=.returned v/\IntsV w' base v (ahead ls fs fs[fi] 12 A B)/\Chg (fun _=>False) w w':=by
 have kb:Chg (fun _=>False) w ((w.alloc (Obj.cells #[.slice ta ls.length tc,.slice fa fs.length fc] 28)).alloc (Obj.cells #[.int .i64 12,.int .i64 A,.int .i64 B] 99)):=((Chg.refl (fun _=>False) w).alloc _).alloc _
 have KB:Hid _:=kb
 clear kb
 have ea:ahead ls fs fs[fi] 12 A B=[A,A]:=by simp [ahead]
 rw [ea]
 clear ea
 go_enter Try.func119,Try.ntmps119
 go_wp2
 go_ret
 exact ⟨_,rfl,IntsV.lit [A,A] 2 rfl (by simp) (by omega) (by unfold maxLen;omega),KB.out.alloc _⟩
set_option maxHeartbeats 400000 in
set_option maxRecDepth 100000 in
theorem tx_13 (ta fa:Option Addr) (tc fc:Nat) (ls:List (List Int)) (fs:List Fn) (fi:Nat) (hfi:fi < fs.length) (A B:Int) (w:World) (base:Nat) (_hbase:base<=w.heap.size) (_ht:TypesV w base (.slice ta ls.length tc) ls) (_hf:FuncsV 92 99 w base (.slice fa fs.length fc) fs)  :
 Calls Try.prog 119 #[.agg #[.slice ta ls.length tc,.slice fa fs.length fc],.int .i64 (fi:Int),.agg #[.int .i64 13,.int .i64 A,.int .i64 B]] w fun e w' =>
  ∃ v,e=.returned v/\IntsV w' base v (ahead ls fs fs[fi] 13 A B)/\Chg (fun _=>False) w w':=by
 have kb:Chg (fun _=>False) w ((w.alloc (Obj.cells #[.slice ta ls.length tc,.slice fa fs.length fc] 28)).alloc (Obj.cells #[.int .i64 13,.int .i64 A,.int .i64 B] 99)):=((Chg.refl (fun _=>False) w).alloc _).alloc _
 have KB:Hid _:=kb
 clear kb
 have ea:ahead ls fs fs[fi] 13 A B=[]:=by simp [ahead]
 rw [ea]
 clear ea
 go_enter Try.func119,Try.ntmps119
 go_wp2
 go_ret
 exact ⟨_,rfl,World.ownsRow_nil _ _ _ _,KB.out⟩
set_option maxHeartbeats 400000 in
set_option maxRecDepth 100000 in
theorem tx_14 (ta fa:Option Addr) (tc fc:Nat) (ls:List (List Int)) (fs:List Fn) (fi:Nat) (hfi:fi < fs.length) (A B:Int) (w:World) (base:Nat) (hbase:base<=w.heap.size) (_ht:TypesV w base (.slice ta ls.length tc) ls) (_hf:FuncsV 92 99 w base (.slice fa fs.length fc) fs)  :
 Calls Try.prog 119 #[.agg #[.slice ta ls.length tc,.slice fa fs.length fc],.int .i64 (fi:Int),.agg #[.int .i64 14,.int .i64 A,.int .i64 B]] w fun e w' =>
  ∃ v,e=.returned v/\IntsV w' base v (ahead ls fs fs[fi] 14 A B)/\Chg (fun _=>False) w w':=by
 have kb:Chg (fun _=>False) w ((w.alloc (Obj.cells #[.slice ta ls.length tc,.slice fa fs.length fc] 28)).alloc (Obj.cells #[.int .i64 14,.int .i64 A,.int .i64 B] 99)):=((Chg.refl (fun _=>False) w).alloc _).alloc _
 have KB:Hid _:=kb
 clear kb
 have ea:ahead ls fs fs[fi] 14 A B=[0]:=by simp [ahead]
 rw [ea]
 clear ea
 go_enter Try.func119,Try.ntmps119
 go_wp2
 go_ret
 exact ⟨_,rfl,IntsV.lit [0] 1 rfl (by simp) (by omega) (by unfold maxLen;omega),KB.out.alloc _⟩
set_option maxHeartbeats 400000 in
set_option maxRecDepth 100000 in
theorem tx_15 (ta fa:Option Addr) (tc fc:Nat) (ls:List (List Int)) (fs:List Fn) (fi:Nat) (hfi:fi < fs.length) (A B:Int) (w:World) (base:Nat) (_hbase:base<=w.heap.size) (_ht:TypesV w base (.slice ta ls.length tc) ls) (hf:FuncsV 92 99 w base (.slice fa fs.length fc) fs) (hA:0<=A/\A < (fs.length:Int)) (hargs:∀ f ∈ fs,0<=f.args/\f.args<=(f.locals.length:Int)) :
 Calls Try.prog 119 #[.agg #[.slice ta ls.length tc,.slice fa fs.length fc],.int .i64 (fi:Int),.agg #[.int .i64 15,.int .i64 A,.int .i64 B]] w fun e w' =>
  ∃ v,e=.returned v/\IntsV w' base v (ahead ls fs fs[fi] 15 A B)/\Chg (fun _=>False) w w':=by
 have kb:Chg (fun _=>False) w ((w.alloc (Obj.cells #[.slice ta ls.length tc,.slice fa fs.length fc] 28)).alloc (Obj.cells #[.int .i64 15,.int .i64 A,.int .i64 B] 99)):=((Chg.refl (fun _=>False) w).alloc _).alloc _
 have KB:Hid _:=kb
 clear kb
 obtain ⟨a,rfl⟩:∃ a:Nat,A=(a:Int):=⟨A.toNat,by omega⟩
 have ha:a < fs.length:=by omega
 obtain ⟨g,cap,hv,hle,hcells⟩:=(hf.chg KB.out (fun _ _ _ e=>e) (fun _ _ _ e=>e) (fun _ _ _ e=>e)).formS (by omega)
 simp only [Value.slice.injEq] at hv
 obtain ⟨rfl,_,rfl⟩:=hv
 obtain ⟨lv,cv,c0,c1,c2,_,hl,_⟩:=hcells a ha
 clear hcells
 have hb:=hargs fs[a] (List.getElem_mem ha)
 obtain ⟨x,hx⟩:∃ x:Nat,fs[a].args=(x:Int):=⟨fs[a].args.toNat,by omega⟩
 have ex:fs[a].args.toNat=x:=by omega
 obtain ⟨la,lc,rfl⟩:=hl.slice
 have hm:fs[a].locals.length<=lc/\(la=none->x=0/\lc=0):=by
  rcases hl.2 with ⟨hv,h0⟩ | ⟨g',cap',cur,hv,_,_,hle,_⟩
  ·simp only [Value.slice.injEq] at hv
   obtain ⟨rfl,h3,rfl⟩:=hv
   exact ⟨by omega,fun _=>⟨by omega,rfl⟩⟩
  ·simp only [Value.slice.injEq] at hv
   obtain ⟨rfl,_,rfl⟩:=hv
   exact ⟨hle,fun e=>by cases e⟩
 have hu:=hl.take x (by omega) hm.2
 have ea':=argsF_in fs a ha hb
 rw [ex] at ea'
 rw [hx] at c0
 have ha':(a:Int) < (fs.length:Int):=by omega
 have hm1:(x:Int)<=(lc:Int):=by omega
 have hm0:=hm.2
 clear hA hb hm
 have ea:ahead ls fs fs[fi] 15 (a:Int) B=fs[a].locals.take x:=by simp [ahead,ea']
 rw [ea]
 clear ea
 go_enter Try.func119,Try.ntmps119
 have k0:=KB.out
 have b0:Blk ((w.alloc (Obj.cells #[.slice ta ls.length tc,.slice (some ⟨g,0,none⟩) fs.length fc] 28)).alloc (Obj.cells #[.int .i64 15,.int .i64 (a:Int),.int .i64 B] 99)) w.heap.size #[.slice ta ls.length tc,.slice (some ⟨g,0,none⟩) fs.length fc] 28:=(Blk.new' rfl _ 28).alloc _
 have b1:Blk ((w.alloc (Obj.cells #[.slice ta ls.length tc,.slice (some ⟨g,0,none⟩) fs.length fc] 28)).alloc (Obj.cells #[.int .i64 15,.int .i64 (a:Int),.int .i64 B] 99)) (w.heap.size+1) #[.int .i64 15,.int .i64 (a:Int),.int .i64 B] 99:=Blk.new' (by simp) _ 99
 clear KB
 go_wp2_with fail
 generalize ((w.alloc (Obj.cells #[.slice ta ls.length tc,.slice (some ⟨g,0,none⟩) fs.length fc] 28)).alloc (Obj.cells #[.int .i64 15,.int .i64 (a:Int),.int .i64 B] 99))=W at *
 have y0:W.cell? ⟨w.heap.size,0,none⟩=some (.slice ta ls.length tc):=b0.cell 0
 have y1:W.cell? ⟨w.heap.size,1,none⟩=some (.slice (some ⟨g,0,none⟩) fs.length fc):=b0.cell 1
 have y2:W.cell? ⟨w.heap.size+1,1,none⟩=some (.int .i64 ((a:Int))):=b1.cell 1
 have y3:W.cell? ⟨w.heap.size+1,2,none⟩=some (.int .i64 (B)):=b1.cell 2
 have hWs:=k0.size
 go_quiet (fail)
 go_wp2
 go_ret
 exact ⟨_,rfl,own_drew hu,k0.drewN _⟩
set_option maxHeartbeats 400000 in
set_option maxRecDepth 100000 in
theorem tx_16 (ta fa:Option Addr) (tc fc:Nat) (ls:List (List Int)) (fs:List Fn) (fi:Nat) (hfi:fi < fs.length) (A B:Int) (w:World) (base:Nat) (hbase:base<=w.heap.size) (_ht:TypesV w base (.slice ta ls.length tc) ls) (hf:FuncsV 92 99 w base (.slice fa fs.length fc) fs)  :
 Calls Try.prog 119 #[.agg #[.slice ta ls.length tc,.slice fa fs.length fc],.int .i64 (fi:Int),.agg #[.int .i64 16,.int .i64 A,.int .i64 B]] w fun e w' =>
  ∃ v,e=.returned v/\IntsV w' base v (ahead ls fs fs[fi] 16 A B)/\Chg (fun _=>False) w w':=by
 have kb:Chg (fun _=>False) w ((w.alloc (Obj.cells #[.slice ta ls.length tc,.slice fa fs.length fc] 28)).alloc (Obj.cells #[.int .i64 16,.int .i64 A,.int .i64 B] 99)):=((Chg.refl (fun _=>False) w).alloc _).alloc _
 have KB:Hid _:=kb
 clear kb
 obtain ⟨g,cap,hv,hle,hcells⟩:=(hf.chg KB.out (fun _ _ _ e=>e) (fun _ _ _ e=>e) (fun _ _ _ e=>e)).formS (by omega)
 simp only [Value.slice.injEq] at hv
 obtain ⟨rfl,_,rfl⟩:=hv
 obtain ⟨lv,cv,c0,c1,c2,_,hl,_⟩:=hcells fi hfi
 clear hcells
 have hfi':(fi:Int) < (fs.length:Int):=by omega
 have ea:ahead ls fs fs[fi] 16 A B=[fs[fi].result]:=by simp [ahead]
 rw [ea]
 clear ea
 go_enter Try.func119,Try.ntmps119
 go_wp2
 go_ret
 exact ⟨_,rfl,IntsV.lit [fs[fi].result] 1 rfl (by simp) (by omega) (by unfold maxLen;omega),KB.out.alloc _⟩
set_option maxHeartbeats 400000 in
set_option maxRecDepth 100000 in
theorem tx_17 (ta fa:Option Addr) (tc fc:Nat) (ls:List (List Int)) (fs:List Fn) (fi:Nat) (hfi:fi < fs.length) (A B:Int) (w:World) (base:Nat) (hbase:base<=w.heap.size) (_ht:TypesV w base (.slice ta ls.length tc) ls) (_hf:FuncsV 92 99 w base (.slice fa fs.length fc) fs)  :
 Calls Try.prog 119 #[.agg #[.slice ta ls.length tc,.slice fa fs.length fc],.int .i64 (fi:Int),.agg #[.int .i64 17,.int .i64 A,.int .i64 B]] w fun e w' =>
  ∃ v,e=.returned v/\IntsV w' base v (ahead ls fs fs[fi] 17 A B)/\Chg (fun _=>False) w w':=by
 have kb:Chg (fun _=>False) w ((w.alloc (Obj.cells #[.slice ta ls.length tc,.slice fa fs.length fc] 28)).alloc (Obj.cells #[.int .i64 17,.int .i64 A,.int .i64 B] 99)):=((Chg.refl (fun _=>False) w).alloc _).alloc _
 have KB:Hid _:=kb
 clear kb
 have ea:ahead ls fs fs[fi] 17 A B=[0]:=by simp [ahead]
 rw [ea]
 clear ea
 go_enter Try.func119,Try.ntmps119
 go_wp2
 go_ret
 exact ⟨_,rfl,IntsV.lit [0] 1 rfl (by simp) (by omega) (by unfold maxLen;omega),KB.out.alloc _⟩
set_option maxHeartbeats 400000 in
set_option maxRecDepth 100000 in
theorem tx_18 (ta fa:Option Addr) (tc fc:Nat) (ls:List (List Int)) (fs:List Fn) (fi:Nat) (hfi:fi < fs.length) (A B:Int) (w:World) (base:Nat) (_hbase:base<=w.heap.size) (_ht:TypesV w base (.slice ta ls.length tc) ls) (_hf:FuncsV 92 99 w base (.slice fa fs.length fc) fs)  :
 Calls Try.prog 119 #[.agg #[.slice ta ls.length tc,.slice fa fs.length fc],.int .i64 (fi:Int),.agg #[.int .i64 18,.int .i64 A,.int .i64 B]] w fun e w' =>
  ∃ v,e=.returned v/\IntsV w' base v (ahead ls fs fs[fi] 18 A B)/\Chg (fun _=>False) w w':=by
 have kb:Chg (fun _=>False) w ((w.alloc (Obj.cells #[.slice ta ls.length tc,.slice fa fs.length fc] 28)).alloc (Obj.cells #[.int .i64 18,.int .i64 A,.int .i64 B] 99)):=((Chg.refl (fun _=>False) w).alloc _).alloc _
 have KB:Hid _:=kb
 clear kb
 have ea:ahead ls fs fs[fi] 18 A B=[]:=by simp [ahead]
 rw [ea]
 clear ea
 go_enter Try.func119,Try.ntmps119
 go_wp2
 go_ret
 exact ⟨_,rfl,World.ownsRow_nil _ _ _ _,KB.out⟩
set_option maxHeartbeats 400000 in
set_option maxRecDepth 100000 in
theorem lx_0 (ta fa:Option Addr) (tc fc:Nat) (ls:List (List Int)) (fs:List Fn) (fi:Nat) (hfi:fi < fs.length) (A B:Int) (w:World) (base:Nat) (hbase:base<=w.heap.size) (_ht:TypesV w base (.slice ta ls.length tc) ls) (_hf:FuncsV 92 99 w base (.slice fa fs.length fc) fs)  :
 Calls Try.prog 120 #[.agg #[.slice ta ls.length tc,.slice fa fs.length fc],.int .i64 (fi:Int),.agg #[.int .i64 0,.int .i64 A,.int .i64 B]] w fun e w' =>
  ∃ v,e=.returned v/\IntsV w' base v (behind ls fs fs[fi] 0 A B)/\Chg (fun _=>False) w w':=by
 have kb:Chg (fun _=>False) w ((w.alloc (Obj.cells #[.slice ta ls.length tc,.slice fa fs.length fc] 28)).alloc (Obj.cells #[.int .i64 0,.int .i64 A,.int .i64 B] 99)):=((Chg.refl (fun _=>False) w).alloc _).alloc _
 have KB:Hid _:=kb
 clear kb
 have ea:behind ls fs fs[fi] 0 A B=[0]:=by simp [behind]
 rw [ea]
 clear ea
 go_enter Try.func120,Try.ntmps120
 go_wp2
 go_ret
 exact ⟨_,rfl,IntsV.lit [0] 1 rfl (by simp) (by omega) (by unfold maxLen;omega),KB.out.alloc _⟩
set_option maxHeartbeats 400000 in
set_option maxRecDepth 100000 in
theorem lx_1 (ta fa:Option Addr) (tc fc:Nat) (ls:List (List Int)) (fs:List Fn) (fi:Nat) (hfi:fi < fs.length) (A B:Int) (w:World) (base:Nat) (hbase:base<=w.heap.size) (_ht:TypesV w base (.slice ta ls.length tc) ls) (_hf:FuncsV 92 99 w base (.slice fa fs.length fc) fs)  :
 Calls Try.prog 120 #[.agg #[.slice ta ls.length tc,.slice fa fs.length fc],.int .i64 (fi:Int),.agg #[.int .i64 1,.int .i64 A,.int .i64 B]] w fun e w' =>
  ∃ v,e=.returned v/\IntsV w' base v (behind ls fs fs[fi] 1 A B)/\Chg (fun _=>False) w w':=by
 have kb:Chg (fun _=>False) w ((w.alloc (Obj.cells #[.slice ta ls.length tc,.slice fa fs.length fc] 28)).alloc (Obj.cells #[.int .i64 1,.int .i64 A,.int .i64 B] 99)):=((Chg.refl (fun _=>False) w).alloc _).alloc _
 have KB:Hid _:=kb
 clear kb
 have ea:behind ls fs fs[fi] 1 A B=[0]:=by simp [behind]
 rw [ea]
 clear ea
 go_enter Try.func120,Try.ntmps120
 go_wp2
 go_ret
 exact ⟨_,rfl,IntsV.lit [0] 1 rfl (by simp) (by omega) (by unfold maxLen;omega),KB.out.alloc _⟩
set_option maxHeartbeats 400000 in
set_option maxRecDepth 100000 in
theorem lx_2 (ta fa:Option Addr) (tc fc:Nat) (ls:List (List Int)) (fs:List Fn) (fi:Nat) (hfi:fi < fs.length) (A B:Int) (w:World) (base:Nat) (hbase:base<=w.heap.size) (_ht:TypesV w base (.slice ta ls.length tc) ls) (_hf:FuncsV 92 99 w base (.slice fa fs.length fc) fs)  :
 Calls Try.prog 120 #[.agg #[.slice ta ls.length tc,.slice fa fs.length fc],.int .i64 (fi:Int),.agg #[.int .i64 2,.int .i64 A,.int .i64 B]] w fun e w' =>
  ∃ v,e=.returned v/\IntsV w' base v (behind ls fs fs[fi] 2 A B)/\Chg (fun _=>False) w w':=by
 have kb:Chg (fun _=>False) w ((w.alloc (Obj.cells #[.slice ta ls.length tc,.slice fa fs.length fc] 28)).alloc (Obj.cells #[.int .i64 2,.int .i64 A,.int .i64 B] 99)):=((Chg.refl (fun _=>False) w).alloc _).alloc _
 have KB:Hid _:=kb
 clear kb
 have ea:behind ls fs fs[fi] 2 A B=[0]:=by simp [behind]
 rw [ea]
 clear ea
 go_enter Try.func120,Try.ntmps120
 go_wp2
 go_ret
 exact ⟨_,rfl,IntsV.lit [0] 1 rfl (by simp) (by omega) (by unfold maxLen;omega),KB.out.alloc _⟩
set_option maxHeartbeats 400000 in
set_option maxRecDepth 100000 in
theorem lx_3 (ta fa:Option Addr) (tc fc:Nat) (ls:List (List Int)) (fs:List Fn) (fi:Nat) (hfi:fi < fs.length) (A B:Int) (w:World) (base:Nat) (hbase:base<=w.heap.size) (_ht:TypesV w base (.slice ta ls.length tc) ls) (_hf:FuncsV 92 99 w base (.slice fa fs.length fc) fs)  :
 Calls Try.prog 120 #[.agg #[.slice ta ls.length tc,.slice fa fs.length fc],.int .i64 (fi:Int),.agg #[.int .i64 3,.int .i64 A,.int .i64 B]] w fun e w' =>
  ∃ v,e=.returned v/\IntsV w' base v (behind ls fs fs[fi] 3 A B)/\Chg (fun _=>False) w w':=by
 have kb:Chg (fun _=>False) w ((w.alloc (Obj.cells #[.slice ta ls.length tc,.slice fa fs.length fc] 28)).alloc (Obj.cells #[.int .i64 3,.int .i64 A,.int .i64 B] 99)):=((Chg.refl (fun _=>False) w).alloc _).alloc _
 have KB:Hid _:=kb
 clear kb
 have ea:behind ls fs fs[fi] 3 A B=[0]:=by simp [behind]
 rw [ea]
 clear ea
 go_enter Try.func120,Try.ntmps120
 go_wp2
 go_ret
 exact ⟨_,rfl,IntsV.lit [0] 1 rfl (by simp) (by omega) (by unfold maxLen;omega),KB.out.alloc _⟩
set_option maxHeartbeats 400000 in
set_option maxRecDepth 100000 in
theorem lx_4 (ta fa:Option Addr) (tc fc:Nat) (ls:List (List Int)) (fs:List Fn) (fi:Nat) (hfi:fi < fs.length) (A B:Int) (w:World) (base:Nat) (hbase:base<=w.heap.size) (_ht:TypesV w base (.slice ta ls.length tc) ls) (_hf:FuncsV 92 99 w base (.slice fa fs.length fc) fs)  :
 Calls Try.prog 120 #[.agg #[.slice ta ls.length tc,.slice fa fs.length fc],.int .i64 (fi:Int),.agg #[.int .i64 4,.int .i64 A,.int .i64 B]] w fun e w' =>
  ∃ v,e=.returned v/\IntsV w' base v (behind ls fs fs[fi] 4 A B)/\Chg (fun _=>False) w w':=by
 have kb:Chg (fun _=>False) w ((w.alloc (Obj.cells #[.slice ta ls.length tc,.slice fa fs.length fc] 28)).alloc (Obj.cells #[.int .i64 4,.int .i64 A,.int .i64 B] 99)):=((Chg.refl (fun _=>False) w).alloc _).alloc _
 have KB:Hid _:=kb
 clear kb
 have ea:behind ls fs fs[fi] 4 A B=[0]:=by simp [behind]
 rw [ea]
 clear ea
 go_enter Try.func120,Try.ntmps120
 go_wp2
 go_ret
 exact ⟨_,rfl,IntsV.lit [0] 1 rfl (by simp) (by omega) (by unfold maxLen;omega),KB.out.alloc _⟩
set_option maxHeartbeats 400000 in
set_option maxRecDepth 100000 in
theorem lx_5 (ta fa:Option Addr) (tc fc:Nat) (ls:List (List Int)) (fs:List Fn) (fi:Nat) (hfi:fi < fs.length) (A B:Int) (w:World) (base:Nat) (hbase:base<=w.heap.size) (_ht:TypesV w base (.slice ta ls.length tc) ls) (hf:FuncsV 92 99 w base (.slice fa fs.length fc) fs) (hA:0<=A/\A < (fs[fi].locals.length:Int)) :
 Calls Try.prog 120 #[.agg #[.slice ta ls.length tc,.slice fa fs.length fc],.int .i64 (fi:Int),.agg #[.int .i64 5,.int .i64 A,.int .i64 B]] w fun e w' =>
  ∃ v,e=.returned v/\IntsV w' base v (behind ls fs fs[fi] 5 A B)/\Chg (fun _=>False) w w':=by
 have kb:Chg (fun _=>False) w ((w.alloc (Obj.cells #[.slice ta ls.length tc,.slice fa fs.length fc] 28)).alloc (Obj.cells #[.int .i64 5,.int .i64 A,.int .i64 B] 99)):=((Chg.refl (fun _=>False) w).alloc _).alloc _
 have KB:Hid _:=kb
 clear kb
 obtain ⟨a,rfl⟩:∃ a:Nat,A=(a:Int):=⟨A.toNat,by omega⟩
 obtain ⟨g,cap,hv,hle,hcells⟩:=(hf.chg KB.out (fun _ _ _ e=>e) (fun _ _ _ e=>e) (fun _ _ _ e=>e)).formS (by omega)
 simp only [Value.slice.injEq] at hv
 obtain ⟨rfl,_,rfl⟩:=hv
 obtain ⟨lv,cv,c0,c1,c2,_,hl,_⟩:=hcells fi hfi
 clear hcells
 obtain ⟨gl,lc,rfl,_,hle2,_,lcs⟩:=hl.form (by omega)
 have c3:=lcs a (by omega)
 have ha:(a:Int) < (fs[fi].locals.length:Int):=hA.2
 have hfi':(fi:Int) < (fs.length:Int):=by omega
 clear lcs hA
 have ea:behind ls fs fs[fi] 5 (a:Int) B=[fs[fi].locals.getD a 0]:=by simp [behind,tyAt_in fs[fi].locals a (by omega)]
 rw [ea]
 clear ea
 go_enter Try.func120,Try.ntmps120
 have k0:=KB.out
 have b0:Blk ((w.alloc (Obj.cells #[.slice ta ls.length tc,.slice (some ⟨g,0,none⟩) fs.length fc] 28)).alloc (Obj.cells #[.int .i64 5,.int .i64 (a:Int),.int .i64 B] 99)) w.heap.size #[.slice ta ls.length tc,.slice (some ⟨g,0,none⟩) fs.length fc] 28:=(Blk.new' rfl _ 28).alloc _
 have b1:Blk ((w.alloc (Obj.cells #[.slice ta ls.length tc,.slice (some ⟨g,0,none⟩) fs.length fc] 28)).alloc (Obj.cells #[.int .i64 5,.int .i64 (a:Int),.int .i64 B] 99)) (w.heap.size+1) #[.int .i64 5,.int .i64 (a:Int),.int .i64 B] 99:=Blk.new' (by simp) _ 99
 clear KB
 go_wp2_with fail
 generalize ((w.alloc (Obj.cells #[.slice ta ls.length tc,.slice (some ⟨g,0,none⟩) fs.length fc] 28)).alloc (Obj.cells #[.int .i64 5,.int .i64 (a:Int),.int .i64 B] 99))=W at *
 have y0:W.cell? ⟨w.heap.size,0,none⟩=some (.slice ta ls.length tc):=b0.cell 0
 have y1:W.cell? ⟨w.heap.size,1,none⟩=some (.slice (some ⟨g,0,none⟩) fs.length fc):=b0.cell 1
 have y2:W.cell? ⟨w.heap.size+1,1,none⟩=some (.int .i64 ((a:Int))):=b1.cell 1
 have y3:W.cell? ⟨w.heap.size+1,2,none⟩=some (.int .i64 (B)):=b1.cell 2
 have hWs:=k0.size
 go_region
 all_goals
  go_wp2
  go_ret
  exact ⟨.slice (some ⟨W.heap.size,0,none⟩) 1 1,rfl,own_drew (IntsV.lit (W:=W) (base:=base) [fs[fi].locals.getD a 0] 1 rfl rfl (by omega) (by unfold maxLen;omega)),((k0.alloc _).drew)⟩
set_option maxHeartbeats 400000 in
set_option maxRecDepth 100000 in
theorem lx_6 (ta fa:Option Addr) (tc fc:Nat) (ls:List (List Int)) (fs:List Fn) (fi:Nat) (hfi:fi < fs.length) (A B:Int) (w:World) (base:Nat) (_hbase:base<=w.heap.size) (_ht:TypesV w base (.slice ta ls.length tc) ls) (_hf:FuncsV 92 99 w base (.slice fa fs.length fc) fs)  :
 Calls Try.prog 120 #[.agg #[.slice ta ls.length tc,.slice fa fs.length fc],.int .i64 (fi:Int),.agg #[.int .i64 6,.int .i64 A,.int .i64 B]] w fun e w' =>
  ∃ v,e=.returned v/\IntsV w' base v (behind ls fs fs[fi] 6 A B)/\Chg (fun _=>False) w w':=by
 have kb:Chg (fun _=>False) w ((w.alloc (Obj.cells #[.slice ta ls.length tc,.slice fa fs.length fc] 28)).alloc (Obj.cells #[.int .i64 6,.int .i64 A,.int .i64 B] 99)):=((Chg.refl (fun _=>False) w).alloc _).alloc _
 have KB:Hid _:=kb
 clear kb
 have ea:behind ls fs fs[fi] 6 A B=[]:=by simp [behind]
 rw [ea]
 clear ea
 go_enter Try.func120,Try.ntmps120
 go_wp2
 go_ret
 exact ⟨_,rfl,World.ownsRow_nil _ _ _ _,KB.out⟩
set_option maxHeartbeats 400000 in
set_option maxRecDepth 100000 in
theorem lx_7 (ta fa:Option Addr) (tc fc:Nat) (ls:List (List Int)) (fs:List Fn) (fi:Nat) (hfi:fi < fs.length) (A B:Int) (w:World) (base:Nat) (hbase:base<=w.heap.size) (_ht:TypesV w base (.slice ta ls.length tc) ls) (_hf:FuncsV 92 99 w base (.slice fa fs.length fc) fs)  :
 Calls Try.prog 120 #[.agg #[.slice ta ls.length tc,.slice fa fs.length fc],.int .i64 (fi:Int),.agg #[.int .i64 7,.int .i64 A,.int .i64 B]] w fun e w' =>
  ∃ v,e=.returned v/\IntsV w' base v (behind ls fs fs[fi] 7 A B)/\Chg (fun _=>False) w w':=by
 have kb:Chg (fun _=>False) w ((w.alloc (Obj.cells #[.slice ta ls.length tc,.slice fa fs.length fc] 28)).alloc (Obj.cells #[.int .i64 7,.int .i64 A,.int .i64 B] 99)):=((Chg.refl (fun _=>False) w).alloc _).alloc _
 have KB:Hid _:=kb
 clear kb
 have ea:behind ls fs fs[fi] 7 A B=[A]:=by simp [behind]
 rw [ea]
 clear ea
 go_enter Try.func120,Try.ntmps120
 go_wp2
 go_ret
 exact ⟨_,rfl,IntsV.lit [A] 1 rfl (by simp) (by omega) (by unfold maxLen;omega),KB.out.alloc _⟩
set_option maxHeartbeats 400000 in
set_option maxRecDepth 100000 in
theorem lx_8 (ta fa:Option Addr) (tc fc:Nat) (ls:List (List Int)) (fs:List Fn) (fi:Nat) (hfi:fi < fs.length) (A B:Int) (w:World) (base:Nat) (hbase:base<=w.heap.size) (ht:TypesV w base (.slice ta ls.length tc) ls) (_hf:FuncsV 92 99 w base (.slice fa fs.length fc) fs) (hn:ls.length<=10000) (hA:1<=A/\A<=(ls.length:Int)) (hB:0<=B/\B < ((flds ls A).length:Int)) :
 Calls Try.prog 120 #[.agg #[.slice ta ls.length tc,.slice fa fs.length fc],.int .i64 (fi:Int),.agg #[.int .i64 8,.int .i64 A,.int .i64 B]] w fun e w' =>
  ∃ v,e=.returned v/\IntsV w' base v (behind ls fs fs[fi] 8 A B)/\Chg (fun _=>False) w w':=by
 have kb:Chg (fun _=>False) w ((w.alloc (Obj.cells #[.slice ta ls.length tc,.slice fa fs.length fc] 28)).alloc (Obj.cells #[.int .i64 8,.int .i64 A,.int .i64 B] 99)):=((Chg.refl (fun _=>False) w).alloc _).alloc _
 have KB:Hid _:=kb
 clear kb
 obtain ⟨a,rfl⟩:∃ a:Nat,A=(a:Int)+1:=⟨(A - 1).toNat,by omega⟩
 obtain ⟨b,rfl⟩:∃ b:Nat,B=(b:Int):=⟨B.toNat,by omega⟩
 have eL:=flds_in ls a (by omega)
 rw [eL] at hB
 obtain ⟨gt,capt,u,hv,hle,ct,hu⟩:=(ht.new KB.out).cell a (by omega)
 simp only [Value.slice.injEq] at hv
 obtain ⟨rfl,_,rfl⟩:=hv
 generalize ls.getD a []=L at *
 obtain ⟨gu,uc,rfl,_,hle2,_,ucs⟩:=hu.form (by omega)
 have c3:=ucs b (by omega)
 have ha:(a:Int) < (ls.length:Int):=by omega
 have hb:(b:Int) < (L.length:Int):=hB.2
 have eT:=tyAt_in L b (by omega)
 clear ucs hA hB
 have ea:behind ls fs fs[fi] 8 ((a:Int)+1) (b:Int)=[L.getD b 0]:=by simp [behind,eL,eT]
 rw [ea]
 clear ea
 go_enter Try.func120,Try.ntmps120
 have k0:=KB.out
 have b0:Blk ((w.alloc (Obj.cells #[.slice (some ⟨gt,0,none⟩) ls.length tc,.slice fa fs.length fc] 28)).alloc (Obj.cells #[.int .i64 8,.int .i64 ((a:Int)+1),.int .i64 (b:Int)] 99)) w.heap.size #[.slice (some ⟨gt,0,none⟩) ls.length tc,.slice fa fs.length fc] 28:=(Blk.new' rfl _ 28).alloc _
 have b1:Blk ((w.alloc (Obj.cells #[.slice (some ⟨gt,0,none⟩) ls.length tc,.slice fa fs.length fc] 28)).alloc (Obj.cells #[.int .i64 8,.int .i64 ((a:Int)+1),.int .i64 (b:Int)] 99)) (w.heap.size+1) #[.int .i64 8,.int .i64 ((a:Int)+1),.int .i64 (b:Int)] 99:=Blk.new' (by simp) _ 99
 clear KB
 clear eL eT
 go_wp2_with fail
 generalize ((w.alloc (Obj.cells #[.slice (some ⟨gt,0,none⟩) ls.length tc,.slice fa fs.length fc] 28)).alloc (Obj.cells #[.int .i64 8,.int .i64 ((a:Int)+1),.int .i64 (b:Int)] 99))=W at *
 have y0:W.cell? ⟨w.heap.size,0,none⟩=some (.slice (some ⟨gt,0,none⟩) ls.length tc):=b0.cell 0
 have y1:W.cell? ⟨w.heap.size,1,none⟩=some (.slice fa fs.length fc):=b0.cell 1
 have y2:W.cell? ⟨w.heap.size+1,1,none⟩=some (.int .i64 (((a:Int)+1))):=b1.cell 1
 have y3:W.cell? ⟨w.heap.size+1,2,none⟩=some (.int .i64 ((b:Int))):=b1.cell 2
 have hWs:=k0.size
 go_region
 all_goals
  go_wp2
  go_ret
  exact ⟨.slice (some ⟨W.heap.size,0,none⟩) 1 1,rfl,own_drew (IntsV.lit (W:=W) (base:=base) [L.getD b 0] 1 rfl rfl (by omega) (by unfold maxLen;omega)),((k0.alloc _).drew)⟩
set_option maxHeartbeats 400000 in
set_option maxRecDepth 100000 in
theorem lx_9 (ta fa:Option Addr) (tc fc:Nat) (ls:List (List Int)) (fs:List Fn) (fi:Nat) (hfi:fi < fs.length) (A B:Int) (w:World) (base:Nat) (_hbase:base<=w.heap.size) (_ht:TypesV w base (.slice ta ls.length tc) ls) (_hf:FuncsV 92 99 w base (.slice fa fs.length fc) fs)  :
 Calls Try.prog 120 #[.agg #[.slice ta ls.length tc,.slice fa fs.length fc],.int .i64 (fi:Int),.agg #[.int .i64 9,.int .i64 A,.int .i64 B]] w fun e w' =>
  ∃ v,e=.returned v/\IntsV w' base v (behind ls fs fs[fi] 9 A B)/\Chg (fun _=>False) w w':=by
 have kb:Chg (fun _=>False) w ((w.alloc (Obj.cells #[.slice ta ls.length tc,.slice fa fs.length fc] 28)).alloc (Obj.cells #[.int .i64 9,.int .i64 A,.int .i64 B] 99)):=((Chg.refl (fun _=>False) w).alloc _).alloc _
 have KB:Hid _:=kb
 clear kb
 have ea:behind ls fs fs[fi] 9 A B=[]:=by simp [behind]
 rw [ea]
 clear ea
 go_enter Try.func120,Try.ntmps120
 go_wp2
 go_ret
 exact ⟨_,rfl,World.ownsRow_nil _ _ _ _,KB.out⟩
set_option maxHeartbeats 400000 in
set_option maxRecDepth 100000 in
theorem lx_10 (ta fa:Option Addr) (tc fc:Nat) (ls:List (List Int)) (fs:List Fn) (fi:Nat) (hfi:fi < fs.length) (A B:Int) (w:World) (base:Nat) (hbase:base<=w.heap.size) (_ht:TypesV w base (.slice ta ls.length tc) ls) (_hf:FuncsV 92 99 w base (.slice fa fs.length fc) fs)  :
 Calls Try.prog 120 #[.agg #[.slice ta ls.length tc,.slice fa fs.length fc],.int .i64 (fi:Int),.agg #[.int .i64 10,.int .i64 A,.int .i64 B]] w fun e w' =>
  ∃ v,e=.returned v/\IntsV w' base v (behind ls fs fs[fi] 10 A B)/\Chg (fun _=>False) w w':=by
 have kb:Chg (fun _=>False) w ((w.alloc (Obj.cells #[.slice ta ls.length tc,.slice fa fs.length fc] 28)).alloc (Obj.cells #[.int .i64 10,.int .i64 A,.int .i64 B] 99)):=((Chg.refl (fun _=>False) w).alloc _).alloc _
 have KB:Hid _:=kb
 clear kb
 have ea:behind ls fs fs[fi] 10 A B=[A]:=by simp [behind]
 rw [ea]
 clear ea
 go_enter Try.func120,Try.ntmps120
 go_wp2
 go_ret
 exact ⟨_,rfl,IntsV.lit [A] 1 rfl (by simp) (by omega) (by unfold maxLen;omega),KB.out.alloc _⟩
set_option maxHeartbeats 400000 in
set_option maxRecDepth 100000 in
theorem lx_11 (ta fa:Option Addr) (tc fc:Nat) (ls:List (List Int)) (fs:List Fn) (fi:Nat) (hfi:fi < fs.length) (A B:Int) (w:World) (base:Nat) (hbase:base<=w.heap.size) (_ht:TypesV w base (.slice ta ls.length tc) ls) (_hf:FuncsV 92 99 w base (.slice fa fs.length fc) fs)  :
 Calls Try.prog 120 #[.agg #[.slice ta ls.length tc,.slice fa fs.length fc],.int .i64 (fi:Int),.agg #[.int .i64 11,.int .i64 A,.int .i64 B]] w fun e w' =>
  ∃ v,e=.returned v/\IntsV w' base v (behind ls fs fs[fi] 11 A B)/\Chg (fun _=>False) w w':=by
 have kb:Chg (fun _=>False) w ((w.alloc (Obj.cells #[.slice ta ls.length tc,.slice fa fs.length fc] 28)).alloc (Obj.cells #[.int .i64 11,.int .i64 A,.int .i64 B] 99)):=((Chg.refl (fun _=>False) w).alloc _).alloc _
 have KB:Hid _:=kb
 clear kb
 have ea:behind ls fs fs[fi] 11 A B=[0]:=by simp [behind]
 rw [ea]
 clear ea
 go_enter Try.func120,Try.ntmps120
 go_wp2
 go_ret
 exact ⟨_,rfl,IntsV.lit [0] 1 rfl (by simp) (by omega) (by unfold maxLen;omega),KB.out.alloc _⟩
set_option maxHeartbeats 400000 in
set_option maxRecDepth 100000 in
theorem lx_12 (ta fa:Option Addr) (tc fc:Nat) (ls:List (List Int)) (fs:List Fn) (fi:Nat) (hfi:fi < fs.length) (A B:Int) (w:World) (base:Nat) (hbase:base<=w.heap.size) (_ht:TypesV w base (.slice ta ls.length tc) ls) (_hf:FuncsV 92 99 w base (.slice fa fs.length fc) fs)  :
 Calls Try.prog 120 #[.agg #[.slice ta ls.length tc,.slice fa fs.length fc],.int .i64 (fi:Int),.agg #[.int .i64 12,.int .i64 A,.int .i64 B]] w fun e w' =>
  ∃ v,e=.returned v/\IntsV w' base v (behind ls fs fs[fi] 12 A B)/\Chg (fun _=>False) w w':=by
 have kb:Chg (fun _=>False) w ((w.alloc (Obj.cells #[.slice ta ls.length tc,.slice fa fs.length fc] 28)).alloc (Obj.cells #[.int .i64 12,.int .i64 A,.int .i64 B] 99)):=((Chg.refl (fun _=>False) w).alloc _).alloc _
 have KB:Hid _:=kb
 clear kb
 have ea:behind ls fs fs[fi] 12 A B=[0]:=by simp [behind]
 rw [ea]
 clear ea
 go_enter Try.func120,Try.ntmps120
 go_wp2
 go_ret
 exact ⟨_,rfl,IntsV.lit [0] 1 rfl (by simp) (by omega) (by unfold maxLen;omega),KB.out.alloc _⟩
set_option maxHeartbeats 400000 in
set_option maxRecDepth 100000 in
theorem lx_13 (ta fa:Option Addr) (tc fc:Nat) (ls:List (List Int)) (fs:List Fn) (fi:Nat) (hfi:fi < fs.length) (A B:Int) (w:World) (base:Nat) (_hbase:base<=w.heap.size) (_ht:TypesV w base (.slice ta ls.length tc) ls) (_hf:FuncsV 92 99 w base (.slice fa fs.length fc) fs)  :
 Calls Try.prog 120 #[.agg #[.slice ta ls.length tc,.slice fa fs.length fc],.int .i64 (fi:Int),.agg #[.int .i64 13,.int .i64 A,.int .i64 B]] w fun e w' =>
  ∃ v,e=.returned v/\IntsV w' base v (behind ls fs fs[fi] 13 A B)/\Chg (fun _=>False) w w':=by
 have kb:Chg (fun _=>False) w ((w.alloc (Obj.cells #[.slice ta ls.length tc,.slice fa fs.length fc] 28)).alloc (Obj.cells #[.int .i64 13,.int .i64 A,.int .i64 B] 99)):=((Chg.refl (fun _=>False) w).alloc _).alloc _
 have KB:Hid _:=kb
 clear kb
 have ea:behind ls fs fs[fi] 13 A B=[]:=by simp [behind]
 rw [ea]
 clear ea
 go_enter Try.func120,Try.ntmps120
 go_wp2
 go_ret
 exact ⟨_,rfl,World.ownsRow_nil _ _ _ _,KB.out⟩
set_option maxHeartbeats 400000 in
set_option maxRecDepth 100000 in
theorem lx_14 (ta fa:Option Addr) (tc fc:Nat) (ls:List (List Int)) (fs:List Fn) (fi:Nat) (hfi:fi < fs.length) (A B:Int) (w:World) (base:Nat) (_hbase:base<=w.heap.size) (_ht:TypesV w base (.slice ta ls.length tc) ls) (_hf:FuncsV 92 99 w base (.slice fa fs.length fc) fs)  :
 Calls Try.prog 120 #[.agg #[.slice ta ls.length tc,.slice fa fs.length fc],.int .i64 (fi:Int),.agg #[.int .i64 14,.int .i64 A,.int .i64 B]] w fun e w' =>
  ∃ v,e=.returned v/\IntsV w' base v (behind ls fs fs[fi] 14 A B)/\Chg (fun _=>False) w w':=by
 have kb:Chg (fun _=>False) w ((w.alloc (Obj.cells #[.slice ta ls.length tc,.slice fa fs.length fc] 28)).alloc (Obj.cells #[.int .i64 14,.int .i64 A,.int .i64 B] 99)):=((Chg.refl (fun _=>False) w).alloc _).alloc _
 have KB:Hid _:=kb
 clear kb
 have ea:behind ls fs fs[fi] 14 A B=[]:=by simp [behind]
 rw [ea]
 clear ea
 go_enter Try.func120,Try.ntmps120
 go_wp2
 go_ret
 exact ⟨_,rfl,World.ownsRow_nil _ _ _ _,KB.out⟩
set_option maxHeartbeats 400000 in
set_option maxRecDepth 100000 in
theorem lx_15 (ta fa:Option Addr) (tc fc:Nat) (ls:List (List Int)) (fs:List Fn) (fi:Nat) (hfi:fi < fs.length) (A B:Int) (w:World) (base:Nat) (hbase:base<=w.heap.size) (_ht:TypesV w base (.slice ta ls.length tc) ls) (hf:FuncsV 92 99 w base (.slice fa fs.length fc) fs) (hA:0<=A/\A < (fs.length:Int)) :
 Calls Try.prog 120 #[.agg #[.slice ta ls.length tc,.slice fa fs.length fc],.int .i64 (fi:Int),.agg #[.int .i64 15,.int .i64 A,.int .i64 B]] w fun e w' =>
  ∃ v,e=.returned v/\IntsV w' base v (behind ls fs fs[fi] 15 A B)/\Chg (fun _=>False) w w':=by
 have kb:Chg (fun _=>False) w ((w.alloc (Obj.cells #[.slice ta ls.length tc,.slice fa fs.length fc] 28)).alloc (Obj.cells #[.int .i64 15,.int .i64 A,.int .i64 B] 99)):=((Chg.refl (fun _=>False) w).alloc _).alloc _
 have KB:Hid _:=kb
 clear kb
 obtain ⟨a,rfl⟩:∃ a:Nat,A=(a:Int):=⟨A.toNat,by omega⟩
 have ha:a < fs.length:=by omega
 obtain ⟨g,cap,hv,hle,hcells⟩:=(hf.chg KB.out (fun _ _ _ e=>e) (fun _ _ _ e=>e) (fun _ _ _ e=>e)).formS (by omega)
 simp only [Value.slice.injEq] at hv
 obtain ⟨rfl,_,rfl⟩:=hv
 obtain ⟨lv,cv,c0,c1,c2,_,hl,_⟩:=hcells a ha
 clear hcells
 have ha':(a:Int) < (fs.length:Int):=by omega
 clear hA
 have ea:behind ls fs fs[fi] 15 (a:Int) B=[fs[a].result]:=by simp [behind,resF_in fs a ha]
 rw [ea]
 clear ea
 go_enter Try.func120,Try.ntmps120
 go_wp2
 go_ret
 exact ⟨_,rfl,IntsV.lit [fs[a].result] 1 rfl (by simp) (by omega) (by unfold maxLen;omega),KB.out.alloc _⟩
set_option maxHeartbeats 400000 in
set_option maxRecDepth 100000 in
theorem lx_16 (ta fa:Option Addr) (tc fc:Nat) (ls:List (List Int)) (fs:List Fn) (fi:Nat) (hfi:fi < fs.length) (A B:Int) (w:World) (base:Nat) (_hbase:base<=w.heap.size) (_ht:TypesV w base (.slice ta ls.length tc) ls) (_hf:FuncsV 92 99 w base (.slice fa fs.length fc) fs)  :
 Calls Try.prog 120 #[.agg #[.slice ta ls.length tc,.slice fa fs.length fc],.int .i64 (fi:Int),.agg #[.int .i64 16,.int .i64 A,.int .i64 B]] w fun e w' =>
  ∃ v,e=.returned v/\IntsV w' base v (behind ls fs fs[fi] 16 A B)/\Chg (fun _=>False) w w':=by
 have kb:Chg (fun _=>False) w ((w.alloc (Obj.cells #[.slice ta ls.length tc,.slice fa fs.length fc] 28)).alloc (Obj.cells #[.int .i64 16,.int .i64 A,.int .i64 B] 99)):=((Chg.refl (fun _=>False) w).alloc _).alloc _
 have KB:Hid _:=kb
 clear kb
 have ea:behind ls fs fs[fi] 16 A B=[]:=by simp [behind]
 rw [ea]
 clear ea
 go_enter Try.func120,Try.ntmps120
 go_wp2
 go_ret
 exact ⟨_,rfl,World.ownsRow_nil _ _ _ _,KB.out⟩
set_option maxHeartbeats 400000 in
set_option maxRecDepth 100000 in
theorem lx_17 (ta fa:Option Addr) (tc fc:Nat) (ls:List (List Int)) (fs:List Fn) (fi:Nat) (hfi:fi < fs.length) (A B:Int) (w:World) (base:Nat) (_hbase:base<=w.heap.size) (_ht:TypesV w base (.slice ta ls.length tc) ls) (_hf:FuncsV 92 99 w base (.slice fa fs.length fc) fs)  :
 Calls Try.prog 120 #[.agg #[.slice ta ls.length tc,.slice fa fs.length fc],.int .i64 (fi:Int),.agg #[.int .i64 17,.int .i64 A,.int .i64 B]] w fun e w' =>
  ∃ v,e=.returned v/\IntsV w' base v (behind ls fs fs[fi] 17 A B)/\Chg (fun _=>False) w w':=by
 have kb:Chg (fun _=>False) w ((w.alloc (Obj.cells #[.slice ta ls.length tc,.slice fa fs.length fc] 28)).alloc (Obj.cells #[.int .i64 17,.int .i64 A,.int .i64 B] 99)):=((Chg.refl (fun _=>False) w).alloc _).alloc _
 have KB:Hid _:=kb
 clear kb
 have ea:behind ls fs fs[fi] 17 A B=[]:=by simp [behind]
 rw [ea]
 clear ea
 go_enter Try.func120,Try.ntmps120
 go_wp2
 go_ret
 exact ⟨_,rfl,World.ownsRow_nil _ _ _ _,KB.out⟩
set_option maxHeartbeats 400000 in
set_option maxRecDepth 100000 in
theorem lx_18 (ta fa:Option Addr) (tc fc:Nat) (ls:List (List Int)) (fs:List Fn) (fi:Nat) (hfi:fi < fs.length) (A B:Int) (w:World) (base:Nat) (hbase:base<=w.heap.size) (_ht:TypesV w base (.slice ta ls.length tc) ls) (_hf:FuncsV 92 99 w base (.slice fa fs.length fc) fs)  :
 Calls Try.prog 120 #[.agg #[.slice ta ls.length tc,.slice fa fs.length fc],.int .i64 (fi:Int),.agg #[.int .i64 18,.int .i64 A,.int .i64 B]] w fun e w' =>
  ∃ v,e=.returned v/\IntsV w' base v (behind ls fs fs[fi] 18 A B)/\Chg (fun _=>False) w w':=by
 have kb:Chg (fun _=>False) w ((w.alloc (Obj.cells #[.slice ta ls.length tc,.slice fa fs.length fc] 28)).alloc (Obj.cells #[.int .i64 18,.int .i64 A,.int .i64 B] 99)):=((Chg.refl (fun _=>False) w).alloc _).alloc _
 have KB:Hid _:=kb
 clear kb
 have ea:behind ls fs fs[fi] 18 A B=[0]:=by simp [behind]
 rw [ea]
 clear ea
 go_enter Try.func120,Try.ntmps120
 go_wp2
 go_ret
 exact ⟨_,rfl,IntsV.lit [0] 1 rfl (by simp) (by omega) (by unfold maxLen;omega),KB.out.alloc _⟩
def OkI (ls:List (List Int)) (fs:List Fn) (f:Fn) (op A B:Int):Prop:=
 (op=5 \/ op=6->0<=A/\A < (f.locals.length:Int))/\(op=7 \/ op=8 \/ op=9->1<=A/\A<=(ls.length:Int))/\(op=8 \/ op=9->0<=B/\B < ((flds ls A).length:Int))/\(op=15->0<=A/\A < (fs.length:Int))
theorem takes_any (tv fv:Value) (ls:List (List Int)) (fs:List Fn) (fi:Nat) (hfi:fi < fs.length) (op A B:Int) (w:World) (base:Nat) (hbase:base<=w.heap.size) (ht:TypesV w base tv ls) (hf:FuncsV 92 99 w base fv fs)
 (hn:ls.length<=10000) (h1:0<=op) (h2:op<=18) (hok:OkI ls fs fs[fi] op A B) (hargs:∀ f ∈ fs,0<=f.args/\f.args<=(f.locals.length:Int)) :
 Calls Try.prog 119 #[.agg #[tv,fv],.int .i64 (fi:Int),.agg #[.int .i64 op,.int .i64 A,.int .i64 B]] w fun e w' =>
  ∃ v,e=.returned v/\IntsV w' base v (ahead ls fs fs[fi] op A B)/\Chg (fun _=>False) w w':=by
 have hop:op=0 \/ op=1 \/ op=2 \/ op=3 \/ op=4 \/ op=5 \/ op=6 \/ op=7 \/ op=8 \/ op=9 \/ op=10 \/ op=11 \/ op=12 \/ op=13 \/ op=14 \/ op=15 \/ op=16 \/ op=17 \/ op=18:=by omega
 clear h1 h2
 obtain ⟨ta,tc,rfl⟩:=ht.slice
 obtain ⟨fa,fc,rfl⟩:=hf.slice
 rcases hop with rfl | rfl | rfl | rfl | rfl | rfl | rfl | rfl | rfl | rfl | rfl | rfl | rfl | rfl | rfl | rfl | rfl | rfl | rfl
 ·exact tx_0 ta fa tc fc ls fs fi hfi A B w base hbase ht hf
 ·exact tx_1 ta fa tc fc ls fs fi hfi A B w base hbase ht hf
 ·exact tx_2 ta fa tc fc ls fs fi hfi A B w base hbase ht hf
 ·exact tx_3 ta fa tc fc ls fs fi hfi A B w base hbase ht hf
 ·exact tx_4 ta fa tc fc ls fs fi hfi A B w base hbase ht hf
 ·exact tx_5 ta fa tc fc ls fs fi hfi A B w base hbase ht hf
 ·exact tx_6 ta fa tc fc ls fs fi hfi A B w base hbase ht hf (hok.1 (.inr rfl))
 ·exact tx_7 ta fa tc fc ls fs fi hfi A B w base hbase ht hf hn (hok.2.1 (.inl rfl))
 ·exact tx_8 ta fa tc fc ls fs fi hfi A B w base hbase ht hf
 ·exact tx_9 ta fa tc fc ls fs fi hfi A B w base hbase ht hf hn (hok.2.1 (.inr (.inr (rfl)))) (hok.2.2.1 (.inr rfl))
 ·exact tx_10 ta fa tc fc ls fs fi hfi A B w base hbase ht hf
 ·exact tx_11 ta fa tc fc ls fs fi hfi A B w base hbase ht hf
 ·exact tx_12 ta fa tc fc ls fs fi hfi A B w base hbase ht hf
 ·exact tx_13 ta fa tc fc ls fs fi hfi A B w base hbase ht hf
 ·exact tx_14 ta fa tc fc ls fs fi hfi A B w base hbase ht hf
 ·exact tx_15 ta fa tc fc ls fs fi hfi A B w base hbase ht hf (hok.2.2.2 rfl) hargs
 ·exact tx_16 ta fa tc fc ls fs fi hfi A B w base hbase ht hf
 ·exact tx_17 ta fa tc fc ls fs fi hfi A B w base hbase ht hf
 ·exact tx_18 ta fa tc fc ls fs fi hfi A B w base hbase ht hf
theorem leaves_any (tv fv:Value) (ls:List (List Int)) (fs:List Fn) (fi:Nat) (hfi:fi < fs.length) (op A B:Int) (w:World) (base:Nat) (hbase:base<=w.heap.size) (ht:TypesV w base tv ls) (hf:FuncsV 92 99 w base fv fs)
 (hn:ls.length<=10000) (h1:0<=op) (h2:op<=18) (hok:OkI ls fs fs[fi] op A B) (_hargs:∀ f ∈ fs,0<=f.args/\f.args<=(f.locals.length:Int)) :
 Calls Try.prog 120 #[.agg #[tv,fv],.int .i64 (fi:Int),.agg #[.int .i64 op,.int .i64 A,.int .i64 B]] w fun e w' =>
  ∃ v,e=.returned v/\IntsV w' base v (behind ls fs fs[fi] op A B)/\Chg (fun _=>False) w w':=by
 have hop:op=0 \/ op=1 \/ op=2 \/ op=3 \/ op=4 \/ op=5 \/ op=6 \/ op=7 \/ op=8 \/ op=9 \/ op=10 \/ op=11 \/ op=12 \/ op=13 \/ op=14 \/ op=15 \/ op=16 \/ op=17 \/ op=18:=by omega
 clear h1 h2
 obtain ⟨ta,tc,rfl⟩:=ht.slice
 obtain ⟨fa,fc,rfl⟩:=hf.slice
 rcases hop with rfl | rfl | rfl | rfl | rfl | rfl | rfl | rfl | rfl | rfl | rfl | rfl | rfl | rfl | rfl | rfl | rfl | rfl | rfl
 ·exact lx_0 ta fa tc fc ls fs fi hfi A B w base hbase ht hf
 ·exact lx_1 ta fa tc fc ls fs fi hfi A B w base hbase ht hf
 ·exact lx_2 ta fa tc fc ls fs fi hfi A B w base hbase ht hf
 ·exact lx_3 ta fa tc fc ls fs fi hfi A B w base hbase ht hf
 ·exact lx_4 ta fa tc fc ls fs fi hfi A B w base hbase ht hf
 ·exact lx_5 ta fa tc fc ls fs fi hfi A B w base hbase ht hf (hok.1 (.inl rfl))
 ·exact lx_6 ta fa tc fc ls fs fi hfi A B w base hbase ht hf
 ·exact lx_7 ta fa tc fc ls fs fi hfi A B w base hbase ht hf
 ·exact lx_8 ta fa tc fc ls fs fi hfi A B w base hbase ht hf hn (hok.2.1 (.inr (.inl rfl))) (hok.2.2.1 (.inl rfl))
 ·exact lx_9 ta fa tc fc ls fs fi hfi A B w base hbase ht hf
 ·exact lx_10 ta fa tc fc ls fs fi hfi A B w base hbase ht hf
 ·exact lx_11 ta fa tc fc ls fs fi hfi A B w base hbase ht hf
 ·exact lx_12 ta fa tc fc ls fs fi hfi A B w base hbase ht hf
 ·exact lx_13 ta fa tc fc ls fs fi hfi A B w base hbase ht hf
 ·exact lx_14 ta fa tc fc ls fs fi hfi A B w base hbase ht hf
 ·exact lx_15 ta fa tc fc ls fs fi hfi A B w base hbase ht hf (hok.2.2.2 rfl)
 ·exact lx_16 ta fa tc fc ls fs fi hfi A B w base hbase ht hf
 ·exact lx_17 ta fa tc fc ls fs fi hfi A B w base hbase ht hf
 ·exact lx_18 ta fa tc fc ls fs fi hfi A B w base hbase ht hf
end Go.Proofs.Ytnfnbcbadakofaa
