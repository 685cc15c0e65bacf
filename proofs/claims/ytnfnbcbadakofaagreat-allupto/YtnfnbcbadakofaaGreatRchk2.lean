import Derived.Test.YtnfnbcbadakofaaGreatRchk
import Derived.Deep.RegionHeld3
namespace Go.Proofs.YtnfnbcbadakofaaGreat
open Go.RowKit
set_option maxHeartbeats 400000
set_option maxRecDepth 100000
theorem gW (l:List Int) (j:Nat) (h:j < l.length):aU l (j:Int)=l.getD j 0:=by
 unfold aU;rw [if_neg (by omega)];simp
theorem je (ls:List (List Int)) (j:Nat) (h:j < ls.length):flds ls ((j:Int)+1)=ls.getD j []:=by
 unfold flds;rw [if_neg (by omega)];congr 1;omega
theorem rh (fs:List Fn) (j:Nat) (h:j < fs.length):j5 fs (j:Int)=fs[j].result:=by
 unfold j5;rw [dif_pos ⟨by omega,by simpa using h⟩];rfl
theorem n9 (fs:List Fn) (j:Nat) (h:j < fs.length) (hb:0<=fs[j].args/\fs[j].args<=(fs[j].locals.length:Int)):aP fs (j:Int)=fs[j].locals.take fs[j].args.toNat:=by
 unfold aP;rw [dif_pos ⟨by omega,by simpa using h⟩];exact if_neg (by simp only [Int.toNat_natCast];omega)
theorem vN (ta fa:Option Addr) (tc fc:Nat) (ls:List (List Int)) (fs:List Fn) (fi:Nat) (hfi:fi < fs.length) (A B:Int) (w:World) (base:Nat) (_hbase:base<=w.heap.size) (_ht:ai w base (.slice ta ls.length tc) ls) (_hf:aj 93 107 w base (.slice fa fs.length fc) fs)  :
 Calls Tryz.prog 91 #[.agg #[.slice ta ls.length tc,.slice fa fs.length fc],fi,.agg #[oO,A,B]] w fun e w' =>
  ∃ v,e=.returned v/\ad w' base v (ak ls fs fs[fi] 0 A B)/\Chg () w w':=by
 have kb:Chg () w ((w.alloc (Obj.cells #[.slice ta ls.length tc,.slice fa fs.length fc] 43)).alloc (Obj.cells #[oO,A,B] 107)):=((Chg.refl () w).alloc _).alloc _
 have KB:Hid _:=kb
 clear kb
 have ea:ak ls fs fs[fi] 0 A B=[]:=by simp [ak]
 rw [ea]
 clear ea
 go_enter Tryz.func91,Tryz.ntmps91
 go_wp2
 go_ret
 exact ⟨_,rfl,World.ownsRow_nil _ _ _ _,KB.out⟩
theorem vw (ta fa:Option Addr) (tc fc:Nat) (ls:List (List Int)) (fs:List Fn) (fi:Nat) (hfi:fi < fs.length) (A B:Int) (w:World) (base:Nat) (hbase:base<=w.heap.size) (_ht:ai w base (.slice ta ls.length tc) ls) (_hf:aj 93 107 w base (.slice fa fs.length fc) fs)  :
 Calls Tryz.prog 91 #[.agg #[.slice ta ls.length tc,.slice fa fs.length fc],fi,.agg #[(1:Int),A,B]] w fun e w' =>
  ∃ v,e=.returned v/\ad w' base v (ak ls fs fs[fi] 1 A B)/\Chg () w w':=by
 have kb:Chg () w ((w.alloc (Obj.cells #[.slice ta ls.length tc,.slice fa fs.length fc] 43)).alloc (Obj.cells #[(1:Int),A,B] 107)):=((Chg.refl () w).alloc _).alloc _
 have KB:Hid _:=kb
 clear kb
 have ea:ak ls fs fs[fi] 1 A B=[0,0]:=by simp [ak]
 rw [ea]
 clear ea
 go_enter Tryz.func91,Tryz.ntmps91
 go_wp2
 go_ret
 exact ⟨_,rfl,ad.lit [0,0] 2 rfl (by simp) (by omega) (by unfold maxLen;omega),KB.out.alloc _⟩
theorem vu (ta fa:Option Addr) (tc fc:Nat) (ls:List (List Int)) (fs:List Fn) (fi:Nat) (hfi:fi < fs.length) (A B:Int) (w:World) (base:Nat) (hbase:base<=w.heap.size) (_ht:ai w base (.slice ta ls.length tc) ls) (_hf:aj 93 107 w base (.slice fa fs.length fc) fs)  :
 Calls Tryz.prog 91 #[.agg #[.slice ta ls.length tc,.slice fa fs.length fc],fi,.agg #[(2:Int),A,B]] w fun e w' =>
  ∃ v,e=.returned v/\ad w' base v (ak ls fs fs[fi] 2 A B)/\Chg () w w':=by
 have kb:Chg () w ((w.alloc (Obj.cells #[.slice ta ls.length tc,.slice fa fs.length fc] 43)).alloc (Obj.cells #[(2:Int),A,B] 107)):=((Chg.refl () w).alloc _).alloc _
 have KB:Hid _:=kb
 clear kb
 have ea:ak ls fs fs[fi] 2 A B=[0,0]:=by simp [ak]
 rw [ea]
 clear ea
 go_enter Tryz.func91,Tryz.ntmps91
 go_wp2
 go_ret
 exact ⟨_,rfl,ad.lit [0,0] 2 rfl (by simp) (by omega) (by unfold maxLen;omega),KB.out.alloc _⟩
theorem vF (ta fa:Option Addr) (tc fc:Nat) (ls:List (List Int)) (fs:List Fn) (fi:Nat) (hfi:fi < fs.length) (A B:Int) (w:World) (base:Nat) (hbase:base<=w.heap.size) (_ht:ai w base (.slice ta ls.length tc) ls) (_hf:aj 93 107 w base (.slice fa fs.length fc) fs)  :
 Calls Tryz.prog 91 #[.agg #[.slice ta ls.length tc,.slice fa fs.length fc],fi,.agg #[(3:Int),A,B]] w fun e w' =>
  ∃ v,e=.returned v/\ad w' base v (ak ls fs fs[fi] 3 A B)/\Chg () w w':=by
 have kb:Chg () w ((w.alloc (Obj.cells #[.slice ta ls.length tc,.slice fa fs.length fc] 43)).alloc (Obj.cells #[(3:Int),A,B] 107)):=((Chg.refl () w).alloc _).alloc _
 have KB:Hid _:=kb
 clear kb
 have ea:ak ls fs fs[fi] 3 A B=[0,0]:=by simp [ak]
 rw [ea]
 clear ea
 go_enter Tryz.func91,Tryz.ntmps91
 go_wp2
 go_ret
 exact ⟨_,rfl,ad.lit [0,0] 2 rfl (by simp) (by omega) (by unfold maxLen;omega),KB.out.alloc _⟩
theorem vG (ta fa:Option Addr) (tc fc:Nat) (ls:List (List Int)) (fs:List Fn) (fi:Nat) (hfi:fi < fs.length) (A B:Int) (w:World) (base:Nat) (hbase:base<=w.heap.size) (_ht:ai w base (.slice ta ls.length tc) ls) (_hf:aj 93 107 w base (.slice fa fs.length fc) fs)  :
 Calls Tryz.prog 91 #[.agg #[.slice ta ls.length tc,.slice fa fs.length fc],fi,.agg #[(4:Int),A,B]] w fun e w' =>
  ∃ v,e=.returned v/\ad w' base v (ak ls fs fs[fi] 4 A B)/\Chg () w w':=by
 have kb:Chg () w ((w.alloc (Obj.cells #[.slice ta ls.length tc,.slice fa fs.length fc] 43)).alloc (Obj.cells #[(4:Int),A,B] 107)):=((Chg.refl () w).alloc _).alloc _
 have KB:Hid _:=kb
 clear kb
 have ea:ak ls fs fs[fi] 4 A B=[0,0]:=by simp [ak]
 rw [ea]
 clear ea
 go_enter Tryz.func91,Tryz.ntmps91
 go_wp2
 go_ret
 exact ⟨_,rfl,ad.lit [0,0] 2 rfl (by simp) (by omega) (by unfold maxLen;omega),KB.out.alloc _⟩
theorem vV (ta fa:Option Addr) (tc fc:Nat) (ls:List (List Int)) (fs:List Fn) (fi:Nat) (hfi:fi < fs.length) (A B:Int) (w:World) (base:Nat) (_hbase:base<=w.heap.size) (_ht:ai w base (.slice ta ls.length tc) ls) (_hf:aj 93 107 w base (.slice fa fs.length fc) fs)  :
 Calls Tryz.prog 91 #[.agg #[.slice ta ls.length tc,.slice fa fs.length fc],fi,.agg #[(5:Int),A,B]] w fun e w' =>
  ∃ v,e=.returned v/\ad w' base v (ak ls fs fs[fi] 5 A B)/\Chg () w w':=by
 have kb:Chg () w ((w.alloc (Obj.cells #[.slice ta ls.length tc,.slice fa fs.length fc] 43)).alloc (Obj.cells #[(5:Int),A,B] 107)):=((Chg.refl () w).alloc _).alloc _
 have KB:Hid _:=kb
 clear kb
 have ea:ak ls fs fs[fi] 5 A B=[]:=by simp [ak]
 rw [ea]
 clear ea
 go_enter Tryz.func91,Tryz.ntmps91
 go_wp2
 go_ret
 exact ⟨_,rfl,World.ownsRow_nil _ _ _ _,KB.out⟩
theorem vt (ta fa:Option Addr) (tc fc:Nat) (ls:List (List Int)) (fs:List Fn) (fi:Nat) (hfi:fi < fs.length) (A B:Int) (w:World) (base:Nat) (hbase:base<=w.heap.size) (_ht:ai w base (.slice ta ls.length tc) ls) (hf:aj 93 107 w base (.slice fa fs.length fc) fs) (hA:0<=A/\A < (fs[fi].locals.length:Int)) :
 Calls Tryz.prog 91 #[.agg #[.slice ta ls.length tc,.slice fa fs.length fc],fi,.agg #[(6:Int),A,B]] w fun e w' =>
  ∃ v,e=.returned v/\ad w' base v (ak ls fs fs[fi] 6 A B)/\Chg () w w':=by
 have kb:Chg () w ((w.alloc (Obj.cells #[.slice ta ls.length tc,.slice fa fs.length fc] 43)).alloc (Obj.cells #[(6:Int),A,B] 107)):=((Chg.refl () w).alloc _).alloc _
 have KB:Hid _:=kb
 clear kb
 obtain ⟨a,rfl⟩:∃ a:Nat,A=(a:Int):=⟨A.toNat,by omega⟩
 obtain ⟨g,cap,hv,hle,hcells⟩:=(hf.chg KB.out (fun _ _ _ e=>e) (fun _ _ _ e=>e) (fun _ _ _ e=>e)).formS (by omega)
 simp only [Value.slice.injEq] at hv
 obtain ⟨rfl,_,rfl⟩:=hv
 obtain ⟨lv,cv,c0,c1,c2,_,hl,_⟩:=hcells fi hfi
 clear hcells
 obtain ⟨gl,lc,rfl,_,hle2,_,lcs⟩:=hl.form (by omega)
 have c3:=lcs a (by omega)
 have ha:(a:Int) < (fs[fi].locals.length:Int):=hA.2
 have hfi':(fi:Int) < (fs.length:Int):=by omega
 clear lcs hA
 have ea:ak ls fs fs[fi] 6 (a:Int) B=[fs[fi].locals.getD a 0]:=by simp [ak,gW fs[fi].locals a (by omega)]
 rw [ea]
 clear ea
 go_enter Tryz.func91,Tryz.ntmps91
 have k0:=KB.out
 have b0:Blk ((w.alloc (Obj.cells #[.slice ta ls.length tc,.slice g fs.length fc] 43)).alloc (Obj.cells #[(6:Int),a,B] 107)) w.heap.size #[.slice ta ls.length tc,.slice g fs.length fc] 43:=(Blk.new' rfl _ 43).alloc _
 have b1:Blk ((w.alloc (Obj.cells #[.slice ta ls.length tc,.slice g fs.length fc] 43)).alloc (Obj.cells #[(6:Int),a,B] 107)) (w.heap.size+1) #[(6:Int),a,B] 107:=Blk.new' (by simp) _ 107
 clear KB
 go_wp2_with fail
 generalize ((w.alloc (Obj.cells #[.slice ta ls.length tc,.slice g fs.length fc] 43)).alloc (Obj.cells #[(6:Int),a,B] 107))=W at *
 have y0:W.cell? ⟨w.heap.size,0,none⟩=some (.slice ta ls.length tc):=b0.cell 0
 have y1:W.cell? ⟨w.heap.size,1,none⟩=some (.slice g fs.length fc):=b0.cell 1
 have y2:W.cell? ⟨w.heap.size+1,1,none⟩=some (.int .i64 ((a:Int))):=b1.cell 1
 have y3:W.cell? ⟨w.heap.size+1,2,none⟩=some (.int .i64 (B)):=b1.cell 2
 have hWs:=k0.size
 go_region
 all_goals
  go_wp2
  go_ret
  exact ⟨.slice W.heap.size 1 1,rfl,aA (ad.lit (W:=W) (base:=base) [fs[fi].locals.getD a 0] 1 rfl rfl (by omega) (by unfold maxLen;omega)),((k0.alloc _).drew)⟩
theorem vT (ta fa:Option Addr) (tc fc:Nat) (ls:List (List Int)) (fs:List Fn) (fi:Nat) (hfi:fi < fs.length) (A B:Int) (w:World) (base:Nat) (_hbase:base<=w.heap.size) (ht:ai w base (.slice ta ls.length tc) ls) (_hf:aj 93 107 w base (.slice fa fs.length fc) fs) (hn:ls.length<=10000) (hA:1<=A/\A<=(ls.length:Int)) :
 Calls Tryz.prog 91 #[.agg #[.slice ta ls.length tc,.slice fa fs.length fc],fi,.agg #[(7:Int),A,B]] w fun e w' =>
  ∃ v,e=.returned v/\ad w' base v (ak ls fs fs[fi] 7 A B)/\Chg () w w':=by
 have kb:Chg () w ((w.alloc (Obj.cells #[.slice ta ls.length tc,.slice fa fs.length fc] 43)).alloc (Obj.cells #[(7:Int),A,B] 107)):=((Chg.refl () w).alloc _).alloc _
 have KB:Hid _:=kb
 clear kb
 obtain ⟨a,rfl⟩:∃ a:Nat,A=(a:Int)+1:=⟨(A - 1).toNat,by omega⟩
 obtain ⟨gt,capt,u,hv,hle,ct,hu⟩:=(ht.new KB.out).cell a (by omega)
 simp only [Value.slice.injEq] at hv
 obtain ⟨rfl,_,rfl⟩:=hv
 obtain ⟨ua,uc,rfl⟩:=hu.slice
 have ha:(a:Int) < (ls.length:Int):=by omega
 clear hA
 have ea:ak ls fs fs[fi] 7 ((a:Int)+1) B=ls.getD a []:=by simp [ak,je ls a (by omega)]
 rw [ea]
 clear ea
 go_enter Tryz.func91,Tryz.ntmps91
 go_wp2
 go_ret
 exact ⟨_,rfl,hu,KB.out⟩
theorem vD (ta fa:Option Addr) (tc fc:Nat) (ls:List (List Int)) (fs:List Fn) (fi:Nat) (hfi:fi < fs.length) (A B:Int) (w:World) (base:Nat) (hbase:base<=w.heap.size) (_ht:ai w base (.slice ta ls.length tc) ls) (_hf:aj 93 107 w base (.slice fa fs.length fc) fs)  :
 Calls Tryz.prog 91 #[.agg #[.slice ta ls.length tc,.slice fa fs.length fc],fi,.agg #[(8:Int),A,B]] w fun e w' =>
  ∃ v,e=.returned v/\ad w' base v (ak ls fs fs[fi] 8 A B)/\Chg () w w':=by
 have kb:Chg () w ((w.alloc (Obj.cells #[.slice ta ls.length tc,.slice fa fs.length fc] 43)).alloc (Obj.cells #[(8:Int),A,B] 107)):=((Chg.refl () w).alloc _).alloc _
 have KB:Hid _:=kb
 clear kb
 have ea:ak ls fs fs[fi] 8 A B=[A]:=by simp [ak]
 rw [ea]
 clear ea
 go_enter Tryz.func91,Tryz.ntmps91
 go_wp2
 go_ret
 exact ⟨_,rfl,ad.lit [A] 1 rfl (by simp) (by omega) (by unfold maxLen;omega),KB.out.alloc _⟩
theorem vJ (ta fa:Option Addr) (tc fc:Nat) (ls:List (List Int)) (fs:List Fn) (fi:Nat) (hfi:fi < fs.length) (A B:Int) (w:World) (base:Nat) (hbase:base<=w.heap.size) (ht:ai w base (.slice ta ls.length tc) ls) (_hf:aj 93 107 w base (.slice fa fs.length fc) fs) (hn:ls.length<=10000) (hA:1<=A/\A<=(ls.length:Int)) (hB:0<=B/\B < ((flds ls A).length:Int)) :
 Calls Tryz.prog 91 #[.agg #[.slice ta ls.length tc,.slice fa fs.length fc],fi,.agg #[(9:Int),A,B]] w fun e w' =>
  ∃ v,e=.returned v/\ad w' base v (ak ls fs fs[fi] 9 A B)/\Chg () w w':=by
 have kb:Chg () w ((w.alloc (Obj.cells #[.slice ta ls.length tc,.slice fa fs.length fc] 43)).alloc (Obj.cells #[(9:Int),A,B] 107)):=((Chg.refl () w).alloc _).alloc _
 have KB:Hid _:=kb
 clear kb
 obtain ⟨a,rfl⟩:∃ a:Nat,A=(a:Int)+1:=⟨(A - 1).toNat,by omega⟩
 obtain ⟨b,rfl⟩:∃ b:Nat,B=(b:Int):=⟨B.toNat,by omega⟩
 have eL:=je ls a (by omega)
 rw [eL] at hB
 obtain ⟨gt,capt,u,hv,hle,ct,hu⟩:=(ht.new KB.out).cell a (by omega)
 simp only [Value.slice.injEq] at hv
 obtain ⟨rfl,_,rfl⟩:=hv
 generalize ls.getD a []=L at *
 obtain ⟨gu,uc,rfl,_,hle2,_,ucs⟩:=hu.form (by omega)
 have c3:=ucs b (by omega)
 have ha:(a:Int) < (ls.length:Int):=by omega
 have hb:(b:Int) < (L.length:Int):=hB.2
 have eT:=gW L b (by omega)
 clear ucs hA hB
 have ea:ak ls fs fs[fi] 9 ((a:Int)+1) (b:Int)=[(a:Int)+1,L.getD b 0]:=by simp [ak,eL,eT]
 rw [ea]
 clear ea
 go_enter Tryz.func91,Tryz.ntmps91
 have k0:=KB.out
 have b0:Blk ((w.alloc (Obj.cells #[.slice gt ls.length tc,.slice fa fs.length fc] 43)).alloc (Obj.cells #[(9:Int),((a:Int)+1:Int),b] 107)) w.heap.size #[.slice gt ls.length tc,.slice fa fs.length fc] 43:=(Blk.new' rfl _ 43).alloc _
 have b1:Blk ((w.alloc (Obj.cells #[.slice gt ls.length tc,.slice fa fs.length fc] 43)).alloc (Obj.cells #[(9:Int),((a:Int)+1:Int),b] 107)) (w.heap.size+1) #[(9:Int),((a:Int)+1:Int),b] 107:=Blk.new' (by simp) _ 107
 clear KB
 clear eL eT
 go_wp2_with fail
 generalize ((w.alloc (Obj.cells #[.slice gt ls.length tc,.slice fa fs.length fc] 43)).alloc (Obj.cells #[(9:Int),((a:Int)+1:Int),b] 107))=W at *
 have y0:W.cell? ⟨w.heap.size,0,none⟩=some (.slice gt ls.length tc):=b0.cell 0
 have y1:W.cell? ⟨w.heap.size,1,none⟩=some (.slice fa fs.length fc):=b0.cell 1
 have y2:W.cell? ⟨w.heap.size+1,1,none⟩=some (.int .i64 (((a:Int)+1))):=b1.cell 1
 have y3:W.cell? ⟨w.heap.size+1,2,none⟩=some (.int .i64 ((b:Int))):=b1.cell 2
 have hWs:=k0.size
 go_region
 all_goals
  go_wp2
  go_ret
  exact ⟨.slice W.heap.size 2 2,rfl,aA (ad.lit (W:=W) (base:=base) [(a:Int)+1,L.getD b 0] 2 rfl rfl (by omega) (by unfold maxLen;omega)),((k0.alloc _).drew)⟩
theorem tX (ta fa:Option Addr) (tc fc:Nat) (ls:List (List Int)) (fs:List Fn) (fi:Nat) (hfi:fi < fs.length) (A B:Int) (w:World) (base:Nat) (_hbase:base<=w.heap.size) (_ht:ai w base (.slice ta ls.length tc) ls) (_hf:aj 93 107 w base (.slice fa fs.length fc) fs)  :
 Calls Tryz.prog 91 #[.agg #[.slice ta ls.length tc,.slice fa fs.length fc],fi,.agg #[(10:Int),A,B]] w fun e w' =>
  ∃ v,e=.returned v/\ad w' base v (ak ls fs fs[fi] 10 A B)/\Chg () w w':=by
 have kb:Chg () w ((w.alloc (Obj.cells #[.slice ta ls.length tc,.slice fa fs.length fc] 43)).alloc (Obj.cells #[(10:Int),A,B] 107)):=((Chg.refl () w).alloc _).alloc _
 have KB:Hid _:=kb
 clear kb
 have ea:ak ls fs fs[fi] 10 A B=[]:=by simp [ak]
 rw [ea]
 clear ea
 go_enter Tryz.func91,Tryz.ntmps91
 go_wp2
 go_ret
 exact ⟨_,rfl,World.ownsRow_nil _ _ _ _,KB.out⟩
theorem ve (ta fa:Option Addr) (tc fc:Nat) (ls:List (List Int)) (fs:List Fn) (fi:Nat) (hfi:fi < fs.length) (A B:Int) (w:World) (base:Nat) (hbase:base<=w.heap.size) (_ht:ai w base (.slice ta ls.length tc) ls) (_hf:aj 93 107 w base (.slice fa fs.length fc) fs)  :
 Calls Tryz.prog 91 #[.agg #[.slice ta ls.length tc,.slice fa fs.length fc],fi,.agg #[(11:Int),A,B]] w fun e w' =>
  ∃ v,e=.returned v/\ad w' base v (ak ls fs fs[fi] 11 A B)/\Chg () w w':=by
 have kb:Chg () w ((w.alloc (Obj.cells #[.slice ta ls.length tc,.slice fa fs.length fc] 43)).alloc (Obj.cells #[(11:Int),A,B] 107)):=((Chg.refl () w).alloc _).alloc _
 have KB:Hid _:=kb
 clear kb
 have ea:ak ls fs fs[fi] 11 A B=[A]:=by simp [ak]
 rw [ea]
 clear ea
 go_enter Tryz.func91,Tryz.ntmps91
 go_wp2
 go_ret
 exact ⟨_,rfl,ad.lit [A] 1 rfl (by simp) (by omega) (by unfold maxLen;omega),KB.out.alloc _⟩
theorem uj (ta fa:Option Addr) (tc fc:Nat) (ls:List (List Int)) (fs:List Fn) (fi:Nat) (hfi:fi < fs.length) (A B:Int) (w:World) (base:Nat) (hbase:base<=w.heap.size) (_ht:ai w base (.slice ta ls.length tc) ls) (_hf:aj 93 107 w base (.slice fa fs.length fc) fs)  :
 Calls Tryz.prog 91 #[.agg #[.slice ta ls.length tc,.slice fa fs.length fc],fi,.agg #[(12:Int),A,B]] w fun e w' =>
  ∃ v,e=.returned v/\ad w' base v (ak ls fs fs[fi] 12 A B)/\Chg () w w':=by
 have kb:Chg () w ((w.alloc (Obj.cells #[.slice ta ls.length tc,.slice fa fs.length fc] 43)).alloc (Obj.cells #[(12:Int),A,B] 107)):=((Chg.refl () w).alloc _).alloc _
 have KB:Hid _:=kb
 clear kb
 have ea:ak ls fs fs[fi] 12 A B=[A,A]:=by simp [ak]
 rw [ea]
 clear ea
 go_enter Tryz.func91,Tryz.ntmps91
 go_wp2
 go_ret
 exact ⟨_,rfl,ad.lit [A,A] 2 rfl (by simp) (by omega) (by unfold maxLen;omega),KB.out.alloc _⟩
theorem uB (ta fa:Option Addr) (tc fc:Nat) (ls:List (List Int)) (fs:List Fn) (fi:Nat) (hfi:fi < fs.length) (A B:Int) (w:World) (base:Nat) (_hbase:base<=w.heap.size) (_ht:ai w base (.slice ta ls.length tc) ls) (_hf:aj 93 107 w base (.slice fa fs.length fc) fs)  :
 Calls Tryz.prog 91 #[.agg #[.slice ta ls.length tc,.slice fa fs.length fc],fi,.agg #[(13:Int),A,B]] w fun e w' =>
  ∃ v,e=.returned v/\ad w' base v (ak ls fs fs[fi] 13 A B)/\Chg () w w':=by
 have kb:Chg () w ((w.alloc (Obj.cells #[.slice ta ls.length tc,.slice fa fs.length fc] 43)).alloc (Obj.cells #[(13:Int),A,B] 107)):=((Chg.refl () w).alloc _).alloc _
 have KB:Hid _:=kb
 clear kb
 have ea:ak ls fs fs[fi] 13 A B=[]:=by simp [ak]
 rw [ea]
 clear ea
 go_enter Tryz.func91,Tryz.ntmps91
 go_wp2
 go_ret
 exact ⟨_,rfl,World.ownsRow_nil _ _ _ _,KB.out⟩
theorem uG (ta fa:Option Addr) (tc fc:Nat) (ls:List (List Int)) (fs:List Fn) (fi:Nat) (hfi:fi < fs.length) (A B:Int) (w:World) (base:Nat) (hbase:base<=w.heap.size) (_ht:ai w base (.slice ta ls.length tc) ls) (_hf:aj 93 107 w base (.slice fa fs.length fc) fs)  :
 Calls Tryz.prog 91 #[.agg #[.slice ta ls.length tc,.slice fa fs.length fc],fi,.agg #[(14:Int),A,B]] w fun e w' =>
  ∃ v,e=.returned v/\ad w' base v (ak ls fs fs[fi] 14 A B)/\Chg () w w':=by
 have kb:Chg () w ((w.alloc (Obj.cells #[.slice ta ls.length tc,.slice fa fs.length fc] 43)).alloc (Obj.cells #[(14:Int),A,B] 107)):=((Chg.refl () w).alloc _).alloc _
 have KB:Hid _:=kb
 clear kb
 have ea:ak ls fs fs[fi] 14 A B=[0]:=by simp [ak]
 rw [ea]
 clear ea
 go_enter Tryz.func91,Tryz.ntmps91
 go_wp2
 go_ret
 exact ⟨_,rfl,ad.lit [0] 1 rfl (by simp) (by omega) (by unfold maxLen;omega),KB.out.alloc _⟩
theorem tU (ta fa:Option Addr) (tc fc:Nat) (ls:List (List Int)) (fs:List Fn) (fi:Nat) (hfi:fi < fs.length) (A B:Int) (w:World) (base:Nat) (_hbase:base<=w.heap.size) (_ht:ai w base (.slice ta ls.length tc) ls) (hf:aj 93 107 w base (.slice fa fs.length fc) fs) (hA:0<=A/\A < (fs.length:Int)) (hargs:∀ f ∈ fs,0<=f.args/\f.args<=(f.locals.length:Int)) :
 Calls Tryz.prog 91 #[.agg #[.slice ta ls.length tc,.slice fa fs.length fc],fi,.agg #[(15:Int),A,B]] w fun e w' =>
  ∃ v,e=.returned v/\ad w' base v (ak ls fs fs[fi] 15 A B)/\Chg () w w':=by
 have kb:Chg () w ((w.alloc (Obj.cells #[.slice ta ls.length tc,.slice fa fs.length fc] 43)).alloc (Obj.cells #[(15:Int),A,B] 107)):=((Chg.refl () w).alloc _).alloc _
 have KB:Hid _:=kb
 clear kb
 obtain ⟨a,rfl⟩:∃ a:Nat,A=(a:Int):=⟨A.toNat,by omega⟩
 have ha:a < fs.length:=by omega
 obtain ⟨g,cap,hv,hle,hcells⟩:=(hf.chg KB.out (fun _ _ _ e=>e) (fun _ _ _ e=>e) (fun _ _ _ e=>e)).formS (by omega)
 simp only [Value.slice.injEq] at hv
 obtain ⟨rfl,_,rfl⟩:=hv
 obtain ⟨lv,cv,c0,c1,c2,_,hl,_⟩:=hcells a ha
 clear hcells
 have hb:=hargs fs[a] (List.getElem_mem ha)
 obtain ⟨x,hx⟩:∃ x:Nat,fs[a].args=(x:Int):=⟨fs[a].args.toNat,by omega⟩
 have ex:fs[a].args.toNat=x:=by omega
 obtain ⟨la,lc,rfl⟩:=hl.slice
 have hm:fs[a].locals.length<=lc/\(la=none->x=0/\lc=0):=by
  rcases hl.2 with ⟨hv,h0⟩ | ⟨g',cap',cur,hv,_,_,hle,_⟩
  ·simp only [Value.slice.injEq] at hv
   obtain ⟨rfl,h3,rfl⟩:=hv
   exact ⟨by omega,fun _=>⟨by omega,rfl⟩⟩
  ·simp only [Value.slice.injEq] at hv
   obtain ⟨rfl,_,rfl⟩:=hv
   exact ⟨hle,fun e=>by cases e⟩
 have hu:=hl.take x (by omega) hm.2
 have ea':=n9 fs a ha hb
 rw [ex] at ea'
 rw [hx] at c0
 have ha':(a:Int) < (fs.length:Int):=by omega
 have hm1:(x:Int)<=(lc:Int):=by omega
 have hm0:=hm.2
 clear hA hb hm
 have ea:ak ls fs fs[fi] 15 (a:Int) B=fs[a].locals.take x:=by simp [ak,ea']
 rw [ea]
 clear ea
 go_enter Tryz.func91,Tryz.ntmps91
 have k0:=KB.out
 have b0:Blk ((w.alloc (Obj.cells #[.slice ta ls.length tc,.slice g fs.length fc] 43)).alloc (Obj.cells #[(15:Int),a,B] 107)) w.heap.size #[.slice ta ls.length tc,.slice g fs.length fc] 43:=(Blk.new' rfl _ 43).alloc _
 have b1:Blk ((w.alloc (Obj.cells #[.slice ta ls.length tc,.slice g fs.length fc] 43)).alloc (Obj.cells #[(15:Int),a,B] 107)) (w.heap.size+1) #[(15:Int),a,B] 107:=Blk.new' (by simp) _ 107
 clear KB
 go_wp2_with fail
 generalize ((w.alloc (Obj.cells #[.slice ta ls.length tc,.slice g fs.length fc] 43)).alloc (Obj.cells #[(15:Int),a,B] 107))=W at *
 have y0:W.cell? ⟨w.heap.size,0,none⟩=some (.slice ta ls.length tc):=b0.cell 0
 have y1:W.cell? ⟨w.heap.size,1,none⟩=some (.slice g fs.length fc):=b0.cell 1
 have y2:W.cell? ⟨w.heap.size+1,1,none⟩=some (.int .i64 ((a:Int))):=b1.cell 1
 have y3:W.cell? ⟨w.heap.size+1,2,none⟩=some (.int .i64 (B)):=b1.cell 2
 have hWs:=k0.size
 go_quiet (fail)
 go_wp2
 go_ret
 exact ⟨_,rfl,aA hu,k0.drewN _⟩
theorem uE (ta fa:Option Addr) (tc fc:Nat) (ls:List (List Int)) (fs:List Fn) (fi:Nat) (hfi:fi < fs.length) (A B:Int) (w:World) (base:Nat) (hbase:base<=w.heap.size) (_ht:ai w base (.slice ta ls.length tc) ls) (hf:aj 93 107 w base (.slice fa fs.length fc) fs)  :
 Calls Tryz.prog 91 #[.agg #[.slice ta ls.length tc,.slice fa fs.length fc],fi,.agg #[(16:Int),A,B]] w fun e w' =>
  ∃ v,e=.returned v/\ad w' base v (ak ls fs fs[fi] 16 A B)/\Chg () w w':=by
 have kb:Chg () w ((w.alloc (Obj.cells #[.slice ta ls.length tc,.slice fa fs.length fc] 43)).alloc (Obj.cells #[(16:Int),A,B] 107)):=((Chg.refl () w).alloc _).alloc _
 have KB:Hid _:=kb
 clear kb
 obtain ⟨g,cap,hv,hle,hcells⟩:=(hf.chg KB.out (fun _ _ _ e=>e) (fun _ _ _ e=>e) (fun _ _ _ e=>e)).formS (by omega)
 simp only [Value.slice.injEq] at hv
 obtain ⟨rfl,_,rfl⟩:=hv
 obtain ⟨lv,cv,c0,c1,c2,_,hl,_⟩:=hcells fi hfi
 clear hcells
 have hfi':(fi:Int) < (fs.length:Int):=by omega
 have ea:ak ls fs fs[fi] 16 A B=[fs[fi].result]:=by simp [ak]
 rw [ea]
 clear ea
 go_enter Tryz.func91,Tryz.ntmps91
 go_wp2
 go_ret
 exact ⟨_,rfl,ad.lit [fs[fi].result] 1 rfl (by simp) (by omega) (by unfold maxLen;omega),KB.out.alloc _⟩
theorem uJ (ta fa:Option Addr) (tc fc:Nat) (ls:List (List Int)) (fs:List Fn) (fi:Nat) (hfi:fi < fs.length) (A B:Int) (w:World) (base:Nat) (hbase:base<=w.heap.size) (_ht:ai w base (.slice ta ls.length tc) ls) (_hf:aj 93 107 w base (.slice fa fs.length fc) fs)  :
 Calls Tryz.prog 91 #[.agg #[.slice ta ls.length tc,.slice fa fs.length fc],fi,.agg #[(17:Int),A,B]] w fun e w' =>
  ∃ v,e=.returned v/\ad w' base v (ak ls fs fs[fi] 17 A B)/\Chg () w w':=by
 have kb:Chg () w ((w.alloc (Obj.cells #[.slice ta ls.length tc,.slice fa fs.length fc] 43)).alloc (Obj.cells #[(17:Int),A,B] 107)):=((Chg.refl () w).alloc _).alloc _
 have KB:Hid _:=kb
 clear kb
 have ea:ak ls fs fs[fi] 17 A B=[0]:=by simp [ak]
 rw [ea]
 clear ea
 go_enter Tryz.func91,Tryz.ntmps91
 go_wp2
 go_ret
 exact ⟨_,rfl,ad.lit [0] 1 rfl (by simp) (by omega) (by unfold maxLen;omega),KB.out.alloc _⟩
theorem uN (ta fa:Option Addr) (tc fc:Nat) (ls:List (List Int)) (fs:List Fn) (fi:Nat) (hfi:fi < fs.length) (A B:Int) (w:World) (base:Nat) (_hbase:base<=w.heap.size) (_ht:ai w base (.slice ta ls.length tc) ls) (_hf:aj 93 107 w base (.slice fa fs.length fc) fs)  :
 Calls Tryz.prog 91 #[.agg #[.slice ta ls.length tc,.slice fa fs.length fc],fi,.agg #[(18:Int),A,B]] w fun e w' =>
  ∃ v,e=.returned v/\ad w' base v (ak ls fs fs[fi] 18 A B)/\Chg () w w':=by
 have kb:Chg () w ((w.alloc (Obj.cells #[.slice ta ls.length tc,.slice fa fs.length fc] 43)).alloc (Obj.cells #[(18:Int),A,B] 107)):=((Chg.refl () w).alloc _).alloc _
 have KB:Hid _:=kb
 clear kb
 have ea:ak ls fs fs[fi] 18 A B=[]:=by simp [ak]
 rw [ea]
 clear ea
 go_enter Tryz.func91,Tryz.ntmps91
 go_wp2
 go_ret
 exact ⟨_,rfl,World.ownsRow_nil _ _ _ _,KB.out⟩
theorem vP (ta fa:Option Addr) (tc fc:Nat) (ls:List (List Int)) (fs:List Fn) (fi:Nat) (hfi:fi < fs.length) (A B:Int) (w:World) (base:Nat) (hbase:base<=w.heap.size) (_ht:ai w base (.slice ta ls.length tc) ls) (_hf:aj 93 107 w base (.slice fa fs.length fc) fs)  :
 Calls Tryz.prog 92 #[.agg #[.slice ta ls.length tc,.slice fa fs.length fc],fi,.agg #[oO,A,B]] w fun e w' =>
  ∃ v,e=.returned v/\ad w' base v (ag ls fs fs[fi] 0 A B)/\Chg () w w':=by
 have kb:Chg () w ((w.alloc (Obj.cells #[.slice ta ls.length tc,.slice fa fs.length fc] 43)).alloc (Obj.cells #[oO,A,B] 107)):=((Chg.refl () w).alloc _).alloc _
 have KB:Hid _:=kb
 clear kb
 have ea:ag ls fs fs[fi] 0 A B=[0]:=by simp [ag]
 rw [ea]
 clear ea
 go_enter Tryz.func92,Tryz.ntmps92
 go_wp2
 go_ret
 exact ⟨_,rfl,ad.lit [0] 1 rfl (by simp) (by omega) (by unfold maxLen;omega),KB.out.alloc _⟩
theorem vM (ta fa:Option Addr) (tc fc:Nat) (ls:List (List Int)) (fs:List Fn) (fi:Nat) (hfi:fi < fs.length) (A B:Int) (w:World) (base:Nat) (hbase:base<=w.heap.size) (_ht:ai w base (.slice ta ls.length tc) ls) (_hf:aj 93 107 w base (.slice fa fs.length fc) fs)  :
 Calls Tryz.prog 92 #[.agg #[.slice ta ls.length tc,.slice fa fs.length fc],fi,.agg #[(1:Int),A,B]] w fun e w' =>
  ∃ v,e=.returned v/\ad w' base v (ag ls fs fs[fi] 1 A B)/\Chg () w w':=by
 have kb:Chg () w ((w.alloc (Obj.cells #[.slice ta ls.length tc,.slice fa fs.length fc] 43)).alloc (Obj.cells #[(1:Int),A,B] 107)):=((Chg.refl () w).alloc _).alloc _
 have KB:Hid _:=kb
 clear kb
 have ea:ag ls fs fs[fi] 1 A B=[0]:=by simp [ag]
 rw [ea]
 clear ea
 go_enter Tryz.func92,Tryz.ntmps92
 go_wp2
 go_ret
 exact ⟨_,rfl,ad.lit [0] 1 rfl (by simp) (by omega) (by unfold maxLen;omega),KB.out.alloc _⟩
theorem v4 (ta fa:Option Addr) (tc fc:Nat) (ls:List (List Int)) (fs:List Fn) (fi:Nat) (hfi:fi < fs.length) (A B:Int) (w:World) (base:Nat) (hbase:base<=w.heap.size) (_ht:ai w base (.slice ta ls.length tc) ls) (_hf:aj 93 107 w base (.slice fa fs.length fc) fs)  :
 Calls Tryz.prog 92 #[.agg #[.slice ta ls.length tc,.slice fa fs.length fc],fi,.agg #[(2:Int),A,B]] w fun e w' =>
  ∃ v,e=.returned v/\ad w' base v (ag ls fs fs[fi] 2 A B)/\Chg () w w':=by
 have kb:Chg () w ((w.alloc (Obj.cells #[.slice ta ls.length tc,.slice fa fs.length fc] 43)).alloc (Obj.cells #[(2:Int),A,B] 107)):=((Chg.refl () w).alloc _).alloc _
 have KB:Hid _:=kb
 clear kb
 have ea:ag ls fs fs[fi] 2 A B=[0]:=by simp [ag]
 rw [ea]
 clear ea
 go_enter Tryz.func92,Tryz.ntmps92
 go_wp2
 go_ret
 exact ⟨_,rfl,ad.lit [0] 1 rfl (by simp) (by omega) (by unfold maxLen;omega),KB.out.alloc _⟩
theorem vy (ta fa:Option Addr) (tc fc:Nat) (ls:List (List Int)) (fs:List Fn) (fi:Nat) (hfi:fi < fs.length) (A B:Int) (w:World) (base:Nat) (hbase:base<=w.heap.size) (_ht:ai w base (.slice ta ls.length tc) ls) (_hf:aj 93 107 w base (.slice fa fs.length fc) fs)  :
 Calls Tryz.prog 92 #[.agg #[.slice ta ls.length tc,.slice fa fs.length fc],fi,.agg #[(3:Int),A,B]] w fun e w' =>
  ∃ v,e=.returned v/\ad w' base v (ag ls fs fs[fi] 3 A B)/\Chg () w w':=by
 have kb:Chg () w ((w.alloc (Obj.cells #[.slice ta ls.length tc,.slice fa fs.length fc] 43)).alloc (Obj.cells #[(3:Int),A,B] 107)):=((Chg.refl () w).alloc _).alloc _
 have KB:Hid _:=kb
 clear kb
 have ea:ag ls fs fs[fi] 3 A B=[0]:=by simp [ag]
 rw [ea]
 clear ea
 go_enter Tryz.func92,Tryz.ntmps92
 go_wp2
 go_ret
 exact ⟨_,rfl,ad.lit [0] 1 rfl (by simp) (by omega) (by unfold maxLen;omega),KB.out.alloc _⟩
theorem vE (ta fa:Option Addr) (tc fc:Nat) (ls:List (List Int)) (fs:List Fn) (fi:Nat) (hfi:fi < fs.length) (A B:Int) (w:World) (base:Nat) (hbase:base<=w.heap.size) (_ht:ai w base (.slice ta ls.length tc) ls) (_hf:aj 93 107 w base (.slice fa fs.length fc) fs)  :
 Calls Tryz.prog 92 #[.agg #[.slice ta ls.length tc,.slice fa fs.length fc],fi,.agg #[(4:Int),A,B]] w fun e w' =>
  ∃ v,e=.returned v/\ad w' base v (ag ls fs fs[fi] 4 A B)/\Chg () w w':=by
 have kb:Chg () w ((w.alloc (Obj.cells #[.slice ta ls.length tc,.slice fa fs.length fc] 43)).alloc (Obj.cells #[(4:Int),A,B] 107)):=((Chg.refl () w).alloc _).alloc _
 have KB:Hid _:=kb
 clear kb
 have ea:ag ls fs fs[fi] 4 A B=[0]:=by simp [ag]
 rw [ea]
 clear ea
 go_enter Tryz.func92,Tryz.ntmps92
 go_wp2
 go_ret
 exact ⟨_,rfl,ad.lit [0] 1 rfl (by simp) (by omega) (by unfold maxLen;omega),KB.out.alloc _⟩
theorem vB (ta fa:Option Addr) (tc fc:Nat) (ls:List (List Int)) (fs:List Fn) (fi:Nat) (hfi:fi < fs.length) (A B:Int) (w:World) (base:Nat) (hbase:base<=w.heap.size) (_ht:ai w base (.slice ta ls.length tc) ls) (hf:aj 93 107 w base (.slice fa fs.length fc) fs) (hA:0<=A/\A < (fs[fi].locals.length:Int)) :
 Calls Tryz.prog 92 #[.agg #[.slice ta ls.length tc,.slice fa fs.length fc],fi,.agg #[(5:Int),A,B]] w fun e w' =>
  ∃ v,e=.returned v/\ad w' base v (ag ls fs fs[fi] 5 A B)/\Chg () w w':=by
 have kb:Chg () w ((w.alloc (Obj.cells #[.slice ta ls.length tc,.slice fa fs.length fc] 43)).alloc (Obj.cells #[(5:Int),A,B] 107)):=((Chg.refl () w).alloc _).alloc _
 have KB:Hid _:=kb
 clear kb
 obtain ⟨a,rfl⟩:∃ a:Nat,A=(a:Int):=⟨A.toNat,by omega⟩
 obtain ⟨g,cap,hv,hle,hcells⟩:=(hf.chg KB.out (fun _ _ _ e=>e) (fun _ _ _ e=>e) (fun _ _ _ e=>e)).formS (by omega)
 simp only [Value.slice.injEq] at hv
 obtain ⟨rfl,_,rfl⟩:=hv
 obtain ⟨lv,cv,c0,c1,c2,_,hl,_⟩:=hcells fi hfi
 clear hcells
 obtain ⟨gl,lc,rfl,_,hle2,_,lcs⟩:=hl.form (by omega)
 have c3:=lcs a (by omega)
 have ha:(a:Int) < (fs[fi].locals.length:Int):=hA.2
 have hfi':(fi:Int) < (fs.length:Int):=by omega
 clear lcs hA
 have ea:ag ls fs fs[fi] 5 (a:Int) B=[fs[fi].locals.getD a 0]:=by simp [ag,gW fs[fi].locals a (by omega)]
 rw [ea]
 clear ea
 go_enter Tryz.func92,Tryz.ntmps92
 have k0:=KB.out
 have b0:Blk ((w.alloc (Obj.cells #[.slice ta ls.length tc,.slice g fs.length fc] 43)).alloc (Obj.cells #[(5:Int),a,B] 107)) w.heap.size #[.slice ta ls.length tc,.slice g fs.length fc] 43:=(Blk.new' rfl _ 43).alloc _
 have b1:Blk ((w.alloc (Obj.cells #[.slice ta ls.length tc,.slice g fs.length fc] 43)).alloc (Obj.cells #[(5:Int),a,B] 107)) (w.heap.size+1) #[(5:Int),a,B] 107:=Blk.new' (by simp) _ 107
 clear KB
 go_wp2_with fail
 generalize ((w.alloc (Obj.cells #[.slice ta ls.length tc,.slice g fs.length fc] 43)).alloc (Obj.cells #[(5:Int),a,B] 107))=W at *
 have y0:W.cell? ⟨w.heap.size,0,none⟩=some (.slice ta ls.length tc):=b0.cell 0
 have y1:W.cell? ⟨w.heap.size,1,none⟩=some (.slice g fs.length fc):=b0.cell 1
 have y2:W.cell? ⟨w.heap.size+1,1,none⟩=some (.int .i64 ((a:Int))):=b1.cell 1
 have y3:W.cell? ⟨w.heap.size+1,2,none⟩=some (.int .i64 (B)):=b1.cell 2
 have hWs:=k0.size
 go_region
 all_goals
  go_wp2
  go_ret
  exact ⟨.slice W.heap.size 1 1,rfl,aA (ad.lit (W:=W) (base:=base) [fs[fi].locals.getD a 0] 1 rfl rfl (by omega) (by unfold maxLen;omega)),((k0.alloc _).drew)⟩
theorem v7 (ta fa:Option Addr) (tc fc:Nat) (ls:List (List Int)) (fs:List Fn) (fi:Nat) (hfi:fi < fs.length) (A B:Int) (w:World) (base:Nat) (_hbase:base<=w.heap.size) (_ht:ai w base (.slice ta ls.length tc) ls) (_hf:aj 93 107 w base (.slice fa fs.length fc) fs)  :
 Calls Tryz.prog 92 #[.agg #[.slice ta ls.length tc,.slice fa fs.length fc],fi,.agg #[(6:Int),A,B]] w fun e w' =>
  ∃ v,e=.returned v/\ad w' base v (ag ls fs fs[fi] 6 A B)/\Chg () w w':=by
 have kb:Chg () w ((w.alloc (Obj.cells #[.slice ta ls.length tc,.slice fa fs.length fc] 43)).alloc (Obj.cells #[(6:Int),A,B] 107)):=((Chg.refl () w).alloc _).alloc _
 have KB:Hid _:=kb
 clear kb
 have ea:ag ls fs fs[fi] 6 A B=[]:=by simp [ag]
 rw [ea]
 clear ea
 go_enter Tryz.func92,Tryz.ntmps92
 go_wp2
 go_ret
 exact ⟨_,rfl,World.ownsRow_nil _ _ _ _,KB.out⟩
theorem vK (ta fa:Option Addr) (tc fc:Nat) (ls:List (List Int)) (fs:List Fn) (fi:Nat) (hfi:fi < fs.length) (A B:Int) (w:World) (base:Nat) (hbase:base<=w.heap.size) (_ht:ai w base (.slice ta ls.length tc) ls) (_hf:aj 93 107 w base (.slice fa fs.length fc) fs)  :
 Calls Tryz.prog 92 #[.agg #[.slice ta ls.length tc,.slice fa fs.length fc],fi,.agg #[(7:Int),A,B]] w fun e w' =>
  ∃ v,e=.returned v/\ad w' base v (ag ls fs fs[fi] 7 A B)/\Chg () w w':=by
 have kb:Chg () w ((w.alloc (Obj.cells #[.slice ta ls.length tc,.slice fa fs.length fc] 43)).alloc (Obj.cells #[(7:Int),A,B] 107)):=((Chg.refl () w).alloc _).alloc _
 have KB:Hid _:=kb
 clear kb
 have ea:ag ls fs fs[fi] 7 A B=[A]:=by simp [ag]
 rw [ea]
 clear ea
 go_enter Tryz.func92,Tryz.ntmps92
 go_wp2
 go_ret
 exact ⟨_,rfl,ad.lit [A] 1 rfl (by simp) (by omega) (by unfold maxLen;omega),KB.out.alloc _⟩
theorem vL (ta fa:Option Addr) (tc fc:Nat) (ls:List (List Int)) (fs:List Fn) (fi:Nat) (hfi:fi < fs.length) (A B:Int) (w:World) (base:Nat) (hbase:base<=w.heap.size) (ht:ai w base (.slice ta ls.length tc) ls) (_hf:aj 93 107 w base (.slice fa fs.length fc) fs) (hn:ls.length<=10000) (hA:1<=A/\A<=(ls.length:Int)) (hB:0<=B/\B < ((flds ls A).length:Int)) :
 Calls Tryz.prog 92 #[.agg #[.slice ta ls.length tc,.slice fa fs.length fc],fi,.agg #[(8:Int),A,B]] w fun e w' =>
  ∃ v,e=.returned v/\ad w' base v (ag ls fs fs[fi] 8 A B)/\Chg () w w':=by
 have kb:Chg () w ((w.alloc (Obj.cells #[.slice ta ls.length tc,.slice fa fs.length fc] 43)).alloc (Obj.cells #[(8:Int),A,B] 107)):=((Chg.refl () w).alloc _).alloc _
 have KB:Hid _:=kb
 clear kb
 obtain ⟨a,rfl⟩:∃ a:Nat,A=(a:Int)+1:=⟨(A - 1).toNat,by omega⟩
 obtain ⟨b,rfl⟩:∃ b:Nat,B=(b:Int):=⟨B.toNat,by omega⟩
 have eL:=je ls a (by omega)
 rw [eL] at hB
 obtain ⟨gt,capt,u,hv,hle,ct,hu⟩:=(ht.new KB.out).cell a (by omega)
 simp only [Value.slice.injEq] at hv
 obtain ⟨rfl,_,rfl⟩:=hv
 generalize ls.getD a []=L at *
 obtain ⟨gu,uc,rfl,_,hle2,_,ucs⟩:=hu.form (by omega)
 have c3:=ucs b (by omega)
 have ha:(a:Int) < (ls.length:Int):=by omega
 have hb:(b:Int) < (L.length:Int):=hB.2
 have eT:=gW L b (by omega)
 clear ucs hA hB
 have ea:ag ls fs fs[fi] 8 ((a:Int)+1) (b:Int)=[L.getD b 0]:=by simp [ag,eL,eT]
 rw [ea]
 clear ea
 go_enter Tryz.func92,Tryz.ntmps92
 have k0:=KB.out
 have b0:Blk ((w.alloc (Obj.cells #[.slice gt ls.length tc,.slice fa fs.length fc] 43)).alloc (Obj.cells #[(8:Int),((a:Int)+1:Int),b] 107)) w.heap.size #[.slice gt ls.length tc,.slice fa fs.length fc] 43:=(Blk.new' rfl _ 43).alloc _
 have b1:Blk ((w.alloc (Obj.cells #[.slice gt ls.length tc,.slice fa fs.length fc] 43)).alloc (Obj.cells #[(8:Int),((a:Int)+1:Int),b] 107)) (w.heap.size+1) #[(8:Int),((a:Int)+1:Int),b] 107:=Blk.new' (by simp) _ 107
 clear KB
 clear eL eT
 go_wp2_with fail
 generalize ((w.alloc (Obj.cells #[.slice gt ls.length tc,.slice fa fs.length fc] 43)).alloc (Obj.cells #[(8:Int),((a:Int)+1:Int),b] 107))=W at *
 have y0:W.cell? ⟨w.heap.size,0,none⟩=some (.slice gt ls.length tc):=b0.cell 0
 have y1:W.cell? ⟨w.heap.size,1,none⟩=some (.slice fa fs.length fc):=b0.cell 1
 have y2:W.cell? ⟨w.heap.size+1,1,none⟩=some (.int .i64 (((a:Int)+1))):=b1.cell 1
 have y3:W.cell? ⟨w.heap.size+1,2,none⟩=some (.int .i64 ((b:Int))):=b1.cell 2
 have hWs:=k0.size
 go_region
 all_goals
  go_wp2
  go_ret
  exact ⟨.slice W.heap.size 1 1,rfl,aA (ad.lit (W:=W) (base:=base) [L.getD b 0] 1 rfl rfl (by omega) (by unfold maxLen;omega)),((k0.alloc _).drew)⟩
theorem wn (ta fa:Option Addr) (tc fc:Nat) (ls:List (List Int)) (fs:List Fn) (fi:Nat) (hfi:fi < fs.length) (A B:Int) (w:World) (base:Nat) (_hbase:base<=w.heap.size) (_ht:ai w base (.slice ta ls.length tc) ls) (_hf:aj 93 107 w base (.slice fa fs.length fc) fs)  :
 Calls Tryz.prog 92 #[.agg #[.slice ta ls.length tc,.slice fa fs.length fc],fi,.agg #[(9:Int),A,B]] w fun e w' =>
  ∃ v,e=.returned v/\ad w' base v (ag ls fs fs[fi] 9 A B)/\Chg () w w':=by
 have kb:Chg () w ((w.alloc (Obj.cells #[.slice ta ls.length tc,.slice fa fs.length fc] 43)).alloc (Obj.cells #[(9:Int),A,B] 107)):=((Chg.refl () w).alloc _).alloc _
 have KB:Hid _:=kb
 clear kb
 have ea:ag ls fs fs[fi] 9 A B=[]:=by simp [ag]
 rw [ea]
 clear ea
 go_enter Tryz.func92,Tryz.ntmps92
 go_wp2
 go_ret
 exact ⟨_,rfl,World.ownsRow_nil _ _ _ _,KB.out⟩
theorem uf (ta fa:Option Addr) (tc fc:Nat) (ls:List (List Int)) (fs:List Fn) (fi:Nat) (hfi:fi < fs.length) (A B:Int) (w:World) (base:Nat) (hbase:base<=w.heap.size) (_ht:ai w base (.slice ta ls.length tc) ls) (_hf:aj 93 107 w base (.slice fa fs.length fc) fs)  :
 Calls Tryz.prog 92 #[.agg #[.slice ta ls.length tc,.slice fa fs.length fc],fi,.agg #[(10:Int),A,B]] w fun e w' =>
  ∃ v,e=.returned v/\ad w' base v (ag ls fs fs[fi] 10 A B)/\Chg () w w':=by
 have kb:Chg () w ((w.alloc (Obj.cells #[.slice ta ls.length tc,.slice fa fs.length fc] 43)).alloc (Obj.cells #[(10:Int),A,B] 107)):=((Chg.refl () w).alloc _).alloc _
 have KB:Hid _:=kb
 clear kb
 have ea:ag ls fs fs[fi] 10 A B=[A]:=by simp [ag]
 rw [ea]
 clear ea
 go_enter Tryz.func92,Tryz.ntmps92
 go_wp2
 go_ret
 exact ⟨_,rfl,ad.lit [A] 1 rfl (by simp) (by omega) (by unfold maxLen;omega),KB.out.alloc _⟩
theorem ui (ta fa:Option Addr) (tc fc:Nat) (ls:List (List Int)) (fs:List Fn) (fi:Nat) (hfi:fi < fs.length) (A B:Int) (w:World) (base:Nat) (hbase:base<=w.heap.size) (_ht:ai w base (.slice ta ls.length tc) ls) (_hf:aj 93 107 w base (.slice fa fs.length fc) fs)  :
 Calls Tryz.prog 92 #[.agg #[.slice ta ls.length tc,.slice fa fs.length fc],fi,.agg #[(11:Int),A,B]] w fun e w' =>
  ∃ v,e=.returned v/\ad w' base v (ag ls fs fs[fi] 11 A B)/\Chg () w w':=by
 have kb:Chg () w ((w.alloc (Obj.cells #[.slice ta ls.length tc,.slice fa fs.length fc] 43)).alloc (Obj.cells #[(11:Int),A,B] 107)):=((Chg.refl () w).alloc _).alloc _
 have KB:Hid _:=kb
 clear kb
 have ea:ag ls fs fs[fi] 11 A B=[0]:=by simp [ag]
 rw [ea]
 clear ea
 go_enter Tryz.func92,Tryz.ntmps92
 go_wp2
 go_ret
 exact ⟨_,rfl,ad.lit [0] 1 rfl (by simp) (by omega) (by unfold maxLen;omega),KB.out.alloc _⟩
theorem vi (ta fa:Option Addr) (tc fc:Nat) (ls:List (List Int)) (fs:List Fn) (fi:Nat) (hfi:fi < fs.length) (A B:Int) (w:World) (base:Nat) (hbase:base<=w.heap.size) (_ht:ai w base (.slice ta ls.length tc) ls) (_hf:aj 93 107 w base (.slice fa fs.length fc) fs)  :
 Calls Tryz.prog 92 #[.agg #[.slice ta ls.length tc,.slice fa fs.length fc],fi,.agg #[(12:Int),A,B]] w fun e w' =>
  ∃ v,e=.returned v/\ad w' base v (ag ls fs fs[fi] 12 A B)/\Chg () w w':=by
 have kb:Chg () w ((w.alloc (Obj.cells #[.slice ta ls.length tc,.slice fa fs.length fc] 43)).alloc (Obj.cells #[(12:Int),A,B] 107)):=((Chg.refl () w).alloc _).alloc _
 have KB:Hid _:=kb
 clear kb
 have ea:ag ls fs fs[fi] 12 A B=[0]:=by simp [ag]
 rw [ea]
 clear ea
 go_enter Tryz.func92,Tryz.ntmps92
 go_wp2
 go_ret
 exact ⟨_,rfl,ad.lit [0] 1 rfl (by simp) (by omega) (by unfold maxLen;omega),KB.out.alloc _⟩
theorem ut (ta fa:Option Addr) (tc fc:Nat) (ls:List (List Int)) (fs:List Fn) (fi:Nat) (hfi:fi < fs.length) (A B:Int) (w:World) (base:Nat) (_hbase:base<=w.heap.size) (_ht:ai w base (.slice ta ls.length tc) ls) (_hf:aj 93 107 w base (.slice fa fs.length fc) fs)  :
 Calls Tryz.prog 92 #[.agg #[.slice ta ls.length tc,.slice fa fs.length fc],fi,.agg #[(13:Int),A,B]] w fun e w' =>
  ∃ v,e=.returned v/\ad w' base v (ag ls fs fs[fi] 13 A B)/\Chg () w w':=by
 have kb:Chg () w ((w.alloc (Obj.cells #[.slice ta ls.length tc,.slice fa fs.length fc] 43)).alloc (Obj.cells #[(13:Int),A,B] 107)):=((Chg.refl () w).alloc _).alloc _
 have KB:Hid _:=kb
 clear kb
 have ea:ag ls fs fs[fi] 13 A B=[]:=by simp [ag]
 rw [ea]
 clear ea
 go_enter Tryz.func92,Tryz.ntmps92
 go_wp2
 go_ret
 exact ⟨_,rfl,World.ownsRow_nil _ _ _ _,KB.out⟩
theorem tR (ta fa:Option Addr) (tc fc:Nat) (ls:List (List Int)) (fs:List Fn) (fi:Nat) (hfi:fi < fs.length) (A B:Int) (w:World) (base:Nat) (_hbase:base<=w.heap.size) (_ht:ai w base (.slice ta ls.length tc) ls) (_hf:aj 93 107 w base (.slice fa fs.length fc) fs)  :
 Calls Tryz.prog 92 #[.agg #[.slice ta ls.length tc,.slice fa fs.length fc],fi,.agg #[(14:Int),A,B]] w fun e w' =>
  ∃ v,e=.returned v/\ad w' base v (ag ls fs fs[fi] 14 A B)/\Chg () w w':=by
 have kb:Chg () w ((w.alloc (Obj.cells #[.slice ta ls.length tc,.slice fa fs.length fc] 43)).alloc (Obj.cells #[(14:Int),A,B] 107)):=((Chg.refl () w).alloc _).alloc _
 have KB:Hid _:=kb
 clear kb
 have ea:ag ls fs fs[fi] 14 A B=[]:=by simp [ag]
 rw [ea]
 clear ea
 go_enter Tryz.func92,Tryz.ntmps92
 go_wp2
 go_ret
 exact ⟨_,rfl,World.ownsRow_nil _ _ _ _,KB.out⟩
theorem uS (ta fa:Option Addr) (tc fc:Nat) (ls:List (List Int)) (fs:List Fn) (fi:Nat) (hfi:fi < fs.length) (A B:Int) (w:World) (base:Nat) (hbase:base<=w.heap.size) (_ht:ai w base (.slice ta ls.length tc) ls) (hf:aj 93 107 w base (.slice fa fs.length fc) fs) (hA:0<=A/\A < (fs.length:Int)) :
 Calls Tryz.prog 92 #[.agg #[.slice ta ls.length tc,.slice fa fs.length fc],fi,.agg #[(15:Int),A,B]] w fun e w' =>
  ∃ v,e=.returned v/\ad w' base v (ag ls fs fs[fi] 15 A B)/\Chg () w w':=by
 have kb:Chg () w ((w.alloc (Obj.cells #[.slice ta ls.length tc,.slice fa fs.length fc] 43)).alloc (Obj.cells #[(15:Int),A,B] 107)):=((Chg.refl () w).alloc _).alloc _
 have KB:Hid _:=kb
 clear kb
 obtain ⟨a,rfl⟩:∃ a:Nat,A=(a:Int):=⟨A.toNat,by omega⟩
 have ha:a < fs.length:=by omega
 obtain ⟨g,cap,hv,hle,hcells⟩:=(hf.chg KB.out (fun _ _ _ e=>e) (fun _ _ _ e=>e) (fun _ _ _ e=>e)).formS (by omega)
 simp only [Value.slice.injEq] at hv
 obtain ⟨rfl,_,rfl⟩:=hv
 obtain ⟨lv,cv,c0,c1,c2,_,hl,_⟩:=hcells a ha
 clear hcells
 have ha':(a:Int) < (fs.length:Int):=by omega
 clear hA
 have ea:ag ls fs fs[fi] 15 (a:Int) B=[fs[a].result]:=by simp [ag,rh fs a ha]
 rw [ea]
 clear ea
 go_enter Tryz.func92,Tryz.ntmps92
 go_wp2
 go_ret
 exact ⟨_,rfl,ad.lit [fs[a].result] 1 rfl (by simp) (by omega) (by unfold maxLen;omega),KB.out.alloc _⟩
theorem uQ (ta fa:Option Addr) (tc fc:Nat) (ls:List (List Int)) (fs:List Fn) (fi:Nat) (hfi:fi < fs.length) (A B:Int) (w:World) (base:Nat) (_hbase:base<=w.heap.size) (_ht:ai w base (.slice ta ls.length tc) ls) (_hf:aj 93 107 w base (.slice fa fs.length fc) fs)  :
 Calls Tryz.prog 92 #[.agg #[.slice ta ls.length tc,.slice fa fs.length fc],fi,.agg #[(16:Int),A,B]] w fun e w' =>
  ∃ v,e=.returned v/\ad w' base v (ag ls fs fs[fi] 16 A B)/\Chg () w w':=by
 have kb:Chg () w ((w.alloc (Obj.cells #[.slice ta ls.length tc,.slice fa fs.length fc] 43)).alloc (Obj.cells #[(16:Int),A,B] 107)):=((Chg.refl () w).alloc _).alloc _
 have KB:Hid _:=kb
 clear kb
 have ea:ag ls fs fs[fi] 16 A B=[]:=by simp [ag]
 rw [ea]
 clear ea
 go_enter Tryz.func92,Tryz.ntmps92
 go_wp2
 go_ret
 exact ⟨_,rfl,World.ownsRow_nil _ _ _ _,KB.out⟩
theorem uW (ta fa:Option Addr) (tc fc:Nat) (ls:List (List Int)) (fs:List Fn) (fi:Nat) (hfi:fi < fs.length) (A B:Int) (w:World) (base:Nat) (_hbase:base<=w.heap.size) (_ht:ai w base (.slice ta ls.length tc) ls) (_hf:aj 93 107 w base (.slice fa fs.length fc) fs)  :
 Calls Tryz.prog 92 #[.agg #[.slice ta ls.length tc,.slice fa fs.length fc],fi,.agg #[(17:Int),A,B]] w fun e w' =>
  ∃ v,e=.returned v/\ad w' base v (ag ls fs fs[fi] 17 A B)/\Chg () w w':=by
 have kb:Chg () w ((w.alloc (Obj.cells #[.slice ta ls.length tc,.slice fa fs.length fc] 43)).alloc (Obj.cells #[(17:Int),A,B] 107)):=((Chg.refl () w).alloc _).alloc _
 have KB:Hid _:=kb
 clear kb
 have ea:ag ls fs fs[fi] 17 A B=[]:=by simp [ag]
 rw [ea]
 clear ea
 go_enter Tryz.func92,Tryz.ntmps92
 go_wp2
 go_ret
 exact ⟨_,rfl,World.ownsRow_nil _ _ _ _,KB.out⟩
theorem uL (ta fa:Option Addr) (tc fc:Nat) (ls:List (List Int)) (fs:List Fn) (fi:Nat) (hfi:fi < fs.length) (A B:Int) (w:World) (base:Nat) (hbase:base<=w.heap.size) (_ht:ai w base (.slice ta ls.length tc) ls) (_hf:aj 93 107 w base (.slice fa fs.length fc) fs)  :
 Calls Tryz.prog 92 #[.agg #[.slice ta ls.length tc,.slice fa fs.length fc],fi,.agg #[(18:Int),A,B]] w fun e w' =>
  ∃ v,e=.returned v/\ad w' base v (ag ls fs fs[fi] 18 A B)/\Chg () w w':=by
 have kb:Chg () w ((w.alloc (Obj.cells #[.slice ta ls.length tc,.slice fa fs.length fc] 43)).alloc (Obj.cells #[(18:Int),A,B] 107)):=((Chg.refl () w).alloc _).alloc _
 have KB:Hid _:=kb
 clear kb
 have ea:ag ls fs fs[fi] 18 A B=[0]:=by simp [ag]
 rw [ea]
 clear ea
 go_enter Tryz.func92,Tryz.ntmps92
 go_wp2
 go_ret
 exact ⟨_,rfl,ad.lit [0] 1 rfl (by simp) (by omega) (by unfold maxLen;omega),KB.out.alloc _⟩
def OkI (ls:List (List Int)) (fs:List Fn) (f:Fn) (op A B:Int):Prop:=
 (op=5 \/ op=6->0<=A/\A < (f.locals.length:Int))/\(op=7 \/ op=8 \/ op=9->1<=A/\A<=(ls.length:Int))/\(op=8 \/ op=9->0<=B/\B < ((flds ls A).length:Int))/\(op=15->0<=A/\A < (fs.length:Int))
theorem mR (tv fv:Value) (ls:List (List Int)) (fs:List Fn) (fi:Nat) (hfi:fi < fs.length) (op A B:Int) (w:World) (base:Nat) (hbase:base<=w.heap.size) (ht:ai w base tv ls) (hf:aj 93 107 w base fv fs)
 (hn:ls.length<=10000) (h1:0<=op) (h2:op<=18) (hok:OkI ls fs fs[fi] op A B) (hargs:∀ f ∈ fs,0<=f.args/\f.args<=(f.locals.length:Int)) :
 Calls Tryz.prog 91 #[.agg #[tv,fv],fi,.agg #[op,A,B]] w fun e w' =>
  ∃ v,e=.returned v/\ad w' base v (ak ls fs fs[fi] op A B)/\Chg () w w':=by
 have hop:op=0 \/ op=1 \/ op=2 \/ op=3 \/ op=4 \/ op=5 \/ op=6 \/ op=7 \/ op=8 \/ op=9 \/ op=10 \/ op=11 \/ op=12 \/ op=13 \/ op=14 \/ op=15 \/ op=16 \/ op=17 \/ op=18:=by omega
 clear h1 h2
 obtain ⟨ta,tc,rfl⟩:=ht.slice
 obtain ⟨fa,fc,rfl⟩:=hf.slice
 rcases hop with rfl | rfl | rfl | rfl | rfl | rfl | rfl | rfl | rfl | rfl | rfl | rfl | rfl | rfl | rfl | rfl | rfl | rfl | rfl
 ·exact vN ta fa tc fc ls fs fi hfi A B w base hbase ht hf
 ·exact vw ta fa tc fc ls fs fi hfi A B w base hbase ht hf
 ·exact vu ta fa tc fc ls fs fi hfi A B w base hbase ht hf
 ·exact vF ta fa tc fc ls fs fi hfi A B w base hbase ht hf
 ·exact vG ta fa tc fc ls fs fi hfi A B w base hbase ht hf
 ·exact vV ta fa tc fc ls fs fi hfi A B w base hbase ht hf
 ·exact vt ta fa tc fc ls fs fi hfi A B w base hbase ht hf (hok.1 (.inr rfl))
 ·exact vT ta fa tc fc ls fs fi hfi A B w base hbase ht hf hn (hok.2.1 (.inl rfl))
 ·exact vD ta fa tc fc ls fs fi hfi A B w base hbase ht hf
 ·exact vJ ta fa tc fc ls fs fi hfi A B w base hbase ht hf hn (hok.2.1 (.inr (.inr (rfl)))) (hok.2.2.1 (.inr rfl))
 ·exact tX ta fa tc fc ls fs fi hfi A B w base hbase ht hf
 ·exact ve ta fa tc fc ls fs fi hfi A B w base hbase ht hf
 ·exact uj ta fa tc fc ls fs fi hfi A B w base hbase ht hf
 ·exact uB ta fa tc fc ls fs fi hfi A B w base hbase ht hf
 ·exact uG ta fa tc fc ls fs fi hfi A B w base hbase ht hf
 ·exact tU ta fa tc fc ls fs fi hfi A B w base hbase ht hf (hok.2.2.2 rfl) hargs
 ·exact uE ta fa tc fc ls fs fi hfi A B w base hbase ht hf
 ·exact uJ ta fa tc fc ls fs fi hfi A B w base hbase ht hf
 ·exact uN ta fa tc fc ls fs fi hfi A B w base hbase ht hf
theorem cV (tv fv:Value) (ls:List (List Int)) (fs:List Fn) (fi:Nat) (hfi:fi < fs.length) (op A B:Int) (w:World) (base:Nat) (hbase:base<=w.heap.size) (ht:ai w base tv ls) (hf:aj 93 107 w base fv fs)
 (hn:ls.length<=10000) (h1:0<=op) (h2:op<=18) (hok:OkI ls fs fs[fi] op A B) (_hargs:∀ f ∈ fs,0<=f.args/\f.args<=(f.locals.length:Int)) :
 Calls Tryz.prog 92 #[.agg #[tv,fv],fi,.agg #[op,A,B]] w fun e w' =>
  ∃ v,e=.returned v/\ad w' base v (ag ls fs fs[fi] op A B)/\Chg () w w':=by
 have hop:op=0 \/ op=1 \/ op=2 \/ op=3 \/ op=4 \/ op=5 \/ op=6 \/ op=7 \/ op=8 \/ op=9 \/ op=10 \/ op=11 \/ op=12 \/ op=13 \/ op=14 \/ op=15 \/ op=16 \/ op=17 \/ op=18:=by omega
 clear h1 h2
 obtain ⟨ta,tc,rfl⟩:=ht.slice
 obtain ⟨fa,fc,rfl⟩:=hf.slice
 rcases hop with rfl | rfl | rfl | rfl | rfl | rfl | rfl | rfl | rfl | rfl | rfl | rfl | rfl | rfl | rfl | rfl | rfl | rfl | rfl
 ·exact vP ta fa tc fc ls fs fi hfi A B w base hbase ht hf
 ·exact vM ta fa tc fc ls fs fi hfi A B w base hbase ht hf
 ·exact v4 ta fa tc fc ls fs fi hfi A B w base hbase ht hf
 ·exact vy ta fa tc fc ls fs fi hfi A B w base hbase ht hf
 ·exact vE ta fa tc fc ls fs fi hfi A B w base hbase ht hf
 ·exact vB ta fa tc fc ls fs fi hfi A B w base hbase ht hf (hok.1 (.inl rfl))
 ·exact v7 ta fa tc fc ls fs fi hfi A B w base hbase ht hf
 ·exact vK ta fa tc fc ls fs fi hfi A B w base hbase ht hf
 ·exact vL ta fa tc fc ls fs fi hfi A B w base hbase ht hf hn (hok.2.1 (.inr (.inl rfl))) (hok.2.2.1 (.inl rfl))
 ·exact wn ta fa tc fc ls fs fi hfi A B w base hbase ht hf
 ·exact uf ta fa tc fc ls fs fi hfi A B w base hbase ht hf
 ·exact ui ta fa tc fc ls fs fi hfi A B w base hbase ht hf
 ·exact vi ta fa tc fc ls fs fi hfi A B w base hbase ht hf
 ·exact ut ta fa tc fc ls fs fi hfi A B w base hbase ht hf
 ·exact tR ta fa tc fc ls fs fi hfi A B w base hbase ht hf
 ·exact uS ta fa tc fc ls fs fi hfi A B w base hbase ht hf (hok.2.2.2 rfl)
 ·exact uQ ta fa tc fc ls fs fi hfi A B w base hbase ht hf
 ·exact uW ta fa tc fc ls fs fi hfi A B w base hbase ht hf
 ·exact uL ta fa tc fc ls fs fi hfi A B w base hbase ht hf
end Go.Proofs.YtnfnbcbadakofaaGreat
