import Derived.Test.YtnfnbcbadakofabChk3
import Derived.Deep.RegionHeld3
namespace Go.Proofs.Ytnfnbcbadakofab
open Go.RowKit
set_option maxHeartbeats 400000
set_option maxRecDepth 100000
theorem rsame_len (a1 a2:Option Addr) (n1 n2 c1 c2:Nat) (w:World) (h:n1 ≠ n2) :
 Calls Try.prog 72 #[.slice a1 n1 c1,.slice a2 n2 c2] w fun e w'=>e=.returned (.bool false)/\∃ n,w'=w.drewN n:=by
 have h':((n1:Int) != (n2:Int))=true:=by rw [bne_iff_ne];omega
 clear h
 go_enter Try.func72,Try.ntmps72
 go_wp2
 go_ret
 exact ⟨rfl,0,rfl⟩
theorem rsame_core (a1 a2:Option Addr) (g1 g2 o1 o2 c1 c2:Nat) (l1 l2:List Int) (w:World) (hl:l1.length<=10000) (he:l2.length=l1.length) (ha:0 < l1.length->a1=some ⟨g1,o1,none⟩/\a2=some ⟨g2,o2,none⟩)
 (h1:∀ j,j < l1.length->w.cell? ⟨g1,o1+j,none⟩=some (.int .i64 (l1.getD j 0))) (h2:∀ j,j < l1.length->w.cell? ⟨g2,o2+j,none⟩=some (.int .i64 (l2.getD j 0))) :
 Calls Try.prog 72 #[.slice a1 l1.length c1,.slice a2 l1.length c2] w fun e w'=>e=.returned (.bool (l1 == l2))/\∃ n,w'=w.drewN n:=by
 have HE:=hid he
 clear he
 go_enter Try.func72,Try.ntmps72
 go_wp2
 go_loopw [5] (fun i wr=>∃ k:Nat,k<=l1.length/\i=.int .i64 k/\(l1.take k=l2.take k)/\∃ n,wr=w.drewN n) (fun i _=>l1.length - (intOf i).toNat)
 case atStart=>exact ⟨0,Nat.zero_le _,rfl,by simp,0,rfl⟩
 case round =>
  obtain ⟨k,hk,rfl,htk,n,rfl⟩:=hrel
  have HT:=hid htk
  clear htk
  by_cases hlt:k < l1.length
  ·obtain ⟨rfl,rfl⟩:=ha (by omega)
   have y1:=h1 k hlt
   have y2:=h2 k hlt
   have hlt':(k:Int) < (l1.length:Int):=by omega
   have HN:Hid (l1.getD k 0=l2.getD k 0->l1.take (k+1)=l2.take (k+1)):=by
    intro hx
    rw [List.take_succ_eq_append_getElem hlt,List.take_succ_eq_append_getElem (by rw [HE.out];exact hlt),HT.out]
    rw [List.getD_eq_getElem?_getD,List.getD_eq_getElem?_getD,List.getElem?_eq_getElem hlt,List.getElem?_eq_getElem (by rw [HE.out];exact hlt)] at hx
    simp at hx
    rw [hx]
   have HX:Hid (l1.getD k 0 ≠ l2.getD k 0->(l1 == l2)=false):=by
    intro hx
    rw [beq_eq_false_iff_ne]
    intro e;rw [e] at hx;exact hx rfl
   generalize l1.getD k 0=x at *
   generalize l2.getD k 0=y at *
   clear h1 h2 ha
   by_cases hxy:x=y
   ·have hb:(x != y)=false:=by simp [hxy]
    have HXY:=hid hxy
    clear hxy
    go_wp2
    go_quiet (fail)
    go_wp2
    exact ⟨⟨k+1,by omega,rfl,HN.out HXY.out,_,rfl⟩,by simp [intOf];omega⟩
   ·have hb:(x != y)=true:=by simp [hxy]
    have HXY:=hid hxy
    clear hxy
    go_wp2
    go_quiet (fail)
    go_wp2
    go_ret
    exact ⟨by rw [HX.out HXY.out];rfl,_,World.drewN_drewN _ _ _⟩
  ·have e1:(l1 == l2)=true:=by
    have:=HT.out
    rw [List.take_of_length_le (by omega),List.take_of_length_le (by rw [HE.out];omega)] at this
    rw [this];simp
   go_wp2
   go_ret
   exact ⟨by rw [e1];rfl,n,rfl⟩
theorem rsame_any (v1 v2:Value) (l1 l2:List Int) (w:World) (hl:l1.length<=10000) (h1:RdI w v1 l1) (h2:RdI w v2 l2) :
 Calls Try.prog 72 #[v1,v2] w fun e w'=>e=.returned (.bool (l1 == l2))/\∃ n,w'=w.drewN n:=by
 have f1:∃ a c,v1=.slice a l1.length c:=by
  rcases h1 with ⟨rfl,rfl⟩ | ⟨g,o,c,rfl,_⟩
  ·exact ⟨none,0,rfl⟩
  ·exact ⟨_,_,rfl⟩
 have f2:∃ a c,v2=.slice a l2.length c:=by
  rcases h2 with ⟨rfl,rfl⟩ | ⟨g,o,c,rfl,_⟩
  ·exact ⟨none,0,rfl⟩
  ·exact ⟨_,_,rfl⟩
 by_cases he:l2.length=l1.length
 ·by_cases h0:0 < l1.length
  ·rcases h1 with ⟨_,rfl⟩ | ⟨g1,o1,c1,rfl,_,_,k1⟩
   ·simp at h0
   rcases h2 with ⟨_,rfl⟩ | ⟨g2,o2,c2,rfl,_,_,k2⟩
   ·simp at he;simp [<-he] at h0
   rw [he]
   exact rsame_core _ _ g1 g2 o1 o2 c1 c2 l1 l2 w hl he (fun _=>⟨rfl,rfl⟩) k1 (fun j hj=>k2 j (by omega))
  ·obtain ⟨a1,c1,rfl⟩:=f1
   obtain ⟨a2,c2,rfl⟩:=f2
   rw [he]
   exact rsame_core a1 a2 0 0 0 0 c1 c2 l1 l2 w hl he (fun h=>absurd h h0) (fun j hj=>by omega) (fun j hj=>by omega)
 ·obtain ⟨a1,c1,rfl⟩:=f1
  obtain ⟨a2,c2,rfl⟩:=f2
  have e1:(l1 == l2)=false:=by rw [beq_eq_false_iff_ne];intro e;exact he (by rw [e])
  rw [e1]
  exact rsame_len a1 a2 _ _ c1 c2 w (fun e=>he e.symm)
def waysP (op A:Int) (i:Nat):List Int:=if op=13 then [A] else if op=14 then [A,(i:Int)+1] else if op=16 then [] else [(i:Int)+1]
theorem ways_13 (A B:Int) (i:Nat) (w:World) (base:Nat) (hbase:base<=w.heap.size) (_hi:i<=10000)  :
 Calls Try.prog 71 #[.agg #[(13:Int),A,B],i] w fun e w'=>∃ v,e=.returned v/\IntsV w' base v [A]/\Chg () w w':=by
 have kb:Chg () w (w.alloc (Obj.cells #[(13:Int),A,B] 131)):=(Chg.refl () w).alloc _
 have KB:Hid _:=kb
 clear kb
 go_enter Try.func71,Try.ntmps71
 go_wp2
 go_ret
 exact ⟨_,rfl,IntsV.lit [A] 1 rfl (by simp) (by omega) (by unfold maxLen;omega),KB.out.alloc _⟩
theorem ways_14 (A B:Int) (i:Nat) (w:World) (base:Nat) (hbase:base<=w.heap.size) (hi:i<=10000)  :
 Calls Try.prog 71 #[.agg #[(14:Int),A,B],i] w fun e w'=>∃ v,e=.returned v/\IntsV w' base v [A,(i:Int)+1]/\Chg () w w':=by
 have kb:Chg () w (w.alloc (Obj.cells #[(14:Int),A,B] 131)):=(Chg.refl () w).alloc _
 have KB:Hid _:=kb
 clear kb
 go_enter Try.func71,Try.ntmps71
 go_wp2
 go_ret
 exact ⟨_,rfl,IntsV.lit [A,(i:Int)+1] 2 rfl (by simp) (by omega) (by unfold maxLen;omega),KB.out.alloc _⟩
theorem ways_16 (A B:Int) (i:Nat) (w:World) (base:Nat) (_hbase:base<=w.heap.size) (_hi:i<=10000)  :
 Calls Try.prog 71 #[.agg #[(16:Int),A,B],i] w fun e w'=>∃ v,e=.returned v/\IntsV w' base v []/\Chg () w w':=by
 have kb:Chg () w (w.alloc (Obj.cells #[(16:Int),A,B] 131)):=(Chg.refl () w).alloc _
 have KB:Hid _:=kb
 clear kb
 go_enter Try.func71,Try.ntmps71
 go_wp2
 go_ret
 exact ⟨_,rfl,World.ownsRow_nil _ _ _ _,KB.out⟩
theorem ways_else (op A B:Int) (i:Nat) (w:World) (base:Nat) (hbase:base<=w.heap.size) (hi:i<=10000) (h1:(op == 13)=false) (h2:(op == 14)=false) (h3:(op == 16)=false) :
 Calls Try.prog 71 #[.agg #[op,A,B],i] w fun e w'=>∃ v,e=.returned v/\IntsV w' base v [(i:Int)+1]/\Chg () w w':=by
 have kb:Chg () w (w.alloc (Obj.cells #[op,A,B] 131)):=(Chg.refl () w).alloc _
 have KB:Hid _:=kb
 clear kb
 go_enter Try.func71,Try.ntmps71
 go_wp2
 go_ret
 exact ⟨_,rfl,IntsV.lit [(i:Int)+1] 1 rfl (by simp) (by omega) (by unfold maxLen;omega),KB.out.alloc _⟩
theorem ways_any (op A B:Int) (i:Nat) (w:World) (base:Nat) (hbase:base<=w.heap.size) (hi:i<=10000) :
 Calls Try.prog 71 #[.agg #[op,A,B],i] w fun e w'=>∃ v,e=.returned v/\IntsV w' base v (waysP op A i)/\Chg () w w':=by
 unfold waysP
 by_cases h1:op=13
 ·subst h1;rw [if_pos rfl];exact ways_13 A B i w base hbase hi
 rw [if_neg h1]
 by_cases h2:op=14
 ·subst h2;rw [if_pos rfl];exact ways_14 A B i w base hbase hi
 rw [if_neg h2]
 by_cases h3:op=16
 ·subst h3;rw [if_pos rfl];exact ways_16 A B i w base hbase hi
 rw [if_neg h3]
 exact ways_else op A B i w base hbase hi (by simpa using h1) (by simpa using h2) (by simpa using h3)
end Go.Proofs.Ytnfnbcbadakofab
namespace Go.Proofs.Ytnfnbcbadakofab
open Go.RowKit
set_option maxHeartbeats 400000
set_option maxRecDepth 100000
theorem tyAt_in (l:List Int) (j:Nat) (h:j < l.length):tyAt l (j:Int)=l.getD j 0:=by
 unfold tyAt;rw [if_neg (by omega)];simp
theorem flds_in (ls:List (List Int)) (j:Nat) (h:j < ls.length):flds ls ((j:Int)+1)=ls.getD j []:=by
 unfold flds;rw [if_neg (by omega)];congr 1;omega
theorem resF_in (fs:List Fn) (j:Nat) (h:j < fs.length):resF fs (j:Int)=fs[j].result:=by
 unfold resF;rw [dif_pos ⟨by omega,by simpa using h⟩];rfl
theorem argsF_in (fs:List Fn) (j:Nat) (h:j < fs.length) (hb:0<=fs[j].args/\fs[j].args<=(fs[j].locals.length:Int)):argsF fs (j:Int)=fs[j].locals.take fs[j].args.toNat:=by
 unfold argsF;rw [dif_pos ⟨by omega,by simpa using h⟩];exact if_neg (by simp only [Int.toNat_natCast];omega)
theorem tx_0 (ta fa:Option Addr) (tc fc:Nat) (ls:List (List Int)) (fs:List Fn) (fi:Nat) (hfi:fi < fs.length) (A B:Int) (w:World) (base:Nat) (_hbase:base<=w.heap.size) (_ht:TypesV w base (.slice ta ls.length tc) ls) (_hf:FuncsV 107 131 w base (.slice fa fs.length fc) fs)  :
 Calls Try.prog 88 #[.agg #[.slice ta ls.length tc,.slice fa fs.length fc],fi,.agg #[oO,A,B]] w fun e w' =>
  ∃ v,e=.returned v/\IntsV w' base v (ahead ls fs fs[fi] 0 A B)/\Chg () w w':=by
 have kb:Chg () w ((w.alloc (Obj.cells #[.slice ta ls.length tc,.slice fa fs.length fc] 44)).alloc (Obj.cells #[oO,A,B] 131)):=((Chg.refl () w).alloc _).alloc _
 have KB:Hid _:=kb
 clear kb
 have ea:ahead ls fs fs[fi] 0 A B=[]:=by simp [ahead]
 rw [ea]
 clear ea
 go_enter Try.func88,Try.ntmps88
 go_wp2
 go_ret
 exact ⟨_,rfl,World.ownsRow_nil _ _ _ _,KB.out⟩
theorem tx_1 (ta fa:Option Addr) (tc fc:Nat) (ls:List (List Int)) (fs:List Fn) (fi:Nat) (hfi:fi < fs.length) (A B:Int) (w:World) (base:Nat) (hbase:base<=w.heap.size) (_ht:TypesV w base (.slice ta ls.length tc) ls) (_hf:FuncsV 107 131 w base (.slice fa fs.length fc) fs)  :
 Calls Try.prog 88 #[.agg #[.slice ta ls.length tc,.slice fa fs.length fc],fi,.agg #[(1:Int),A,B]] w fun e w' =>
  ∃ v,e=.returned v/\IntsV w' base v (ahead ls fs fs[fi] 1 A B)/\Chg () w w':=by
 have kb:Chg () w ((w.alloc (Obj.cells #[.slice ta ls.length tc,.slice fa fs.length fc] 44)).alloc (Obj.cells #[(1:Int),A,B] 131)):=((Chg.refl () w).alloc _).alloc _
 have KB:Hid _:=kb
 clear kb
 have ea:ahead ls fs fs[fi] 1 A B=[0,0]:=by simp [ahead]
 rw [ea]
 clear ea
 go_enter Try.func88,Try.ntmps88
 go_wp2
 go_ret
 exact ⟨_,rfl,IntsV.lit [0,0] 2 rfl (by simp) (by omega) (by unfold maxLen;omega),KB.out.alloc _⟩
theorem tx_2 (ta fa:Option Addr) (tc fc:Nat) (ls:List (List Int)) (fs:List Fn) (fi:Nat) (hfi:fi < fs.length) (A B:Int) (w:World) (base:Nat) (hbase:base<=w.heap.size) (_ht:TypesV w base (.slice ta ls.length tc) ls) (_hf:FuncsV 107 131 w base (.slice fa fs.length fc) fs)  :
 Calls Try.prog 88 #[.agg #[.slice ta ls.length tc,.slice fa fs.length fc],fi,.agg #[(2:Int),A,B]] w fun e w' =>
  ∃ v,e=.returned v/\IntsV w' base v (ahead ls fs fs[fi] 2 A B)/\Chg () w w':=by
 have kb:Chg () w ((w.alloc (Obj.cells #[.slice ta ls.length tc,.slice fa fs.length fc] 44)).alloc (Obj.cells #[(2:Int),A,B] 131)):=((Chg.refl () w).alloc _).alloc _
 have KB:Hid _:=kb
 clear kb
 have ea:ahead ls fs fs[fi] 2 A B=[0,0]:=by simp [ahead]
 rw [ea]
 clear ea
 go_enter Try.func88,Try.ntmps88
 go_wp2
 go_ret
 exact ⟨_,rfl,IntsV.lit [0,0] 2 rfl (by simp) (by omega) (by unfold maxLen;omega),KB.out.alloc _⟩
theorem tx_3 (ta fa:Option Addr) (tc fc:Nat) (ls:List (List Int)) (fs:List Fn) (fi:Nat) (hfi:fi < fs.length) (A B:Int) (w:World) (base:Nat) (hbase:base<=w.heap.size) (_ht:TypesV w base (.slice ta ls.length tc) ls) (_hf:FuncsV 107 131 w base (.slice fa fs.length fc) fs)  :
 Calls Try.prog 88 #[.agg #[.slice ta ls.length tc,.slice fa fs.length fc],fi,.agg #[(3:Int),A,B]] w fun e w' =>
  ∃ v,e=.returned v/\IntsV w' base v (ahead ls fs fs[fi] 3 A B)/\Chg () w w':=by
 have kb:Chg () w ((w.alloc (Obj.cells #[.slice ta ls.length tc,.slice fa fs.length fc] 44)).alloc (Obj.cells #[(3:Int),A,B] 131)):=((Chg.refl () w).alloc _).alloc _
 have KB:Hid _:=kb
 clear kb
 have ea:ahead ls fs fs[fi] 3 A B=[0,0]:=by simp [ahead]
 rw [ea]
 clear ea
 go_enter Try.func88,Try.ntmps88
 go_wp2
 go_ret
 exact ⟨_,rfl,IntsV.lit [0,0] 2 rfl (by simp) (by omega) (by unfold maxLen;omega),KB.out.alloc _⟩
theorem tx_4 (ta fa:Option Addr) (tc fc:Nat) (ls:List (List Int)) (fs:List Fn) (fi:Nat) (hfi:fi < fs.length) (A B:Int) (w:World) (base:Nat) (hbase:base<=w.heap.size) (_ht:TypesV w base (.slice ta ls.length tc) ls) (_hf:FuncsV 107 131 w base (.slice fa fs.length fc) fs)  :
 Calls Try.prog 88 #[.agg #[.slice ta ls.length tc,.slice fa fs.length fc],fi,.agg #[(4:Int),A,B]] w fun e w' =>
  ∃ v,e=.returned v/\IntsV w' base v (ahead ls fs fs[fi] 4 A B)/\Chg () w w':=by
 have kb:Chg () w ((w.alloc (Obj.cells #[.slice ta ls.length tc,.slice fa fs.length fc] 44)).alloc (Obj.cells #[(4:Int),A,B] 131)):=((Chg.refl () w).alloc _).alloc _
 have KB:Hid _:=kb
 clear kb
 have ea:ahead ls fs fs[fi] 4 A B=[0,0]:=by simp [ahead]
 rw [ea]
 clear ea
 go_enter Try.func88,Try.ntmps88
 go_wp2
 go_ret
 exact ⟨_,rfl,IntsV.lit [0,0] 2 rfl (by simp) (by omega) (by unfold maxLen;omega),KB.out.alloc _⟩
theorem tx_5 (ta fa:Option Addr) (tc fc:Nat) (ls:List (List Int)) (fs:List Fn) (fi:Nat) (hfi:fi < fs.length) (A B:Int) (w:World) (base:Nat) (_hbase:base<=w.heap.size) (_ht:TypesV w base (.slice ta ls.length tc) ls) (_hf:FuncsV 107 131 w base (.slice fa fs.length fc) fs)  :
 Calls Try.prog 88 #[.agg #[.slice ta ls.length tc,.slice fa fs.length fc],fi,.agg #[(5:Int),A,B]] w fun e w' =>
  ∃ v,e=.returned v/\IntsV w' base v (ahead ls fs fs[fi] 5 A B)/\Chg () w w':=by
 have kb:Chg () w ((w.alloc (Obj.cells #[.slice ta ls.length tc,.slice fa fs.length fc] 44)).alloc (Obj.cells #[(5:Int),A,B] 131)):=((Chg.refl () w).alloc _).alloc _
 have KB:Hid _:=kb
 clear kb
 have ea:ahead ls fs fs[fi] 5 A B=[]:=by simp [ahead]
 rw [ea]
 clear ea
 go_enter Try.func88,Try.ntmps88
 go_wp2
 go_ret
 exact ⟨_,rfl,World.ownsRow_nil _ _ _ _,KB.out⟩
theorem tx_6 (ta fa:Option Addr) (tc fc:Nat) (ls:List (List Int)) (fs:List Fn) (fi:Nat) (hfi:fi < fs.length) (A B:Int) (w:World) (base:Nat) (hbase:base<=w.heap.size) (_ht:TypesV w base (.slice ta ls.length tc) ls) (hf:FuncsV 107 131 w base (.slice fa fs.length fc) fs) (hA:0<=A/\A < (fs[fi].locals.length:Int)) :
 Calls Try.prog 88 #[.agg #[.slice ta ls.length tc,.slice fa fs.length fc],fi,.agg #[(6:Int),A,B]] w fun e w' =>
  ∃ v,e=.returned v/\IntsV w' base v (ahead ls fs fs[fi] 6 A B)/\Chg () w w':=by
 have kb:Chg () w ((w.alloc (Obj.cells #[.slice ta ls.length tc,.slice fa fs.length fc] 44)).alloc (Obj.cells #[(6:Int),A,B] 131)):=((Chg.refl () w).alloc _).alloc _
 have KB:Hid _:=kb
 clear kb
 obtain ⟨a,rfl⟩:∃ a:Nat,A=(a:Int):=⟨A.toNat,by omega⟩
 obtain ⟨g,cap,hv,hle,hcells⟩:=(hf.chg KB.out (fun _ _ _ e=>e) (fun _ _ _ e=>e) (fun _ _ _ e=>e)).formS (by omega)
 simp only [Value.slice.injEq] at hv
 obtain ⟨rfl,_,rfl⟩:=hv
 obtain ⟨lv,cv,c0,c1,c2,_,hl,_⟩:=hcells fi hfi
 clear hcells
 obtain ⟨gl,lc,rfl,_,hle2,_,lcs⟩:=hl.form (by omega)
 have c3:=lcs a (by omega)
 have ha:(a:Int) < (fs[fi].locals.length:Int):=hA.2
 have hfi':(fi:Int) < (fs.length:Int):=by omega
 clear lcs hA
 have ea:ahead ls fs fs[fi] 6 (a:Int) B=[fs[fi].locals.getD a 0]:=by simp [ahead,tyAt_in fs[fi].locals a (by omega)]
 rw [ea]
 clear ea
 go_enter Try.func88,Try.ntmps88
 have k0:=KB.out
 have b0:Blk ((w.alloc (Obj.cells #[.slice ta ls.length tc,.slice g fs.length fc] 44)).alloc (Obj.cells #[(6:Int),a,B] 131)) w.heap.size #[.slice ta ls.length tc,.slice g fs.length fc] 44:=(Blk.new' rfl _ 44).alloc _
 have b1:Blk ((w.alloc (Obj.cells #[.slice ta ls.length tc,.slice g fs.length fc] 44)).alloc (Obj.cells #[(6:Int),a,B] 131)) (w.heap.size+1) #[(6:Int),a,B] 131:=Blk.new' (by simp) _ 131
 clear KB
 go_wp2_with fail
 generalize ((w.alloc (Obj.cells #[.slice ta ls.length tc,.slice g fs.length fc] 44)).alloc (Obj.cells #[(6:Int),a,B] 131))=W at *
 have y0:W.cell? ⟨w.heap.size,0,none⟩=some (.slice ta ls.length tc):=b0.cell 0
 have y1:W.cell? ⟨w.heap.size,1,none⟩=some (.slice g fs.length fc):=b0.cell 1
 have y2:W.cell? ⟨w.heap.size+1,1,none⟩=some (.int .i64 ((a:Int))):=b1.cell 1
 have y3:W.cell? ⟨w.heap.size+1,2,none⟩=some (.int .i64 (B)):=b1.cell 2
 have hWs:=k0.size
 go_region
 all_goals
  go_wp2
  go_ret
  exact ⟨.slice W.heap.size 1 1,rfl,own_drew (IntsV.lit (W:=W) (base:=base) [fs[fi].locals.getD a 0] 1 rfl rfl (by omega) (by unfold maxLen;omega)),((k0.alloc _).drew)⟩
theorem tx_7 (ta fa:Option Addr) (tc fc:Nat) (ls:List (List Int)) (fs:List Fn) (fi:Nat) (hfi:fi < fs.length) (A B:Int) (w:World) (base:Nat) (_hbase:base<=w.heap.size) (ht:TypesV w base (.slice ta ls.length tc) ls) (_hf:FuncsV 107 131 w base (.slice fa fs.length fc) fs) (hn:ls.length<=10000) (hA:1<=A/\A<=(ls.length:Int)) :
 Calls Try.prog 88 #[.agg #[.slice ta ls.length tc,.slice fa fs.length fc],fi,.agg #[(7:Int),A,B]] w fun e w' =>
  ∃ v,e=.returned v/\IntsV w' base v (ahead ls fs fs[fi] 7 A B)/\Chg () w w':=by
 have kb:Chg () w ((w.alloc (Obj.cells #[.slice ta ls.length tc,.slice fa fs.length fc] 44)).alloc (Obj.cells #[(7:Int),A,B] 131)):=((Chg.refl () w).alloc _).alloc _
 have KB:Hid _:=kb
 clear kb
 obtain ⟨a,rfl⟩:∃ a:Nat,A=(a:Int)+1:=⟨(A - 1).toNat,by omega⟩
 obtain ⟨gt,capt,u,hv,hle,ct,hu⟩:=(ht.new KB.out).cell a (by omega)
 simp only [Value.slice.injEq] at hv
 obtain ⟨rfl,_,rfl⟩:=hv
 obtain ⟨ua,uc,rfl⟩:=hu.slice
 have ha:(a:Int) < (ls.length:Int):=by omega
 clear hA
 have ea:ahead ls fs fs[fi] 7 ((a:Int)+1) B=ls.getD a []:=by simp [ahead,flds_in ls a (by omega)]
 rw [ea]
 clear ea
 go_enter Try.func88,Try.ntmps88
 go_wp2
 go_ret
 exact ⟨_,rfl,hu,KB.out⟩
theorem tx_8 (ta fa:Option Addr) (tc fc:Nat) (ls:List (List Int)) (fs:List Fn) (fi:Nat) (hfi:fi < fs.length) (A B:Int) (w:World) (base:Nat) (hbase:base<=w.heap.size) (_ht:TypesV w base (.slice ta ls.length tc) ls) (_hf:FuncsV 107 131 w base (.slice fa fs.length fc) fs)  :
 Calls Try.prog 88 #[.agg #[.slice ta ls.length tc,.slice fa fs.length fc],fi,.agg #[(8:Int),A,B]] w fun e w' =>
  ∃ v,e=.returned v/\IntsV w' base v (ahead ls fs fs[fi] 8 A B)/\Chg () w w':=by
 have kb:Chg () w ((w.alloc (Obj.cells #[.slice ta ls.length tc,.slice fa fs.length fc] 44)).alloc (Obj.cells #[(8:Int),A,B] 131)):=((Chg.refl () w).alloc _).alloc _
 have KB:Hid _:=kb
 clear kb
 have ea:ahead ls fs fs[fi] 8 A B=[A]:=by simp [ahead]
 rw [ea]
 clear ea
 go_enter Try.func88,Try.ntmps88
 go_wp2
 go_ret
 exact ⟨_,rfl,IntsV.lit [A] 1 rfl (by simp) (by omega) (by unfold maxLen;omega),KB.out.alloc _⟩
theorem tx_9 (ta fa:Option Addr) (tc fc:Nat) (ls:List (List Int)) (fs:List Fn) (fi:Nat) (hfi:fi < fs.length) (A B:Int) (w:World) (base:Nat) (hbase:base<=w.heap.size) (ht:TypesV w base (.slice ta ls.length tc) ls) (_hf:FuncsV 107 131 w base (.slice fa fs.length fc) fs) (hn:ls.length<=10000) (hA:1<=A/\A<=(ls.length:Int)) (hB:0<=B/\B < ((flds ls A).length:Int)) :
 Calls Try.prog 88 #[.agg #[.slice ta ls.length tc,.slice fa fs.length fc],fi,.agg #[(9:Int),A,B]] w fun e w' =>
  ∃ v,e=.returned v/\IntsV w' base v (ahead ls fs fs[fi] 9 A B)/\Chg () w w':=by
 have kb:Chg () w ((w.alloc (Obj.cells #[.slice ta ls.length tc,.slice fa fs.length fc] 44)).alloc (Obj.cells #[(9:Int),A,B] 131)):=((Chg.refl () w).alloc _).alloc _
 have KB:Hid _:=kb
 clear kb
 obtain ⟨a,rfl⟩:∃ a:Nat,A=(a:Int)+1:=⟨(A - 1).toNat,by omega⟩
 obtain ⟨b,rfl⟩:∃ b:Nat,B=(b:Int):=⟨B.toNat,by omega⟩
 have eL:=flds_in ls a (by omega)
 rw [eL] at hB
 obtain ⟨gt,capt,u,hv,hle,ct,hu⟩:=(ht.new KB.out).cell a (by omega)
 simp only [Value.slice.injEq] at hv
 obtain ⟨rfl,_,rfl⟩:=hv
 generalize ls.getD a []=L at *
 obtain ⟨gu,uc,rfl,_,hle2,_,ucs⟩:=hu.form (by omega)
 have c3:=ucs b (by omega)
 have ha:(a:Int) < (ls.length:Int):=by omega
 have hb:(b:Int) < (L.length:Int):=hB.2
 have eT:=tyAt_in L b (by omega)
 clear ucs hA hB
 have ea:ahead ls fs fs[fi] 9 ((a:Int)+1) (b:Int)=[(a:Int)+1,L.getD b 0]:=by simp [ahead,eL,eT]
 rw [ea]
 clear ea
 go_enter Try.func88,Try.ntmps88
 have k0:=KB.out
 have b0:Blk ((w.alloc (Obj.cells #[.slice gt ls.length tc,.slice fa fs.length fc] 44)).alloc (Obj.cells #[(9:Int),((a:Int)+1:Int),b] 131)) w.heap.size #[.slice gt ls.length tc,.slice fa fs.length fc] 44:=(Blk.new' rfl _ 44).alloc _
 have b1:Blk ((w.alloc (Obj.cells #[.slice gt ls.length tc,.slice fa fs.length fc] 44)).alloc (Obj.cells #[(9:Int),((a:Int)+1:Int),b] 131)) (w.heap.size+1) #[(9:Int),((a:Int)+1:Int),b] 131:=Blk.new' (by simp) _ 131
 clear KB
 clear eL eT
 go_wp2_with fail
 generalize ((w.alloc (Obj.cells #[.slice gt ls.length tc,.slice fa fs.length fc] 44)).alloc (Obj.cells #[(9:Int),((a:Int)+1:Int),b] 131))=W at *
 have y0:W.cell? ⟨w.heap.size,0,none⟩=some (.slice gt ls.length tc):=b0.cell 0
 have y1:W.cell? ⟨w.heap.size,1,none⟩=some (.slice fa fs.length fc):=b0.cell 1
 have y2:W.cell? ⟨w.heap.size+1,1,none⟩=some (.int .i64 (((a:Int)+1))):=b1.cell 1
 have y3:W.cell? ⟨w.heap.size+1,2,none⟩=some (.int .i64 ((b:Int))):=b1.cell 2
 have hWs:=k0.size
 go_region
 all_goals
  go_wp2
  go_ret
  exact ⟨.slice W.heap.size 2 2,rfl,own_drew (IntsV.lit (W:=W) (base:=base) [(a:Int)+1,L.getD b 0] 2 rfl rfl (by omega) (by unfold maxLen;omega)),((k0.alloc _).drew)⟩
theorem tx_10 (ta fa:Option Addr) (tc fc:Nat) (ls:List (List Int)) (fs:List Fn) (fi:Nat) (hfi:fi < fs.length) (A B:Int) (w:World) (base:Nat) (_hbase:base<=w.heap.size) (_ht:TypesV w base (.slice ta ls.length tc) ls) (_hf:FuncsV 107 131 w base (.slice fa fs.length fc) fs)  :
 Calls Try.prog 88 #[.agg #[.slice ta ls.length tc,.slice fa fs.length fc],fi,.agg #[(10:Int),A,B]] w fun e w' =>
  ∃ v,e=.returned v/\IntsV w' base v (ahead ls fs fs[fi] 10 A B)/\Chg () w w':=by
 have kb:Chg () w ((w.alloc (Obj.cells #[.slice ta ls.length tc,.slice fa fs.length fc] 44)).alloc (Obj.cells #[(10:Int),A,B] 131)):=((Chg.refl () w).alloc _).alloc _
 have KB:Hid _:=kb
 clear kb
 have ea:ahead ls fs fs[fi] 10 A B=[]:=by simp [ahead]
 rw [ea]
 clear ea
 go_enter Try.func88,Try.ntmps88
 go_wp2
 go_ret
 exact ⟨_,rfl,World.ownsRow_nil _ _ _ _,KB.out⟩
theorem tx_11 (ta fa:Option Addr) (tc fc:Nat) (ls:List (List Int)) (fs:List Fn) (fi:Nat) (hfi:fi < fs.length) (A B:Int) (w:World) (base:Nat) (hbase:base<=w.heap.size) (_ht:TypesV w base (.slice ta ls.length tc) ls) (_hf:FuncsV 107 131 w base (.slice fa fs.length fc) fs)  :
 Calls Try.prog 88 #[.agg #[.slice ta ls.length tc,.slice fa fs.length fc],fi,.agg #[(11:Int),A,B]] w fun e w' =>
  ∃ v,e=.returned v/\IntsV w' base v (ahead ls fs fs[fi] 11 A B)/\Chg () w w':=by
 have kb:Chg () w ((w.alloc (Obj.cells #[.slice ta ls.length tc,.slice fa fs.length fc] 44)).alloc (Obj.cells #[(11:Int),A,B] 131)):=((Chg.refl () w).alloc _).alloc _
 have KB:Hid _:=kb
 clear kb
 have ea:ahead ls fs fs[fi] 11 A B=[A]:=by simp [ahead]
 rw [ea]
 clear ea
 go_enter Try.func88,Try.ntmps88
 go_wp2
 go_ret
 exact ⟨_,rfl,IntsV.lit [A] 1 rfl (by simp) (by omega) (by unfold maxLen;omega),KB.out.alloc _⟩
theorem tx_12 (ta fa:Option Addr) (tc fc:Nat) (ls:List (List Int)) (fs:List Fn) (fi:Nat) (hfi:fi < fs.length) (A B:Int) (w:World) (base:Nat) (hbase:base<=w.heap.size) (_ht:TypesV w base (.slice ta ls.length tc) ls) (_hf:FuncsV 107 131 w base (.slice fa fs.length fc) fs)  :
 Calls Try.prog 88 #[.agg #[.slice ta ls.length tc,.slice fa fs.length fc],fi,.agg #[(12:Int),A,B]] w fun e w' =>
  ∃ v,e=.returned v/\IntsV w' base v (ahead ls fs fs[fi] 12 A B)/\Chg () w w':=by
 have kb:Chg () w ((w.alloc (Obj.cells #[.slice ta ls.length tc,.slice fa fs.length fc] 44)).alloc (Obj.cells #[(12:Int),A,B] 131)):=((Chg.refl () w).alloc _).alloc _
 have KB:Hid _:=kb
 clear kb
 have ea:ahead ls fs fs[fi] 12 A B=[A,A]:=by simp [ahead]
 rw [ea]
 clear ea
 go_enter Try.func88,Try.ntmps88
 go_wp2
 go_ret
 exact ⟨_,rfl,IntsV.lit [A,A] 2 rfl (by simp) (by omega) (by unfold maxLen;omega),KB.out.alloc _⟩
theorem tx_13 (ta fa:Option Addr) (tc fc:Nat) (ls:List (List Int)) (fs:List Fn) (fi:Nat) (hfi:fi < fs.length) (A B:Int) (w:World) (base:Nat) (_hbase:base<=w.heap.size) (_ht:TypesV w base (.slice ta ls.length tc) ls) (_hf:FuncsV 107 131 w base (.slice fa fs.length fc) fs)  :
 Calls Try.prog 88 #[.agg #[.slice ta ls.length tc,.slice fa fs.length fc],fi,.agg #[(13:Int),A,B]] w fun e w' =>
  ∃ v,e=.returned v/\IntsV w' base v (ahead ls fs fs[fi] 13 A B)/\Chg () w w':=by
 have kb:Chg () w ((w.alloc (Obj.cells #[.slice ta ls.length tc,.slice fa fs.length fc] 44)).alloc (Obj.cells #[(13:Int),A,B] 131)):=((Chg.refl () w).alloc _).alloc _
 have KB:Hid _:=kb
 clear kb
 have ea:ahead ls fs fs[fi] 13 A B=[]:=by simp [ahead]
 rw [ea]
 clear ea
 go_enter Try.func88,Try.ntmps88
 go_wp2
 go_ret
 exact ⟨_,rfl,World.ownsRow_nil _ _ _ _,KB.out⟩
theorem tx_14 (ta fa:Option Addr) (tc fc:Nat) (ls:List (List Int)) (fs:List Fn) (fi:Nat) (hfi:fi < fs.length) (A B:Int) (w:World) (base:Nat) (hbase:base<=w.heap.size) (_ht:TypesV w base (.slice ta ls.length tc) ls) (_hf:FuncsV 107 131 w base (.slice fa fs.length fc) fs)  :
 Calls Try.prog 88 #[.agg #[.slice ta ls.length tc,.slice fa fs.length fc],fi,.agg #[(14:Int),A,B]] w fun e w' =>
  ∃ v,e=.returned v/\IntsV w' base v (ahead ls fs fs[fi] 14 A B)/\Chg () w w':=by
 have kb:Chg () w ((w.alloc (Obj.cells #[.slice ta ls.length tc,.slice fa fs.length fc] 44)).alloc (Obj.cells #[(14:Int),A,B] 131)):=((Chg.refl () w).alloc _).alloc _
 have KB:Hid _:=kb
 clear kb
 have ea:ahead ls fs fs[fi] 14 A B=[0]:=by simp [ahead]
 rw [ea]
 clear ea
 go_enter Try.func88,Try.ntmps88
 go_wp2
 go_ret
 exact ⟨_,rfl,IntsV.lit [0] 1 rfl (by simp) (by omega) (by unfold maxLen;omega),KB.out.alloc _⟩
theorem tx_15 (ta fa:Option Addr) (tc fc:Nat) (ls:List (List Int)) (fs:List Fn) (fi:Nat) (hfi:fi < fs.length) (A B:Int) (w:World) (base:Nat) (_hbase:base<=w.heap.size) (_ht:TypesV w base (.slice ta ls.length tc) ls) (hf:FuncsV 107 131 w base (.slice fa fs.length fc) fs) (hA:0<=A/\A < (fs.length:Int)) (hargs:∀ f ∈ fs,0<=f.args/\f.args<=(f.locals.length:Int)) :
 Calls Try.prog 88 #[.agg #[.slice ta ls.length tc,.slice fa fs.length fc],fi,.agg #[(15:Int),A,B]] w fun e w' =>
  ∃ v,e=.returned v/\IntsV w' base v (ahead ls fs fs[fi] 15 A B)/\Chg () w w':=by
 have kb:Chg () w ((w.alloc (Obj.cells #[.slice ta ls.length tc,.slice fa fs.length fc] 44)).alloc (Obj.cells #[(15:Int),A,B] 131)):=((Chg.refl () w).alloc _).alloc _
 have KB:Hid _:=kb
 clear kb
 obtain ⟨a,rfl⟩:∃ a:Nat,A=(a:Int):=⟨A.toNat,by omega⟩
 have ha:a < fs.length:=by omega
 obtain ⟨g,cap,hv,hle,hcells⟩:=(hf.chg KB.out (fun _ _ _ e=>e) (fun _ _ _ e=>e) (fun _ _ _ e=>e)).formS (by omega)
 simp only [Value.slice.injEq] at hv
 obtain ⟨rfl,_,rfl⟩:=hv
 obtain ⟨lv,cv,c0,c1,c2,_,hl,_⟩:=hcells a ha
 clear hcells
 have hb:=hargs fs[a] (List.getElem_mem ha)
 obtain ⟨x,hx⟩:∃ x:Nat,fs[a].args=(x:Int):=⟨fs[a].args.toNat,by omega⟩
 have ex:fs[a].args.toNat=x:=by omega
 obtain ⟨la,lc,rfl⟩:=hl.slice
 have hm:fs[a].locals.length<=lc/\(la=none->x=0/\lc=0):=by
  rcases hl.2 with ⟨hv,h0⟩ | ⟨g',cap',cur,hv,_,_,hle,_⟩
  ·simp only [Value.slice.injEq] at hv
   obtain ⟨rfl,h3,rfl⟩:=hv
   exact ⟨by omega,fun _=>⟨by omega,rfl⟩⟩
  ·simp only [Value.slice.injEq] at hv
   obtain ⟨rfl,_,rfl⟩:=hv
   exact ⟨hle,fun e=>by cases e⟩
 have hu:=hl.take x (by omega) hm.2
 have ea':=argsF_in fs a ha hb
 rw [ex] at ea'
 rw [hx] at c0
 have ha':(a:Int) < (fs.length:Int):=by omega
 have hm1:(x:Int)<=(lc:Int):=by omega
 have hm0:=hm.2
 clear hA hb hm
 have ea:ahead ls fs fs[fi] 15 (a:Int) B=fs[a].locals.take x:=by simp [ahead,ea']
 rw [ea]
 clear ea
 go_enter Try.func88,Try.ntmps88
 have k0:=KB.out
 have b0:Blk ((w.alloc (Obj.cells #[.slice ta ls.length tc,.slice g fs.length fc] 44)).alloc (Obj.cells #[(15:Int),a,B] 131)) w.heap.size #[.slice ta ls.length tc,.slice g fs.length fc] 44:=(Blk.new' rfl _ 44).alloc _
 have b1:Blk ((w.alloc (Obj.cells #[.slice ta ls.length tc,.slice g fs.length fc] 44)).alloc (Obj.cells #[(15:Int),a,B] 131)) (w.heap.size+1) #[(15:Int),a,B] 131:=Blk.new' (by simp) _ 131
 clear KB
 go_wp2_with fail
 generalize ((w.alloc (Obj.cells #[.slice ta ls.length tc,.slice g fs.length fc] 44)).alloc (Obj.cells #[(15:Int),a,B] 131))=W at *
 have y0:W.cell? ⟨w.heap.size,0,none⟩=some (.slice ta ls.length tc):=b0.cell 0
 have y1:W.cell? ⟨w.heap.size,1,none⟩=some (.slice g fs.length fc):=b0.cell 1
 have y2:W.cell? ⟨w.heap.size+1,1,none⟩=some (.int .i64 ((a:Int))):=b1.cell 1
 have y3:W.cell? ⟨w.heap.size+1,2,none⟩=some (.int .i64 (B)):=b1.cell 2
 have hWs:=k0.size
 go_quiet (fail)
 go_wp2
 go_ret
 exact ⟨_,rfl,own_drew hu,k0.drewN _⟩
theorem tx_16 (ta fa:Option Addr) (tc fc:Nat) (ls:List (List Int)) (fs:List Fn) (fi:Nat) (hfi:fi < fs.length) (A B:Int) (w:World) (base:Nat) (hbase:base<=w.heap.size) (_ht:TypesV w base (.slice ta ls.length tc) ls) (hf:FuncsV 107 131 w base (.slice fa fs.length fc) fs)  :
 Calls Try.prog 88 #[.agg #[.slice ta ls.length tc,.slice fa fs.length fc],fi,.agg #[(16:Int),A,B]] w fun e w' =>
  ∃ v,e=.returned v/\IntsV w' base v (ahead ls fs fs[fi] 16 A B)/\Chg () w w':=by
 have kb:Chg () w ((w.alloc (Obj.cells #[.slice ta ls.length tc,.slice fa fs.length fc] 44)).alloc (Obj.cells #[(16:Int),A,B] 131)):=((Chg.refl () w).alloc _).alloc _
 have KB:Hid _:=kb
 clear kb
 obtain ⟨g,cap,hv,hle,hcells⟩:=(hf.chg KB.out (fun _ _ _ e=>e) (fun _ _ _ e=>e) (fun _ _ _ e=>e)).formS (by omega)
 simp only [Value.slice.injEq] at hv
 obtain ⟨rfl,_,rfl⟩:=hv
 obtain ⟨lv,cv,c0,c1,c2,_,hl,_⟩:=hcells fi hfi
 clear hcells
 have hfi':(fi:Int) < (fs.length:Int):=by omega
 have ea:ahead ls fs fs[fi] 16 A B=[fs[fi].result]:=by simp [ahead]
 rw [ea]
 clear ea
 go_enter Try.func88,Try.ntmps88
 go_wp2
 go_ret
 exact ⟨_,rfl,IntsV.lit [fs[fi].result] 1 rfl (by simp) (by omega) (by unfold maxLen;omega),KB.out.alloc _⟩
theorem tx_17 (ta fa:Option Addr) (tc fc:Nat) (ls:List (List Int)) (fs:List Fn) (fi:Nat) (hfi:fi < fs.length) (A B:Int) (w:World) (base:Nat) (hbase:base<=w.heap.size) (_ht:TypesV w base (.slice ta ls.length tc) ls) (_hf:FuncsV 107 131 w base (.slice fa fs.length fc) fs)  :
 Calls Try.prog 88 #[.agg #[.slice ta ls.length tc,.slice fa fs.length fc],fi,.agg #[(17:Int),A,B]] w fun e w' =>
  ∃ v,e=.returned v/\IntsV w' base v (ahead ls fs fs[fi] 17 A B)/\Chg () w w':=by
 have kb:Chg () w ((w.alloc (Obj.cells #[.slice ta ls.length tc,.slice fa fs.length fc] 44)).alloc (Obj.cells #[(17:Int),A,B] 131)):=((Chg.refl () w).alloc _).alloc _
 have KB:Hid _:=kb
 clear kb
 have ea:ahead ls fs fs[fi] 17 A B=[0]:=by simp [ahead]
 rw [ea]
 clear ea
 go_enter Try.func88,Try.ntmps88
 go_wp2
 go_ret
 exact ⟨_,rfl,IntsV.lit [0] 1 rfl (by simp) (by omega) (by unfold maxLen;omega),KB.out.alloc _⟩
theorem tx_18 (ta fa:Option Addr) (tc fc:Nat) (ls:List (List Int)) (fs:List Fn) (fi:Nat) (hfi:fi < fs.length) (A B:Int) (w:World) (base:Nat) (_hbase:base<=w.heap.size) (_ht:TypesV w base (.slice ta ls.length tc) ls) (_hf:FuncsV 107 131 w base (.slice fa fs.length fc) fs)  :
 Calls Try.prog 88 #[.agg #[.slice ta ls.length tc,.slice fa fs.length fc],fi,.agg #[(18:Int),A,B]] w fun e w' =>
  ∃ v,e=.returned v/\IntsV w' base v (ahead ls fs fs[fi] 18 A B)/\Chg () w w':=by
 have kb:Chg () w ((w.alloc (Obj.cells #[.slice ta ls.length tc,.slice fa fs.length fc] 44)).alloc (Obj.cells #[(18:Int),A,B] 131)):=((Chg.refl () w).alloc _).alloc _
 have KB:Hid _:=kb
 clear kb
 have ea:ahead ls fs fs[fi] 18 A B=[]:=by simp [ahead]
 rw [ea]
 clear ea
 go_enter Try.func88,Try.ntmps88
 go_wp2
 go_ret
 exact ⟨_,rfl,World.ownsRow_nil _ _ _ _,KB.out⟩
theorem lx_0 (ta fa:Option Addr) (tc fc:Nat) (ls:List (List Int)) (fs:List Fn) (fi:Nat) (hfi:fi < fs.length) (A B:Int) (w:World) (base:Nat) (hbase:base<=w.heap.size) (_ht:TypesV w base (.slice ta ls.length tc) ls) (_hf:FuncsV 107 131 w base (.slice fa fs.length fc) fs)  :
 Calls Try.prog 89 #[.agg #[.slice ta ls.length tc,.slice fa fs.length fc],fi,.agg #[oO,A,B]] w fun e w' =>
  ∃ v,e=.returned v/\IntsV w' base v (behind ls fs fs[fi] 0 A B)/\Chg () w w':=by
 have kb:Chg () w ((w.alloc (Obj.cells #[.slice ta ls.length tc,.slice fa fs.length fc] 44)).alloc (Obj.cells #[oO,A,B] 131)):=((Chg.refl () w).alloc _).alloc _
 have KB:Hid _:=kb
 clear kb
 have ea:behind ls fs fs[fi] 0 A B=[0]:=by simp [behind]
 rw [ea]
 clear ea
 go_enter Try.func89,Try.ntmps89
 go_wp2
 go_ret
 exact ⟨_,rfl,IntsV.lit [0] 1 rfl (by simp) (by omega) (by unfold maxLen;omega),KB.out.alloc _⟩
theorem lx_1 (ta fa:Option Addr) (tc fc:Nat) (ls:List (List Int)) (fs:List Fn) (fi:Nat) (hfi:fi < fs.length) (A B:Int) (w:World) (base:Nat) (hbase:base<=w.heap.size) (_ht:TypesV w base (.slice ta ls.length tc) ls) (_hf:FuncsV 107 131 w base (.slice fa fs.length fc) fs)  :
 Calls Try.prog 89 #[.agg #[.slice ta ls.length tc,.slice fa fs.length fc],fi,.agg #[(1:Int),A,B]] w fun e w' =>
  ∃ v,e=.returned v/\IntsV w' base v (behind ls fs fs[fi] 1 A B)/\Chg () w w':=by
 have kb:Chg () w ((w.alloc (Obj.cells #[.slice ta ls.length tc,.slice fa fs.length fc] 44)).alloc (Obj.cells #[(1:Int),A,B] 131)):=((Chg.refl () w).alloc _).alloc _
 have KB:Hid _:=kb
 clear kb
 have ea:behind ls fs fs[fi] 1 A B=[0]:=by simp [behind]
 rw [ea]
 clear ea
 go_enter Try.func89,Try.ntmps89
 go_wp2
 go_ret
 exact ⟨_,rfl,IntsV.lit [0] 1 rfl (by simp) (by omega) (by unfold maxLen;omega),KB.out.alloc _⟩
theorem lx_2 (ta fa:Option Addr) (tc fc:Nat) (ls:List (List Int)) (fs:List Fn) (fi:Nat) (hfi:fi < fs.length) (A B:Int) (w:World) (base:Nat) (hbase:base<=w.heap.size) (_ht:TypesV w base (.slice ta ls.length tc) ls) (_hf:FuncsV 107 131 w base (.slice fa fs.length fc) fs)  :
 Calls Try.prog 89 #[.agg #[.slice ta ls.length tc,.slice fa fs.length fc],fi,.agg #[(2:Int),A,B]] w fun e w' =>
  ∃ v,e=.returned v/\IntsV w' base v (behind ls fs fs[fi] 2 A B)/\Chg () w w':=by
 have kb:Chg () w ((w.alloc (Obj.cells #[.slice ta ls.length tc,.slice fa fs.length fc] 44)).alloc (Obj.cells #[(2:Int),A,B] 131)):=((Chg.refl () w).alloc _).alloc _
 have KB:Hid _:=kb
 clear kb
 have ea:behind ls fs fs[fi] 2 A B=[0]:=by simp [behind]
 rw [ea]
 clear ea
 go_enter Try.func89,Try.ntmps89
 go_wp2
 go_ret
 exact ⟨_,rfl,IntsV.lit [0] 1 rfl (by simp) (by omega) (by unfold maxLen;omega),KB.out.alloc _⟩
theorem lx_3 (ta fa:Option Addr) (tc fc:Nat) (ls:List (List Int)) (fs:List Fn) (fi:Nat) (hfi:fi < fs.length) (A B:Int) (w:World) (base:Nat) (hbase:base<=w.heap.size) (_ht:TypesV w base (.slice ta ls.length tc) ls) (_hf:FuncsV 107 131 w base (.slice fa fs.length fc) fs)  :
 Calls Try.prog 89 #[.agg #[.slice ta ls.length tc,.slice fa fs.length fc],fi,.agg #[(3:Int),A,B]] w fun e w' =>
  ∃ v,e=.returned v/\IntsV w' base v (behind ls fs fs[fi] 3 A B)/\Chg () w w':=by
 have kb:Chg () w ((w.alloc (Obj.cells #[.slice ta ls.length tc,.slice fa fs.length fc] 44)).alloc (Obj.cells #[(3:Int),A,B] 131)):=((Chg.refl () w).alloc _).alloc _
 have KB:Hid _:=kb
 clear kb
 have ea:behind ls fs fs[fi] 3 A B=[0]:=by simp [behind]
 rw [ea]
 clear ea
 go_enter Try.func89,Try.ntmps89
 go_wp2
 go_ret
 exact ⟨_,rfl,IntsV.lit [0] 1 rfl (by simp) (by omega) (by unfold maxLen;omega),KB.out.alloc _⟩
theorem lx_4 (ta fa:Option Addr) (tc fc:Nat) (ls:List (List Int)) (fs:List Fn) (fi:Nat) (hfi:fi < fs.length) (A B:Int) (w:World) (base:Nat) (hbase:base<=w.heap.size) (_ht:TypesV w base (.slice ta ls.length tc) ls) (_hf:FuncsV 107 131 w base (.slice fa fs.length fc) fs)  :
 Calls Try.prog 89 #[.agg #[.slice ta ls.length tc,.slice fa fs.length fc],fi,.agg #[(4:Int),A,B]] w fun e w' =>
  ∃ v,e=.returned v/\IntsV w' base v (behind ls fs fs[fi] 4 A B)/\Chg () w w':=by
 have kb:Chg () w ((w.alloc (Obj.cells #[.slice ta ls.length tc,.slice fa fs.length fc] 44)).alloc (Obj.cells #[(4:Int),A,B] 131)):=((Chg.refl () w).alloc _).alloc _
 have KB:Hid _:=kb
 clear kb
 have ea:behind ls fs fs[fi] 4 A B=[0]:=by simp [behind]
 rw [ea]
 clear ea
 go_enter Try.func89,Try.ntmps89
 go_wp2
 go_ret
 exact ⟨_,rfl,IntsV.lit [0] 1 rfl (by simp) (by omega) (by unfold maxLen;omega),KB.out.alloc _⟩
theorem lx_5 (ta fa:Option Addr) (tc fc:Nat) (ls:List (List Int)) (fs:List Fn) (fi:Nat) (hfi:fi < fs.length) (A B:Int) (w:World) (base:Nat) (hbase:base<=w.heap.size) (_ht:TypesV w base (.slice ta ls.length tc) ls) (hf:FuncsV 107 131 w base (.slice fa fs.length fc) fs) (hA:0<=A/\A < (fs[fi].locals.length:Int)) :
 Calls Try.prog 89 #[.agg #[.slice ta ls.length tc,.slice fa fs.length fc],fi,.agg #[(5:Int),A,B]] w fun e w' =>
  ∃ v,e=.returned v/\IntsV w' base v (behind ls fs fs[fi] 5 A B)/\Chg () w w':=by
 have kb:Chg () w ((w.alloc (Obj.cells #[.slice ta ls.length tc,.slice fa fs.length fc] 44)).alloc (Obj.cells #[(5:Int),A,B] 131)):=((Chg.refl () w).alloc _).alloc _
 have KB:Hid _:=kb
 clear kb
 obtain ⟨a,rfl⟩:∃ a:Nat,A=(a:Int):=⟨A.toNat,by omega⟩
 obtain ⟨g,cap,hv,hle,hcells⟩:=(hf.chg KB.out (fun _ _ _ e=>e) (fun _ _ _ e=>e) (fun _ _ _ e=>e)).formS (by omega)
 simp only [Value.slice.injEq] at hv
 obtain ⟨rfl,_,rfl⟩:=hv
 obtain ⟨lv,cv,c0,c1,c2,_,hl,_⟩:=hcells fi hfi
 clear hcells
 obtain ⟨gl,lc,rfl,_,hle2,_,lcs⟩:=hl.form (by omega)
 have c3:=lcs a (by omega)
 have ha:(a:Int) < (fs[fi].locals.length:Int):=hA.2
 have hfi':(fi:Int) < (fs.length:Int):=by omega
 clear lcs hA
 have ea:behind ls fs fs[fi] 5 (a:Int) B=[fs[fi].locals.getD a 0]:=by simp [behind,tyAt_in fs[fi].locals a (by omega)]
 rw [ea]
 clear ea
 go_enter Try.func89,Try.ntmps89
 have k0:=KB.out
 have b0:Blk ((w.alloc (Obj.cells #[.slice ta ls.length tc,.slice g fs.length fc] 44)).alloc (Obj.cells #[(5:Int),a,B] 131)) w.heap.size #[.slice ta ls.length tc,.slice g fs.length fc] 44:=(Blk.new' rfl _ 44).alloc _
 have b1:Blk ((w.alloc (Obj.cells #[.slice ta ls.length tc,.slice g fs.length fc] 44)).alloc (Obj.cells #[(5:Int),a,B] 131)) (w.heap.size+1) #[(5:Int),a,B] 131:=Blk.new' (by simp) _ 131
 clear KB
 go_wp2_with fail
 generalize ((w.alloc (Obj.cells #[.slice ta ls.length tc,.slice g fs.length fc] 44)).alloc (Obj.cells #[(5:Int),a,B] 131))=W at *
 have y0:W.cell? ⟨w.heap.size,0,none⟩=some (.slice ta ls.length tc):=b0.cell 0
 have y1:W.cell? ⟨w.heap.size,1,none⟩=some (.slice g fs.length fc):=b0.cell 1
 have y2:W.cell? ⟨w.heap.size+1,1,none⟩=some (.int .i64 ((a:Int))):=b1.cell 1
 have y3:W.cell? ⟨w.heap.size+1,2,none⟩=some (.int .i64 (B)):=b1.cell 2
 have hWs:=k0.size
 go_region
 all_goals
  go_wp2
  go_ret
  exact ⟨.slice W.heap.size 1 1,rfl,own_drew (IntsV.lit (W:=W) (base:=base) [fs[fi].locals.getD a 0] 1 rfl rfl (by omega) (by unfold maxLen;omega)),((k0.alloc _).drew)⟩
theorem lx_6 (ta fa:Option Addr) (tc fc:Nat) (ls:List (List Int)) (fs:List Fn) (fi:Nat) (hfi:fi < fs.length) (A B:Int) (w:World) (base:Nat) (_hbase:base<=w.heap.size) (_ht:TypesV w base (.slice ta ls.length tc) ls) (_hf:FuncsV 107 131 w base (.slice fa fs.length fc) fs)  :
 Calls Try.prog 89 #[.agg #[.slice ta ls.length tc,.slice fa fs.length fc],fi,.agg #[(6:Int),A,B]] w fun e w' =>
  ∃ v,e=.returned v/\IntsV w' base v (behind ls fs fs[fi] 6 A B)/\Chg () w w':=by
 have kb:Chg () w ((w.alloc (Obj.cells #[.slice ta ls.length tc,.slice fa fs.length fc] 44)).alloc (Obj.cells #[(6:Int),A,B] 131)):=((Chg.refl () w).alloc _).alloc _
 have KB:Hid _:=kb
 clear kb
 have ea:behind ls fs fs[fi] 6 A B=[]:=by simp [behind]
 rw [ea]
 clear ea
 go_enter Try.func89,Try.ntmps89
 go_wp2
 go_ret
 exact ⟨_,rfl,World.ownsRow_nil _ _ _ _,KB.out⟩
theorem lx_7 (ta fa:Option Addr) (tc fc:Nat) (ls:List (List Int)) (fs:List Fn) (fi:Nat) (hfi:fi < fs.length) (A B:Int) (w:World) (base:Nat) (hbase:base<=w.heap.size) (_ht:TypesV w base (.slice ta ls.length tc) ls) (_hf:FuncsV 107 131 w base (.slice fa fs.length fc) fs)  :
 Calls Try.prog 89 #[.agg #[.slice ta ls.length tc,.slice fa fs.length fc],fi,.agg #[(7:Int),A,B]] w fun e w' =>
  ∃ v,e=.returned v/\IntsV w' base v (behind ls fs fs[fi] 7 A B)/\Chg () w w':=by
 have kb:Chg () w ((w.alloc (Obj.cells #[.slice ta ls.length tc,.slice fa fs.length fc] 44)).alloc (Obj.cells #[(7:Int),A,B] 131)):=((Chg.refl () w).alloc _).alloc _
 have KB:Hid _:=kb
 clear kb
 have ea:behind ls fs fs[fi] 7 A B=[A]:=by simp [behind]
 rw [ea]
 clear ea
 go_enter Try.func89,Try.ntmps89
 go_wp2
 go_ret
 exact ⟨_,rfl,IntsV.lit [A] 1 rfl (by simp) (by omega) (by unfold maxLen;omega),KB.out.alloc _⟩
theorem lx_8 (ta fa:Option Addr) (tc fc:Nat) (ls:List (List Int)) (fs:List Fn) (fi:Nat) (hfi:fi < fs.length) (A B:Int) (w:World) (base:Nat) (hbase:base<=w.heap.size) (ht:TypesV w base (.slice ta ls.length tc) ls) (_hf:FuncsV 107 131 w base (.slice fa fs.length fc) fs) (hn:ls.length<=10000) (hA:1<=A/\A<=(ls.length:Int)) (hB:0<=B/\B < ((flds ls A).length:Int)) :
 Calls Try.prog 89 #[.agg #[.slice ta ls.length tc,.slice fa fs.length fc],fi,.agg #[(8:Int),A,B]] w fun e w' =>
  ∃ v,e=.returned v/\IntsV w' base v (behind ls fs fs[fi] 8 A B)/\Chg () w w':=by
 have kb:Chg () w ((w.alloc (Obj.cells #[.slice ta ls.length tc,.slice fa fs.length fc] 44)).alloc (Obj.cells #[(8:Int),A,B] 131)):=((Chg.refl () w).alloc _).alloc _
 have KB:Hid _:=kb
 clear kb
 obtain ⟨a,rfl⟩:∃ a:Nat,A=(a:Int)+1:=⟨(A - 1).toNat,by omega⟩
 obtain ⟨b,rfl⟩:∃ b:Nat,B=(b:Int):=⟨B.toNat,by omega⟩
 have eL:=flds_in ls a (by omega)
 rw [eL] at hB
 obtain ⟨gt,capt,u,hv,hle,ct,hu⟩:=(ht.new KB.out).cell a (by omega)
 simp only [Value.slice.injEq] at hv
 obtain ⟨rfl,_,rfl⟩:=hv
 generalize ls.getD a []=L at *
 obtain ⟨gu,uc,rfl,_,hle2,_,ucs⟩:=hu.form (by omega)
 have c3:=ucs b (by omega)
 have ha:(a:Int) < (ls.length:Int):=by omega
 have hb:(b:Int) < (L.length:Int):=hB.2
 have eT:=tyAt_in L b (by omega)
 clear ucs hA hB
 have ea:behind ls fs fs[fi] 8 ((a:Int)+1) (b:Int)=[L.getD b 0]:=by simp [behind,eL,eT]
 rw [ea]
 clear ea
 go_enter Try.func89,Try.ntmps89
 have k0:=KB.out
 have b0:Blk ((w.alloc (Obj.cells #[.slice gt ls.length tc,.slice fa fs.length fc] 44)).alloc (Obj.cells #[(8:Int),((a:Int)+1:Int),b] 131)) w.heap.size #[.slice gt ls.length tc,.slice fa fs.length fc] 44:=(Blk.new' rfl _ 44).alloc _
 have b1:Blk ((w.alloc (Obj.cells #[.slice gt ls.length tc,.slice fa fs.length fc] 44)).alloc (Obj.cells #[(8:Int),((a:Int)+1:Int),b] 131)) (w.heap.size+1) #[(8:Int),((a:Int)+1:Int),b] 131:=Blk.new' (by simp) _ 131
 clear KB
 clear eL eT
 go_wp2_with fail
 generalize ((w.alloc (Obj.cells #[.slice gt ls.length tc,.slice fa fs.length fc] 44)).alloc (Obj.cells #[(8:Int),((a:Int)+1:Int),b] 131))=W at *
 have y0:W.cell? ⟨w.heap.size,0,none⟩=some (.slice gt ls.length tc):=b0.cell 0
 have y1:W.cell? ⟨w.heap.size,1,none⟩=some (.slice fa fs.length fc):=b0.cell 1
 have y2:W.cell? ⟨w.heap.size+1,1,none⟩=some (.int .i64 (((a:Int)+1))):=b1.cell 1
 have y3:W.cell? ⟨w.heap.size+1,2,none⟩=some (.int .i64 ((b:Int))):=b1.cell 2
 have hWs:=k0.size
 go_region
 all_goals
  go_wp2
  go_ret
  exact ⟨.slice W.heap.size 1 1,rfl,own_drew (IntsV.lit (W:=W) (base:=base) [L.getD b 0] 1 rfl rfl (by omega) (by unfold maxLen;omega)),((k0.alloc _).drew)⟩
theorem lx_9 (ta fa:Option Addr) (tc fc:Nat) (ls:List (List Int)) (fs:List Fn) (fi:Nat) (hfi:fi < fs.length) (A B:Int) (w:World) (base:Nat) (_hbase:base<=w.heap.size) (_ht:TypesV w base (.slice ta ls.length tc) ls) (_hf:FuncsV 107 131 w base (.slice fa fs.length fc) fs)  :
 Calls Try.prog 89 #[.agg #[.slice ta ls.length tc,.slice fa fs.length fc],fi,.agg #[(9:Int),A,B]] w fun e w' =>
  ∃ v,e=.returned v/\IntsV w' base v (behind ls fs fs[fi] 9 A B)/\Chg () w w':=by
 have kb:Chg () w ((w.alloc (Obj.cells #[.slice ta ls.length tc,.slice fa fs.length fc] 44)).alloc (Obj.cells #[(9:Int),A,B] 131)):=((Chg.refl () w).alloc _).alloc _
 have KB:Hid _:=kb
 clear kb
 have ea:behind ls fs fs[fi] 9 A B=[]:=by simp [behind]
 rw [ea]
 clear ea
 go_enter Try.func89,Try.ntmps89
 go_wp2
 go_ret
 exact ⟨_,rfl,World.ownsRow_nil _ _ _ _,KB.out⟩
theorem lx_10 (ta fa:Option Addr) (tc fc:Nat) (ls:List (List Int)) (fs:List Fn) (fi:Nat) (hfi:fi < fs.length) (A B:Int) (w:World) (base:Nat) (hbase:base<=w.heap.size) (_ht:TypesV w base (.slice ta ls.length tc) ls) (_hf:FuncsV 107 131 w base (.slice fa fs.length fc) fs)  :
 Calls Try.prog 89 #[.agg #[.slice ta ls.length tc,.slice fa fs.length fc],fi,.agg #[(10:Int),A,B]] w fun e w' =>
  ∃ v,e=.returned v/\IntsV w' base v (behind ls fs fs[fi] 10 A B)/\Chg () w w':=by
 have kb:Chg () w ((w.alloc (Obj.cells #[.slice ta ls.length tc,.slice fa fs.length fc] 44)).alloc (Obj.cells #[(10:Int),A,B] 131)):=((Chg.refl () w).alloc _).alloc _
 have KB:Hid _:=kb
 clear kb
 have ea:behind ls fs fs[fi] 10 A B=[A]:=by simp [behind]
 rw [ea]
 clear ea
 go_enter Try.func89,Try.ntmps89
 go_wp2
 go_ret
 exact ⟨_,rfl,IntsV.lit [A] 1 rfl (by simp) (by omega) (by unfold maxLen;omega),KB.out.alloc _⟩
theorem lx_11 (ta fa:Option Addr) (tc fc:Nat) (ls:List (List Int)) (fs:List Fn) (fi:Nat) (hfi:fi < fs.length) (A B:Int) (w:World) (base:Nat) (hbase:base<=w.heap.size) (_ht:TypesV w base (.slice ta ls.length tc) ls) (_hf:FuncsV 107 131 w base (.slice fa fs.length fc) fs)  :
 Calls Try.prog 89 #[.agg #[.slice ta ls.length tc,.slice fa fs.length fc],fi,.agg #[(11:Int),A,B]] w fun e w' =>
  ∃ v,e=.returned v/\IntsV w' base v (behind ls fs fs[fi] 11 A B)/\Chg () w w':=by
 have kb:Chg () w ((w.alloc (Obj.cells #[.slice ta ls.length tc,.slice fa fs.length fc] 44)).alloc (Obj.cells #[(11:Int),A,B] 131)):=((Chg.refl () w).alloc _).alloc _
 have KB:Hid _:=kb
 clear kb
 have ea:behind ls fs fs[fi] 11 A B=[0]:=by simp [behind]
 rw [ea]
 clear ea
 go_enter Try.func89,Try.ntmps89
 go_wp2
 go_ret
 exact ⟨_,rfl,IntsV.lit [0] 1 rfl (by simp) (by omega) (by unfold maxLen;omega),KB.out.alloc _⟩
theorem lx_12 (ta fa:Option Addr) (tc fc:Nat) (ls:List (List Int)) (fs:List Fn) (fi:Nat) (hfi:fi < fs.length) (A B:Int) (w:World) (base:Nat) (hbase:base<=w.heap.size) (_ht:TypesV w base (.slice ta ls.length tc) ls) (_hf:FuncsV 107 131 w base (.slice fa fs.length fc) fs)  :
 Calls Try.prog 89 #[.agg #[.slice ta ls.length tc,.slice fa fs.length fc],fi,.agg #[(12:Int),A,B]] w fun e w' =>
  ∃ v,e=.returned v/\IntsV w' base v (behind ls fs fs[fi] 12 A B)/\Chg () w w':=by
 have kb:Chg () w ((w.alloc (Obj.cells #[.slice ta ls.length tc,.slice fa fs.length fc] 44)).alloc (Obj.cells #[(12:Int),A,B] 131)):=((Chg.refl () w).alloc _).alloc _
 have KB:Hid _:=kb
 clear kb
 have ea:behind ls fs fs[fi] 12 A B=[0]:=by simp [behind]
 rw [ea]
 clear ea
 go_enter Try.func89,Try.ntmps89
 go_wp2
 go_ret
 exact ⟨_,rfl,IntsV.lit [0] 1 rfl (by simp) (by omega) (by unfold maxLen;omega),KB.out.alloc _⟩
theorem lx_13 (ta fa:Option Addr) (tc fc:Nat) (ls:List (List Int)) (fs:List Fn) (fi:Nat) (hfi:fi < fs.length) (A B:Int) (w:World) (base:Nat) (_hbase:base<=w.heap.size) (_ht:TypesV w base (.slice ta ls.length tc) ls) (_hf:FuncsV 107 131 w base (.slice fa fs.length fc) fs)  :
 Calls Try.prog 89 #[.agg #[.slice ta ls.length tc,.slice fa fs.length fc],fi,.agg #[(13:Int),A,B]] w fun e w' =>
  ∃ v,e=.returned v/\IntsV w' base v (behind ls fs fs[fi] 13 A B)/\Chg () w w':=by
 have kb:Chg () w ((w.alloc (Obj.cells #[.slice ta ls.length tc,.slice fa fs.length fc] 44)).alloc (Obj.cells #[(13:Int),A,B] 131)):=((Chg.refl () w).alloc _).alloc _
 have KB:Hid _:=kb
 clear kb
 have ea:behind ls fs fs[fi] 13 A B=[]:=by simp [behind]
 rw [ea]
 clear ea
 go_enter Try.func89,Try.ntmps89
 go_wp2
 go_ret
 exact ⟨_,rfl,World.ownsRow_nil _ _ _ _,KB.out⟩
theorem lx_14 (ta fa:Option Addr) (tc fc:Nat) (ls:List (List Int)) (fs:List Fn) (fi:Nat) (hfi:fi < fs.length) (A B:Int) (w:World) (base:Nat) (_hbase:base<=w.heap.size) (_ht:TypesV w base (.slice ta ls.length tc) ls) (_hf:FuncsV 107 131 w base (.slice fa fs.length fc) fs)  :
 Calls Try.prog 89 #[.agg #[.slice ta ls.length tc,.slice fa fs.length fc],fi,.agg #[(14:Int),A,B]] w fun e w' =>
  ∃ v,e=.returned v/\IntsV w' base v (behind ls fs fs[fi] 14 A B)/\Chg () w w':=by
 have kb:Chg () w ((w.alloc (Obj.cells #[.slice ta ls.length tc,.slice fa fs.length fc] 44)).alloc (Obj.cells #[(14:Int),A,B] 131)):=((Chg.refl () w).alloc _).alloc _
 have KB:Hid _:=kb
 clear kb
 have ea:behind ls fs fs[fi] 14 A B=[]:=by simp [behind]
 rw [ea]
 clear ea
 go_enter Try.func89,Try.ntmps89
 go_wp2
 go_ret
 exact ⟨_,rfl,World.ownsRow_nil _ _ _ _,KB.out⟩
theorem lx_15 (ta fa:Option Addr) (tc fc:Nat) (ls:List (List Int)) (fs:List Fn) (fi:Nat) (hfi:fi < fs.length) (A B:Int) (w:World) (base:Nat) (hbase:base<=w.heap.size) (_ht:TypesV w base (.slice ta ls.length tc) ls) (hf:FuncsV 107 131 w base (.slice fa fs.length fc) fs) (hA:0<=A/\A < (fs.length:Int)) :
 Calls Try.prog 89 #[.agg #[.slice ta ls.length tc,.slice fa fs.length fc],fi,.agg #[(15:Int),A,B]] w fun e w' =>
  ∃ v,e=.returned v/\IntsV w' base v (behind ls fs fs[fi] 15 A B)/\Chg () w w':=by
 have kb:Chg () w ((w.alloc (Obj.cells #[.slice ta ls.length tc,.slice fa fs.length fc] 44)).alloc (Obj.cells #[(15:Int),A,B] 131)):=((Chg.refl () w).alloc _).alloc _
 have KB:Hid _:=kb
 clear kb
 obtain ⟨a,rfl⟩:∃ a:Nat,A=(a:Int):=⟨A.toNat,by omega⟩
 have ha:a < fs.length:=by omega
 obtain ⟨g,cap,hv,hle,hcells⟩:=(hf.chg KB.out (fun _ _ _ e=>e) (fun _ _ _ e=>e) (fun _ _ _ e=>e)).formS (by omega)
 simp only [Value.slice.injEq] at hv
 obtain ⟨rfl,_,rfl⟩:=hv
 obtain ⟨lv,cv,c0,c1,c2,_,hl,_⟩:=hcells a ha
 clear hcells
 have ha':(a:Int) < (fs.length:Int):=by omega
 clear hA
 have ea:behind ls fs fs[fi] 15 (a:Int) B=[fs[a].result]:=by simp [behind,resF_in fs a ha]
 rw [ea]
 clear ea
 go_enter Try.func89,Try.ntmps89
 go_wp2
 go_ret
 exact ⟨_,rfl,IntsV.lit [fs[a].result] 1 rfl (by simp) (by omega) (by unfold maxLen;omega),KB.out.alloc _⟩
theorem lx_16 (ta fa:Option Addr) (tc fc:Nat) (ls:List (List Int)) (fs:List Fn) (fi:Nat) (hfi:fi < fs.length) (A B:Int) (w:World) (base:Nat) (_hbase:base<=w.heap.size) (_ht:TypesV w base (.slice ta ls.length tc) ls) (_hf:FuncsV 107 131 w base (.slice fa fs.length fc) fs)  :
 Calls Try.prog 89 #[.agg #[.slice ta ls.length tc,.slice fa fs.length fc],fi,.agg #[(16:Int),A,B]] w fun e w' =>
  ∃ v,e=.returned v/\IntsV w' base v (behind ls fs fs[fi] 16 A B)/\Chg () w w':=by
 have kb:Chg () w ((w.alloc (Obj.cells #[.slice ta ls.length tc,.slice fa fs.length fc] 44)).alloc (Obj.cells #[(16:Int),A,B] 131)):=((Chg.refl () w).alloc _).alloc _
 have KB:Hid _:=kb
 clear kb
 have ea:behind ls fs fs[fi] 16 A B=[]:=by simp [behind]
 rw [ea]
 clear ea
 go_enter Try.func89,Try.ntmps89
 go_wp2
 go_ret
 exact ⟨_,rfl,World.ownsRow_nil _ _ _ _,KB.out⟩
theorem lx_17 (ta fa:Option Addr) (tc fc:Nat) (ls:List (List Int)) (fs:List Fn) (fi:Nat) (hfi:fi < fs.length) (A B:Int) (w:World) (base:Nat) (_hbase:base<=w.heap.size) (_ht:TypesV w base (.slice ta ls.length tc) ls) (_hf:FuncsV 107 131 w base (.slice fa fs.length fc) fs)  :
 Calls Try.prog 89 #[.agg #[.slice ta ls.length tc,.slice fa fs.length fc],fi,.agg #[(17:Int),A,B]] w fun e w' =>
  ∃ v,e=.returned v/\IntsV w' base v (behind ls fs fs[fi] 17 A B)/\Chg () w w':=by
 have kb:Chg () w ((w.alloc (Obj.cells #[.slice ta ls.length tc,.slice fa fs.length fc] 44)).alloc (Obj.cells #[(17:Int),A,B] 131)):=((Chg.refl () w).alloc _).alloc _
 have KB:Hid _:=kb
 clear kb
 have ea:behind ls fs fs[fi] 17 A B=[]:=by simp [behind]
 rw [ea]
 clear ea
 go_enter Try.func89,Try.ntmps89
 go_wp2
 go_ret
 exact ⟨_,rfl,World.ownsRow_nil _ _ _ _,KB.out⟩
theorem lx_18 (ta fa:Option Addr) (tc fc:Nat) (ls:List (List Int)) (fs:List Fn) (fi:Nat) (hfi:fi < fs.length) (A B:Int) (w:World) (base:Nat) (hbase:base<=w.heap.size) (_ht:TypesV w base (.slice ta ls.length tc) ls) (_hf:FuncsV 107 131 w base (.slice fa fs.length fc) fs)  :
 Calls Try.prog 89 #[.agg #[.slice ta ls.length tc,.slice fa fs.length fc],fi,.agg #[(18:Int),A,B]] w fun e w' =>
  ∃ v,e=.returned v/\IntsV w' base v (behind ls fs fs[fi] 18 A B)/\Chg () w w':=by
 have kb:Chg () w ((w.alloc (Obj.cells #[.slice ta ls.length tc,.slice fa fs.length fc] 44)).alloc (Obj.cells #[(18:Int),A,B] 131)):=((Chg.refl () w).alloc _).alloc _
 have KB:Hid _:=kb
 clear kb
 have ea:behind ls fs fs[fi] 18 A B=[0]:=by simp [behind]
 rw [ea]
 clear ea
 go_enter Try.func89,Try.ntmps89
 go_wp2
 go_ret
 exact ⟨_,rfl,IntsV.lit [0] 1 rfl (by simp) (by omega) (by unfold maxLen;omega),KB.out.alloc _⟩
def OkI (ls:List (List Int)) (fs:List Fn) (f:Fn) (op A B:Int):Prop:=
 (op=5 \/ op=6->0<=A/\A < (f.locals.length:Int))/\(op=7 \/ op=8 \/ op=9->1<=A/\A<=(ls.length:Int))/\(op=8 \/ op=9->0<=B/\B < ((flds ls A).length:Int))/\(op=15->0<=A/\A < (fs.length:Int))
theorem takes_any (tv fv:Value) (ls:List (List Int)) (fs:List Fn) (fi:Nat) (hfi:fi < fs.length) (op A B:Int) (w:World) (base:Nat) (hbase:base<=w.heap.size) (ht:TypesV w base tv ls) (hf:FuncsV 107 131 w base fv fs)
 (hn:ls.length<=10000) (h1:0<=op) (h2:op<=18) (hok:OkI ls fs fs[fi] op A B) (hargs:∀ f ∈ fs,0<=f.args/\f.args<=(f.locals.length:Int)) :
 Calls Try.prog 88 #[.agg #[tv,fv],fi,.agg #[op,A,B]] w fun e w' =>
  ∃ v,e=.returned v/\IntsV w' base v (ahead ls fs fs[fi] op A B)/\Chg () w w':=by
 have hop:op=0 \/ op=1 \/ op=2 \/ op=3 \/ op=4 \/ op=5 \/ op=6 \/ op=7 \/ op=8 \/ op=9 \/ op=10 \/ op=11 \/ op=12 \/ op=13 \/ op=14 \/ op=15 \/ op=16 \/ op=17 \/ op=18:=by omega
 clear h1 h2
 obtain ⟨ta,tc,rfl⟩:=ht.slice
 obtain ⟨fa,fc,rfl⟩:=hf.slice
 rcases hop with rfl | rfl | rfl | rfl | rfl | rfl | rfl | rfl | rfl | rfl | rfl | rfl | rfl | rfl | rfl | rfl | rfl | rfl | rfl
 ·exact tx_0 ta fa tc fc ls fs fi hfi A B w base hbase ht hf
 ·exact tx_1 ta fa tc fc ls fs fi hfi A B w base hbase ht hf
 ·exact tx_2 ta fa tc fc ls fs fi hfi A B w base hbase ht hf
 ·exact tx_3 ta fa tc fc ls fs fi hfi A B w base hbase ht hf
 ·exact tx_4 ta fa tc fc ls fs fi hfi A B w base hbase ht hf
 ·exact tx_5 ta fa tc fc ls fs fi hfi A B w base hbase ht hf
 ·exact tx_6 ta fa tc fc ls fs fi hfi A B w base hbase ht hf (hok.1 (.inr rfl))
 ·exact tx_7 ta fa tc fc ls fs fi hfi A B w base hbase ht hf hn (hok.2.1 (.inl rfl))
 ·exact tx_8 ta fa tc fc ls fs fi hfi A B w base hbase ht hf
 ·exact tx_9 ta fa tc fc ls fs fi hfi A B w base hbase ht hf hn (hok.2.1 (.inr (.inr (rfl)))) (hok.2.2.1 (.inr rfl))
 ·exact tx_10 ta fa tc fc ls fs fi hfi A B w base hbase ht hf
 ·exact tx_11 ta fa tc fc ls fs fi hfi A B w base hbase ht hf
 ·exact tx_12 ta fa tc fc ls fs fi hfi A B w base hbase ht hf
 ·exact tx_13 ta fa tc fc ls fs fi hfi A B w base hbase ht hf
 ·exact tx_14 ta fa tc fc ls fs fi hfi A B w base hbase ht hf
 ·exact tx_15 ta fa tc fc ls fs fi hfi A B w base hbase ht hf (hok.2.2.2 rfl) hargs
 ·exact tx_16 ta fa tc fc ls fs fi hfi A B w base hbase ht hf
 ·exact tx_17 ta fa tc fc ls fs fi hfi A B w base hbase ht hf
 ·exact tx_18 ta fa tc fc ls fs fi hfi A B w base hbase ht hf
theorem leaves_any (tv fv:Value) (ls:List (List Int)) (fs:List Fn) (fi:Nat) (hfi:fi < fs.length) (op A B:Int) (w:World) (base:Nat) (hbase:base<=w.heap.size) (ht:TypesV w base tv ls) (hf:FuncsV 107 131 w base fv fs)
 (hn:ls.length<=10000) (h1:0<=op) (h2:op<=18) (hok:OkI ls fs fs[fi] op A B) (_hargs:∀ f ∈ fs,0<=f.args/\f.args<=(f.locals.length:Int)) :
 Calls Try.prog 89 #[.agg #[tv,fv],fi,.agg #[op,A,B]] w fun e w' =>
  ∃ v,e=.returned v/\IntsV w' base v (behind ls fs fs[fi] op A B)/\Chg () w w':=by
 have hop:op=0 \/ op=1 \/ op=2 \/ op=3 \/ op=4 \/ op=5 \/ op=6 \/ op=7 \/ op=8 \/ op=9 \/ op=10 \/ op=11 \/ op=12 \/ op=13 \/ op=14 \/ op=15 \/ op=16 \/ op=17 \/ op=18:=by omega
 clear h1 h2
 obtain ⟨ta,tc,rfl⟩:=ht.slice
 obtain ⟨fa,fc,rfl⟩:=hf.slice
 rcases hop with rfl | rfl | rfl | rfl | rfl | rfl | rfl | rfl | rfl | rfl | rfl | rfl | rfl | rfl | rfl | rfl | rfl | rfl | rfl
 ·exact lx_0 ta fa tc fc ls fs fi hfi A B w base hbase ht hf
 ·exact lx_1 ta fa tc fc ls fs fi hfi A B w base hbase ht hf
 ·exact lx_2 ta fa tc fc ls fs fi hfi A B w base hbase ht hf
 ·exact lx_3 ta fa tc fc ls fs fi hfi A B w base hbase ht hf
 ·exact lx_4 ta fa tc fc ls fs fi hfi A B w base hbase ht hf
 ·exact lx_5 ta fa tc fc ls fs fi hfi A B w base hbase ht hf (hok.1 (.inl rfl))
 ·exact lx_6 ta fa tc fc ls fs fi hfi A B w base hbase ht hf
 ·exact lx_7 ta fa tc fc ls fs fi hfi A B w base hbase ht hf
 ·exact lx_8 ta fa tc fc ls fs fi hfi A B w base hbase ht hf hn (hok.2.1 (.inr (.inl rfl))) (hok.2.2.1 (.inl rfl))
 ·exact lx_9 ta fa tc fc ls fs fi hfi A B w base hbase ht hf
 ·exact lx_10 ta fa tc fc ls fs fi hfi A B w base hbase ht hf
 ·exact lx_11 ta fa tc fc ls fs fi hfi A B w base hbase ht hf
 ·exact lx_12 ta fa tc fc ls fs fi hfi A B w base hbase ht hf
 ·exact lx_13 ta fa tc fc ls fs fi hfi A B w base hbase ht hf
 ·exact lx_14 ta fa tc fc ls fs fi hfi A B w base hbase ht hf
 ·exact lx_15 ta fa tc fc ls fs fi hfi A B w base hbase ht hf (hok.2.2.2 rfl)
 ·exact lx_16 ta fa tc fc ls fs fi hfi A B w base hbase ht hf
 ·exact lx_17 ta fa tc fc ls fs fi hfi A B w base hbase ht hf
 ·exact lx_18 ta fa tc fc ls fs fi hfi A B w base hbase ht hf
end Go.Proofs.Ytnfnbcbadakofab
