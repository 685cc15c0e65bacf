import Derived.Test.YtnfnbcbadakofaaGreatChk3
namespace Go.Proofs.YtnfnbcbadakofaaGreat
open Go.RowKit
set_option maxHeartbeats 400000
set_option maxRecDepth 100000
theorem nr (a1 a2:Option Addr) (n1 n2 c1 c2:Nat) (w:World) (h:n1 ≠ n2) :
 Calls Tryz.prog 75 #[.slice a1 n1 c1,.slice a2 n2 c2] w fun e w'=>e=.returned (.bool false)/\∃ n,w'=w.drewN n:=by
 have h':((n1:Int) != (n2:Int))=true:=by rw [bne_iff_ne];omega
 clear h
 go_enter Tryz.func75,Tryz.ntmps75
 go_wp2
 go_ret
 exact ⟨rfl,0,rfl⟩
theorem iu (a1 a2:Option Addr) (g1 g2 o1 o2 c1 c2:Nat) (l1 l2:List Int) (w:World) (hl:l1.length<=10000) (he:l2.length=l1.length) (ha:0 < l1.length->a1=some ⟨g1,o1,none⟩/\a2=some ⟨g2,o2,none⟩)
 (h1:∀ j,j < l1.length->w.cell? ⟨g1,o1+j,none⟩=some (.int .i64 (l1.getD j 0))) (h2:∀ j,j < l1.length->w.cell? ⟨g2,o2+j,none⟩=some (.int .i64 (l2.getD j 0))) :
 Calls Tryz.prog 75 #[.slice a1 l1.length c1,.slice a2 l1.length c2] w fun e w'=>e=.returned (.bool (l1 == l2))/\∃ n,w'=w.drewN n:=by
 have HE:=hid he
 clear he
 go_enter Tryz.func75,Tryz.ntmps75
 go_wp2
 go_loopw [5] (fun i wr=>∃ k:Nat,k<=l1.length/\i=.int .i64 k/\(l1.take k=l2.take k)/\∃ n,wr=w.drewN n) (fun i _=>l1.length - (intOf i).toNat)
 case atStart=>exact ⟨0,Nat.zero_le _,rfl,by simp,0,rfl⟩
 case round =>
  obtain ⟨k,hk,rfl,htk,n,rfl⟩:=hrel
  have HT:=hid htk
  clear htk
  by_cases hlt:k < l1.length
  ·obtain ⟨rfl,rfl⟩:=ha (by omega)
   have y1:=h1 k hlt
   have y2:=h2 k hlt
   have hlt':(k:Int) < (l1.length:Int):=by omega
   have HN:Hid (l1.getD k 0=l2.getD k 0->l1.take (k+1)=l2.take (k+1)):=by
    intro hx
    rw [List.take_succ_eq_append_getElem hlt,List.take_succ_eq_append_getElem (by rw [HE.out];exact hlt),HT.out]
    rw [List.getD_eq_getElem?_getD,List.getD_eq_getElem?_getD,List.getElem?_eq_getElem hlt,List.getElem?_eq_getElem (by rw [HE.out];exact hlt)] at hx
    simp at hx
    rw [hx]
   have HX:Hid (l1.getD k 0 ≠ l2.getD k 0->(l1 == l2)=false):=by
    intro hx
    rw [beq_eq_false_iff_ne]
    intro e;rw [e] at hx;exact hx rfl
   generalize l1.getD k 0=x at *
   generalize l2.getD k 0=y at *
   clear h1 h2 ha
   by_cases hxy:x=y
   ·have hb:(x != y)=false:=by simp [hxy]
    have HXY:=hid hxy
    clear hxy
    go_wp2
    go_quiet (fail)
    go_wp2
    exact ⟨⟨k+1,by omega,rfl,HN.out HXY.out,_,rfl⟩,by simp [intOf];omega⟩
   ·have hb:(x != y)=true:=by simp [hxy]
    have HXY:=hid hxy
    clear hxy
    go_wp2
    go_quiet (fail)
    go_wp2
    go_ret
    exact ⟨by rw [HX.out HXY.out];rfl,_,World.drewN_drewN _ _ _⟩
  ·have e1:(l1 == l2)=true:=by
    have:=HT.out
    rw [List.take_of_length_le (by omega),List.take_of_length_le (by rw [HE.out];omega)] at this
    rw [this];simp
   go_wp2
   go_ret
   exact ⟨by rw [e1];rfl,n,rfl⟩
theorem cW (v1 v2:Value) (l1 l2:List Int) (w:World) (hl:l1.length<=10000) (h1:RdI w v1 l1) (h2:RdI w v2 l2) :
 Calls Tryz.prog 75 #[v1,v2] w fun e w'=>e=.returned (.bool (l1 == l2))/\∃ n,w'=w.drewN n:=by
 have f1:∃ a c,v1=.slice a l1.length c:=by
  rcases h1 with ⟨rfl,rfl⟩ | ⟨g,o,c,rfl,_⟩
  ·exact ⟨none,0,rfl⟩
  ·exact ⟨_,_,rfl⟩
 have f2:∃ a c,v2=.slice a l2.length c:=by
  rcases h2 with ⟨rfl,rfl⟩ | ⟨g,o,c,rfl,_⟩
  ·exact ⟨none,0,rfl⟩
  ·exact ⟨_,_,rfl⟩
 by_cases he:l2.length=l1.length
 ·by_cases h0:0 < l1.length
  ·rcases h1 with ⟨_,rfl⟩ | ⟨g1,o1,c1,rfl,_,_,k1⟩
   ·simp at h0
   rcases h2 with ⟨_,rfl⟩ | ⟨g2,o2,c2,rfl,_,_,k2⟩
   ·simp at he;simp [<-he] at h0
   rw [he]
   exact iu _ _ g1 g2 o1 o2 c1 c2 l1 l2 w hl he (fun _=>⟨rfl,rfl⟩) k1 (fun j hj=>k2 j (by omega))
  ·obtain ⟨a1,c1,rfl⟩:=f1
   obtain ⟨a2,c2,rfl⟩:=f2
   rw [he]
   exact iu a1 a2 0 0 0 0 c1 c2 l1 l2 w hl he (fun h=>absurd h h0) (fun j hj=>by omega) (fun j hj=>by omega)
 ·obtain ⟨a1,c1,rfl⟩:=f1
  obtain ⟨a2,c2,rfl⟩:=f2
  have e1:(l1 == l2)=false:=by rw [beq_eq_false_iff_ne];intro e;exact he (by rw [e])
  rw [e1]
  exact nr a1 a2 _ _ c1 c2 w (fun e=>he e.symm)
def bU (op A:Int) (i:Nat):List Int:=if op=13 then [A] else if op=14 then [A,(i:Int)+1] else if op=16 then [] else [(i:Int)+1]
theorem sf (A B:Int) (i:Nat) (w:World) (base:Nat) (hbase:base<=w.heap.size) (_hi:i<=10000)  :
 Calls Tryz.prog 74 #[.agg #[(13:Int),A,B],i] w fun e w'=>∃ v,e=.returned v/\ad w' base v [A]/\Chg () w w':=by
 have kb:Chg () w (w.alloc (Obj.cells #[(13:Int),A,B] 107)):=(Chg.refl () w).alloc _
 have KB:Hid _:=kb
 clear kb
 go_enter Tryz.func74,Tryz.ntmps74
 go_wp2
 go_ret
 exact ⟨_,rfl,ad.lit [A] 1 rfl (by simp) (by omega) (by unfold maxLen;omega),KB.out.alloc _⟩
theorem qK (A B:Int) (i:Nat) (w:World) (base:Nat) (hbase:base<=w.heap.size) (hi:i<=10000)  :
 Calls Tryz.prog 74 #[.agg #[(14:Int),A,B],i] w fun e w'=>∃ v,e=.returned v/\ad w' base v [A,(i:Int)+1]/\Chg () w w':=by
 have kb:Chg () w (w.alloc (Obj.cells #[(14:Int),A,B] 107)):=(Chg.refl () w).alloc _
 have KB:Hid _:=kb
 clear kb
 go_enter Tryz.func74,Tryz.ntmps74
 go_wp2
 go_ret
 exact ⟨_,rfl,ad.lit [A,(i:Int)+1] 2 rfl (by simp) (by omega) (by unfold maxLen;omega),KB.out.alloc _⟩
theorem qL (A B:Int) (i:Nat) (w:World) (base:Nat) (_hbase:base<=w.heap.size) (_hi:i<=10000)  :
 Calls Tryz.prog 74 #[.agg #[(16:Int),A,B],i] w fun e w'=>∃ v,e=.returned v/\ad w' base v []/\Chg () w w':=by
 have kb:Chg () w (w.alloc (Obj.cells #[(16:Int),A,B] 107)):=(Chg.refl () w).alloc _
 have KB:Hid _:=kb
 clear kb
 go_enter Tryz.func74,Tryz.ntmps74
 go_wp2
 go_ret
 exact ⟨_,rfl,World.ownsRow_nil _ _ _ _,KB.out⟩
theorem m6 (op A B:Int) (i:Nat) (w:World) (base:Nat) (hbase:base<=w.heap.size) (hi:i<=10000) (h1:(op == 13)=false) (h2:(op == 14)=false) (h3:(op == 16)=false) :
 Calls Tryz.prog 74 #[.agg #[op,A,B],i] w fun e w'=>∃ v,e=.returned v/\ad w' base v [(i:Int)+1]/\Chg () w w':=by
 have kb:Chg () w (w.alloc (Obj.cells #[op,A,B] 107)):=(Chg.refl () w).alloc _
 have KB:Hid _:=kb
 clear kb
 go_enter Tryz.func74,Tryz.ntmps74
 go_wp2
 go_ret
 exact ⟨_,rfl,ad.lit [(i:Int)+1] 1 rfl (by simp) (by omega) (by unfold maxLen;omega),KB.out.alloc _⟩
theorem oQ (op A B:Int) (i:Nat) (w:World) (base:Nat) (hbase:base<=w.heap.size) (hi:i<=10000) :
 Calls Tryz.prog 74 #[.agg #[op,A,B],i] w fun e w'=>∃ v,e=.returned v/\ad w' base v (bU op A i)/\Chg () w w':=by
 unfold bU
 by_cases h1:op=13
 ·subst h1;rw [if_pos rfl];exact sf A B i w base hbase hi
 rw [if_neg h1]
 by_cases h2:op=14
 ·subst h2;rw [if_pos rfl];exact qK A B i w base hbase hi
 rw [if_neg h2]
 by_cases h3:op=16
 ·subst h3;rw [if_pos rfl];exact qL A B i w base hbase hi
 rw [if_neg h3]
 exact m6 op A B i w base hbase hi (by simpa using h1) (by simpa using h2) (by simpa using h3)
end Go.Proofs.YtnfnbcbadakofaaGreat
