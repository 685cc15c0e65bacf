import Derived.Test.YtnfnbcbadakofaaGoo
import Derived.Test.YtnfnbcbadakofaaStr
import Derived.Test.YtnfnbcbadakofaaChecksw
import Derived.ProofKit
import Derived.OpenShut
import Derived.ShutString
import Derived.JoinedCond
import Derived.Lib.SmallJoins
import Derived.Deep.Matrix
import Derived.Carry
namespace Go.Proofs.Ytnfnbcbadakofaa
open Go.RowKit
theorem do_us (c:Cx) (x:Int × Int × Int) (R:Rn) (h:x.1 ≠ 18):(doP c x R).used=R.used:=by
 unfold doP
 split
 ·rfl
 split
 ·rfl
 split
 ·unfold clP;split <;> rfl
 split
 ·unfold gbP;split <;> rfl
 split
 ·exact (ur_ou c x R).2
 ·show (uvP x R).used=R.used
  unfold uvP
  repeat' split
  all_goals first
   | rfl
   | (exfalso;omega)
theorem go_inp (c:Cx):∀ (n:Nat) (R:Rn),(goOnP c n R).1.inp=R.inp:=by
 intro n
 induction n with
 | zero=>intro R;rfl
 | succ n ih =>
  intro R
  unfold goOnP
  split
  ·rfl
  ·split
   ·rfl
   ·rw [ih];exact (do_shf (o:=[]) (inp:=R.inp) (u:=0) (nxtP c R) (by simp)).2
theorem go_used (c:Cx):∀ (n:Nat) (R:Rn),R.used<=R.inp.length->(goOnP c n R).1.used<=R.inp.length:=by
 intro n
 induction n with
 | zero=>intro R h;exact h
 | succ n ih =>
  intro R h
  unfold goOnP
  split
  ·exact h
  ·split
   ·exact h
   ·rename_i h1 h2
    have hi:(doP c (nxtP c R) R).inp=R.inp:=(do_shf (o:=[]) (inp:=R.inp) (u:=0) (nxtP c R) (by simp)).2
    have:=ih (doP c (nxtP c R) R) (by
     rw [hi]
     by_cases q:(nxtP c R).1=18
     ·have a:=(do_ou c (nxtP c R) R).2
      have:¬ R.inp.length<=R.used:=fun z=>h2 ⟨q,z⟩
      omega
     ·rw [do_us c _ R q];exact h)
    rw [hi] at this
    exact this
theorem splits_plain (c:Cx) (R0:Rn) (hu0:R0.used=0) (inp:List Int) (a b:Nat) (X Y Z:Rn × Int) (hX:goStP c R0 inp a=X) (hY:goStP c (bare X.1) (inp.drop X.1.used) b=Y) (hZ:goStP c R0 inp (a+b)=Z) :
 X.1.used<=inp.length/\X.1.out++Y.1.out=Z.1.out/\(Y.2=Z.2 \/ (X.2=2/\b=0/\Z.2=2))/\X.1.used+Y.1.used=Z.1.used:=by
 unfold goStP at hX hY hZ
 have hi:X.1.inp=inp:=by rw [<-hX];exact go_inp c a _
 have hu:X.1.used<=inp.length:=by
  rw [<-hX];exact go_used c a { R0 with inp:=inp } (by show R0.used<=inp.length;rw [hu0];exact Nat.zero_le _)
 refine ⟨hu,?_⟩
 have hadd:=go_add c b a { R0 with inp:=inp }
 rw [hX,hZ] at hadd
 by_cases h0:X.1.status=0
 ·have eB:({ bare X.1 with inp:=inp.drop X.1.used }:Rn) = { X.1 with inp:=inp.drop X.1.used,used:=0,out:=[] }:=by
   unfold bare;rw [if_pos h0]
  rw [eB] at hY
  have eS:shf inp X.1.used X.1.out { X.1 with inp:=inp.drop X.1.used,used:=0,out:=[] } = X.1:=by
   unfold shf
   simp only [List.append_nil,Nat.add_zero]
   rw [<-hi]
  have hg:=go_shf (c:=c) (inp:=inp) (u:=X.1.used) (o:=X.1.out) b (R:={ X.1 with inp:=inp.drop X.1.used,used:=0,out:=[] }) rfl
  rw [eS,hY] at hg
  rcases hadd with ⟨q,_⟩ | ⟨q,q2,_,q4⟩
  ·rw [hg] at q
   rw [q]
   exact ⟨rfl,.inl rfl,rfl⟩
  ·by_cases hb:b=0
   ·subst hb
    have e:Y=({ X.1 with inp:=inp.drop X.1.used,used:=0,out:=[] },X.1.status):=by rw [<-hY];rfl
    rw [e,q]
    exact ⟨by simp,.inr ⟨q2,rfl,q2⟩,by simp⟩
   ·have e:=q4 hb
    rw [hg] at e
    have e1:shf inp X.1.used X.1.out Y.1=X.1:=congrArg Prod.fst e
    have e2:Y.2=X.2:=(congrArg Prod.snd e:(shf inp X.1.used X.1.out Y.1,Y.2).2=X.2)
    rw [q]
    have a1:X.1.out++Y.1.out=X.1.out:=congrArg Rn.out e1
    have a2:X.1.used+Y.1.used=X.1.used:=congrArg Rn.used e1
    exact ⟨a1,.inl e2,a2⟩
 ·have eB:({ bare X.1 with inp:=inp.drop X.1.used }:Rn)=⟨X.1.heap,X.1.depth,X.1.status,[],[],⟨0,0,[],[]⟩,inp.drop X.1.used,0,[]⟩:=by
   unfold bare;rw [if_neg h0]
  rw [eB] at hY
  have e1:∀ (n:Nat) (R:Rn),R.status ≠ 0->goOnP c n R=(R,R.status):=by
   intro n R hR
   cases n with
   | zero=>rfl
   | succ n=>unfold goOnP;rw [if_pos hR]
  have e3:=e1 b (⟨X.1.heap,X.1.depth,X.1.status,[],[],⟨0,0,[],[]⟩,inp.drop X.1.used,0,[]⟩:Rn) h0
  rw [e3] at hY
  rcases hadd with ⟨q,_⟩ | ⟨_,_,q3,_⟩
  ·rw [e1 b _ h0] at q
   rw [<-hY,q]
   exact ⟨by simp,.inl rfl,by simp⟩
  ·exact absurd q3 h0
end Go.Proofs.Ytnfnbcbadakofaa
namespace Go.Proofs.Ytnfnbcbadakofaa
open Go.RowKit
set_option maxHeartbeats 1000000 in
set_option maxRecDepth 100000 in
theorem fits_any (img:ByteArray) (w:World):Calls Try.prog 31 #[.string img] w fun e w'=>e=.returned (.bool ((opF img).1 == 0))/\Chg (fun _=>False) w w':=by
 have HRC:Hid _:=rcheck_any img w
 generalize opF img=O at *
 go_enter Try.func31,Try.ntmps31
 go_wp2_with fail
 refine (Calls.mono HRC.out ?_)
 rintro e w1 ⟨tv,fv,rfl,hty,hfv,k1⟩
 obtain ⟨ta,tc,rfl⟩:=hty.slice
 obtain ⟨fa,fc,rfl⟩:=hfv.slice
 clear HRC hty hfv
 go_wp2
 go_ret
 exact ⟨rfl,k1.alloc _⟩
def rgB (h d:Int):Bool:=decide (0<=h/\h<=4000/\1<=d/\d<=64)
theorem rgB_iff {h d:Int}:rgB h d=true ↔ ¬ badR h d:=by unfold rgB badR;simp only [decide_eq_true_eq];omega
theorem ranged_any (h d:Int) (w:World):Calls Try.prog 33 #[.int .i64 h,.int .i64 d] w fun e w'=>e=.returned (.bool (rgB h d))/\w'=w:=by
 by_cases h1:h < 0
 ·have e:rgB h d=false:=by unfold rgB;simp only [decide_eq_false_iff_not];omega
  rw [e];clear e
  go_enter Try.func33,Try.ntmps33
  go_wp2
  go_ret
  exact ⟨rfl,rfl⟩
 by_cases h2:4000 < h
 ·have e:rgB h d=false:=by unfold rgB;simp only [decide_eq_false_iff_not];omega
  rw [e];clear e
  go_enter Try.func33,Try.ntmps33
  go_wp2
  go_ret
  exact ⟨rfl,rfl⟩
 by_cases h3:d < 1
 ·have e:rgB h d=false:=by unfold rgB;simp only [decide_eq_false_iff_not];omega
  rw [e];clear e
  go_enter Try.func33,Try.ntmps33
  go_wp2
  go_ret
  exact ⟨rfl,rfl⟩
 by_cases h4:64 < d
 ·have e:rgB h d=false:=by unfold rgB;simp only [decide_eq_false_iff_not];omega
  rw [e];clear e
  go_enter Try.func33,Try.ntmps33
  go_wp2
  go_ret
  exact ⟨by show Ending.returned (Value.bool (decide (d<=64)))=_;rw [decide_eq_false (by omega)],rfl⟩
 ·have e:rgB h d=true:=by unfold rgB;simp only [decide_eq_true_eq];omega
  rw [e];clear e
  go_enter Try.func33,Try.ntmps33
  go_wp2
  go_ret
  exact ⟨rfl,rfl⟩
theorem fuelled_any (n:Int) (w:World):Calls Try.prog 34 #[.int .i64 n] w fun e w'=>e=.returned (.bool (decide (0<=n/\n<=10000)))/\w'=w:=by
 by_cases h1:n < 0
 ·have e:decide (0<=n/\n<=10000)=false:=by simp only [decide_eq_false_iff_not];omega
  rw [e];clear e
  go_enter Try.func34,Try.ntmps34
  go_wp2
  go_ret
  exact ⟨rfl,rfl⟩
 by_cases h2:10000 < n
 ·have e:decide (0<=n/\n<=10000)=false:=by simp only [decide_eq_false_iff_not];omega
  rw [e];clear e
  go_enter Try.func34,Try.ntmps34
  go_wp2
  go_ret
  exact ⟨by show Ending.returned (Value.bool (decide (n<=10000)))=_;rw [decide_eq_false (by omega)],rfl⟩
 ·have e:decide (0<=n/\n<=10000)=true:=by simp only [decide_eq_true_eq];omega
  rw [e];clear e
  go_enter Try.func34,Try.ntmps34
  go_wp2
  go_ret
  exact ⟨rfl,rfl⟩
set_option maxHeartbeats 1000000 in
set_option maxRecDepth 100000 in
theorem ljoin_any (v1 v2:Value) (l1 l2:List Int) (w:World) (b1 b2:Nat) (h1:IntsV w b1 v1 l1) (h2:IntsV w b2 v2 l2) (hl1:l1.length<=100000) (hl2:l2.length<=100000) :
 Calls Try.prog 36 #[v1,v2] w fun e w'=>∃ u,e=.returned u/\IntsV w' w.heap.size u (l1++l2)/\Chg (fun _=>False) w w':=by
 obtain ⟨a1,c1,rfl⟩:=h1.slice
 obtain ⟨a2,c2,rfl⟩:=h2.slice
 have H1:Hid (IntsV w b1 (.slice a1 l1.length c1) l1):=h1
 have H2:Hid (IntsV w b2 (.slice a2 l2.length c2) l2):=h2
 clear h1 h2
 go_enter Try.func36,Try.ntmps36
 go_wp2_with (at_builtin;refine wp_appL rfl _ _ rfl w.heap.size (.slice none 0 0) (.slice a1 l1.length c1) [] l1 rfl rfl ?h1 ?h2 ?h3 ?h4 ?_)
 case h1=>exact World.ownsRow_nil _ _ _ _
 case h2=>exact H1.out.rdI
 case h3=>simp;omega
 case h4=>exact Nat.le_refl _
 intro a3 n3 c3 w3 hn3 hI3 hch3 hl3
 have k3:Chg (fun _=>False) w w3:=hch3.mono (fun _ _ q=>by cases q)
 have H3:Hid (IntsV w3 w.heap.size (.slice a3 n3 c3) l1):=hI3
 have H4:Hid (IntsV w3 b2 (.slice a2 l2.length c2) l2):=own_chg H2.out k3 (fun _ _ q=>q)
 have hsz:=k3.size
 clear hn3 hI3 hch3 hl3
 go_wp2_with (at_builtin;refine wp_appL rfl _ _ rfl w.heap.size (.slice a3 n3 c3) (.slice a2 l2.length c2) l1 l2 rfl rfl ?h1 ?h2 ?h3 ?h4 ?_)
 case h1=>exact H3.out
 case h2=>exact H4.out.rdI
 case h3=>omega
 case h4=>exact hsz
 intro a4 n4 c4 w4 hn4 hI4 hch4 hl4
 have k4:Chg (fun _=>False) w w4:=k3.trans' hch4 (fun i hi q=>by have:=(H3.out.lt i q.symm).1;omega)
 clear hn4 hch4 hl4
 go_wp2
 go_ret
 exact ⟨_,rfl,hI4,k4⟩
end Go.Proofs.Ytnfnbcbadakofaa
namespace Go.Proofs.Ytnfnbcbadakofaa
open Go.RowKit Go.ChangeShapes Go.Deep Go.Joins
section
variable {H:Type} {enc:TypeId × Value->H} {W:World}
theorem opn_in {n:Nat} {cs:List Value} {x:DataW H × List MemPlace} (h:DataW.trod enc Try.prog W 0 (fun _=>true) true n 47 cs=some x):∃ v l,cs=[v]/\RdA W v l:=by
 rcases open_ints Try.underlying47 Try.underlying3 (by kernel_rfl) h with ⟨rfl,rfl⟩ | ⟨a,len,cap,zs,rfl,_,hle,hcap,hz,rfl,hc,_⟩
 ·exact ⟨_,[],rfl,.inl ⟨rfl,rfl⟩⟩
 ·simp only [if_true] at hz
  have hlt:(zs.take len).length=len:=by rw [List.length_take];omega
  refine ⟨_,zs.take len,rfl,.inr ⟨a,cap,by rw [hlt],by rw [hlt];exact hle,hcap,fun j hj=>?_⟩⟩
  rw [hlt] at hj
  rw [hc j (by omega),List.getD_eq_getElem?_getD,List.getD_eq_getElem?_getD,List.getElem?_take_of_lt hj]
end
end Go.Proofs.Ytnfnbcbadakofaa
