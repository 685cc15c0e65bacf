import Derived.Test.YtnfnbcbadakofabGoo
import Derived.Test.YtnfnbcbadakofabStr
import Derived.Test.YtnfnbcbadakofabStk
namespace Go.Proofs.Ytnfnbcbadakofab
open Go.RowKit
theorem do_us (c:Cx) (x:Int × Int × Int) (R:Rn) (h:x.1 ≠ 18):(doP c x R).used=R.used:=by
 unfold doP
 split
 ·rfl
 split
 ·rfl
 split
 ·unfold clP;split <;> rfl
 split
 ·unfold gbP;split <;> rfl
 split
 ·exact (ur_ou c x R).2
 ·show (uvP x R).used=R.used
  unfold uvP
  repeat' split
  all_goals first
   | rfl
   | (exfalso;omega)
theorem go_used (c:Cx):∀ (n:Nat) (R:Rn),R.used<=R.inp.length->(goOnP c n R).1.used<=R.inp.length:=by
 intro n
 induction n with
 | zero=>intro R h;exact h
 | succ n ih =>
  intro R h
  unfold goOnP
  split
  ·exact h
  ·split
   ·exact h
   ·rename_i h1 h2
    have hi:(doP c (nxtP c R) R).inp=R.inp:=(do_shf (o:=[]) (inp:=R.inp) (u:=0) (nxtP c R) (by simp)).2
    have:=ih (doP c (nxtP c R) R) (by
     rw [hi]
     by_cases q:(nxtP c R).1=18
     ·have a:=(do_ou c (nxtP c R) R).2
      have:¬ R.inp.length<=R.used:=fun z=>h2 ⟨q,z⟩
      omega
     ·rw [do_us c _ R q];exact h)
    rw [hi] at this
    exact this
end Go.Proofs.Ytnfnbcbadakofab
namespace Go.Proofs.Ytnfnbcbadakofab
open Go.RowKit
set_option maxHeartbeats 1000000
set_option maxRecDepth 100000
theorem fits_any (img:ByteArray) (w:World):Calls Try.prog 6 #[.string img] w fun e w'=>e=.returned (.bool ((opF img).1 == 0))/\Chg () w w':=by
 have HRC:Hid _:=rcheck_any img w
 generalize opF img=O at *
 go_enter Try.func6,Try.ntmps6
 go_wp2_with fail
 refine (Calls.mono HRC.out ?_)
 rintro e w1 ⟨tv,fv,rfl,hty,hfv,k1⟩
 obtain ⟨ta,tc,rfl⟩:=hty.slice
 obtain ⟨fa,fc,rfl⟩:=hfv.slice
 clear HRC hty hfv
 go_wp2
 go_ret
 exact ⟨rfl,k1.alloc _⟩
def rgB (h d:Int):Bool:=decide (0<=h/\h<=4000/\1<=d/\d<=64)
theorem rgB_iff {h d:Int}:rgB h d=true ↔ ¬ badR h d:=by unfold rgB badR;simp only [decide_eq_true_eq];omega
theorem ranged_any (h d:Int) (w:World):Calls Try.prog 8 #[h,d] w fun e w'=>e=.returned (.bool (rgB h d))/\w'=w:=by
 by_cases h1:h < 0
 ·have e:rgB h d=false:=by unfold rgB;simp only [decide_eq_false_iff_not];omega
  rw [e];clear e
  go_enter Try.func8,Try.ntmps8
  go_wp2
  go_ret
  exact ⟨rfl,rfl⟩
 by_cases h2:4000 < h
 ·have e:rgB h d=false:=by unfold rgB;simp only [decide_eq_false_iff_not];omega
  rw [e];clear e
  go_enter Try.func8,Try.ntmps8
  go_wp2
  go_ret
  exact ⟨rfl,rfl⟩
 by_cases h3:d < 1
 ·have e:rgB h d=false:=by unfold rgB;simp only [decide_eq_false_iff_not];omega
  rw [e];clear e
  go_enter Try.func8,Try.ntmps8
  go_wp2
  go_ret
  exact ⟨rfl,rfl⟩
 by_cases h4:64 < d
 ·have e:rgB h d=false:=by unfold rgB;simp only [decide_eq_false_iff_not];omega
  rw [e];clear e
  go_enter Try.func8,Try.ntmps8
  go_wp2
  go_ret
  exact ⟨by show Ending.returned (Value.bool (decide (d<=64)))=_;rw [decide_eq_false (by omega)],rfl⟩
 ·have e:rgB h d=true:=by unfold rgB;simp only [decide_eq_true_eq];omega
  rw [e];clear e
  go_enter Try.func8,Try.ntmps8
  go_wp2
  go_ret
  exact ⟨rfl,rfl⟩
theorem fuelled_any (n:Int) (w:World):Calls Try.prog 10 #[n] w fun e w'=>e=.returned (.bool (decide (0<=n/\n<=10000)))/\w'=w:=by
 by_cases h1:n < 0
 ·have e:decide (0<=n/\n<=10000)=false:=by simp only [decide_eq_false_iff_not];omega
  rw [e];clear e
  go_enter Try.func10,Try.ntmps10
  go_wp2
  go_ret
  exact ⟨rfl,rfl⟩
 by_cases h2:10000 < n
 ·have e:decide (0<=n/\n<=10000)=false:=by simp only [decide_eq_false_iff_not];omega
  rw [e];clear e
  go_enter Try.func10,Try.ntmps10
  go_wp2
  go_ret
  exact ⟨by show Ending.returned (Value.bool (decide (n<=10000)))=_;rw [decide_eq_false (by omega)],rfl⟩
 ·have e:decide (0<=n/\n<=10000)=true:=by simp only [decide_eq_true_eq];omega
  rw [e];clear e
  go_enter Try.func10,Try.ntmps10
  go_wp2
  go_ret
  exact ⟨rfl,rfl⟩
theorem ljoin_any (v1 v2:Value) (l1 l2:List Int) (w:World) (b1 b2:Nat) (h1:IntsV w b1 v1 l1) (h2:IntsV w b2 v2 l2) (hl1:l1.length<=100000) (hl2:l2.length<=100000) :
 Calls Try.prog 17 #[v1,v2] w fun e w'=>∃ u,e=.returned u/\IntsV w' w.heap.size u (l1++l2)/\Chg () w w':=by
 obtain ⟨a1,c1,rfl⟩:=h1.slice
 obtain ⟨a2,c2,rfl⟩:=h2.slice
 have H1:=hid h1
 have H2:=hid h2
 clear h1 h2
 go_enter Try.func17,Try.ntmps17
 go_wp2_with (at_builtin;refine wp_appL rfl _ _ rfl w.heap.size (.slice none 0 0) (.slice a1 l1.length c1) [] l1 rfl rfl ?h1 ?h2 ?h3 ?h4 ?_)
 case h1=>exact World.ownsRow_nil _ _ _ _
 case h2=>exact H1.out.rdI
 case h3=>simp;omega
 case h4=>exact Nat.le_refl _
 intro a3 n3 c3 w3 hn3 hI3 hch3 hl3
 have k3:Chg () w w3:=hch3.mono (fun _ _ q=>by cases q)
 have H3:=hid hI3
 have H4:Hid (IntsV w3 b2 (.slice a2 l2.length c2) l2):=own_chg H2.out k3 (fun _ _ q=>q)
 have hsz:=k3.size
 clear hn3 hI3 hch3 hl3
 go_wp2_with (at_builtin;refine wp_appL rfl _ _ rfl w.heap.size (.slice a3 n3 c3) (.slice a2 l2.length c2) l1 l2 rfl rfl ?h1 ?h2 ?h3 ?h4 ?_)
 case h1=>exact H3.out
 case h2=>exact H4.out.rdI
 case h3=>omega
 case h4=>exact hsz
 intro a4 n4 c4 w4 hn4 hI4 hch4 hl4
 have k4:Chg () w w4:=k3.trans' hch4 (fun i hi q=>by have:=(H3.out.lt i q.symm).1;omega)
 clear hn4 hch4 hl4
 go_wp2
 go_ret
 exact ⟨_,rfl,hI4,k4⟩
end Go.Proofs.Ytnfnbcbadakofab
namespace Go.Proofs.Ytnfnbcbadakofab
open Go.RowKit
section
variable {w:World} {img:ByteArray} {D:Dn} {R:Rn}
theorem go_lay (hz:(opF img).1=0) (hD:Rel (cxO img) D R) (sv iv:Value) (inp:List Int) (b1:Nat) (hs:IntsV w b1 sv (layR (mksP img) R)) (hi:RdA w iv inp) (n:Nat) (hn:n<=10000) :
 Calls Try.prog 11 #[.string img,sv,iv,n] w fun e w'=>∃ sv' ov',e=.returned (.tuple #[.agg #[sv',ov',((goStP (cxO img) (bare R) inp n).1.used:Int),.int .i64 (goStP (cxO img) (bare R) inp n).2],oO]) /\
  IntsV w' w.heap.size sv' (layR (mksP img) (goStP (cxO img) (bare R) inp n).1)/\IntsV w' w.heap.size ov' (goStP (cxO img) (bare R) inp n).1.out/\Chg () w w':=by
 have ht:=take_lay (cx_ok hz) (mksP img) hD
 refine (go_any img sv iv _ inp n w hs.rdA hi (fun _ R' q=>by rw [ht] at q;cases q;exact ⟨D,hD.bare⟩)).mono ?_
 rintro e w' ⟨k,_,hO⟩
 obtain ⟨sv',ov',h1,h2,h3,_⟩:=((hO hz).2 _ ht).2 (by omega)
 rw [Int.toNat_natCast] at h1 h2 h3
 exact ⟨sv',ov',h1,h2,h3,k⟩
theorem pack_lay (hz:(opF img).1=0) (hD:Rel (cxO img) D R) (sv:Value) (b1:Nat) (hs:IntsV w b1 sv (layR (mksP img) R)) :
 Calls Try.prog 15 #[.string img,sv] w fun e w'=>∃ u,e=.returned (.tuple #[u,oO])/\IntsV w' w.heap.size u (layR (mksP img) (clrP (cxO img) (bare R)))/\Chg () w w':=by
 have ht:=take_lay (cx_ok hz) (mksP img) hD
 refine (pack_any img sv _ w hs.rdA (fun _ R' q=>by rw [ht] at q;cases q;exact ⟨D,hD.bare⟩)).mono ?_
 rintro e w' ⟨k,_,hO⟩
 obtain ⟨u,h1,h2⟩:=(hO hz).2 _ ht
 exact ⟨u,h1,h2,k⟩
theorem live_lay (hz:(opF img).1=0) (hD:Rel (cxO img) D R) (sv:Value) (b1:Nat) (hs:IntsV w b1 sv (layR (mksP img) R)) :
 Calls Try.prog 12 #[.string img,sv] w fun e w'=>e=.returned (.tuple #[(liveP D:Int),oO])/\Chg () w w':=by
 have ht:=take_lay (cx_ok hz) (mksP img) hD
 refine (live_any img sv _ w hs.rdA (fun _ R' q=>by rw [ht] at q;cases q;exact ⟨D,hD.bare⟩)).mono ?_
 rintro e w' ⟨k,_,hO⟩
 rw [(hO hz).2 _ ht,(clr_rel hD).2.1]
 exact ⟨rfl,k⟩
end
theorem bare_x (R:Rn):(bare R).used=0/\(bare R).out=[]:=by unfold bare;split <;> exact ⟨rfl,rfl⟩
theorem go_out (c:Cx):∀ (n:Nat) (R:Rn),(goOnP c n R).1.out.length<=R.out.length+n:=by
 intro n
 induction n with
 | zero=>intro R;exact Nat.le_refl _
 | succ n ih =>
  intro R
  unfold goOnP
  split
  ·exact Nat.le_add_right _ _
  ·split
   ·exact Nat.le_add_right _ _
   ·have h1:=ih (doP c (nxtP c R) R)
    have h2:=(do_ou c (nxtP c R) R).1
    show (goOnP c n (doP c (nxtP c R) R)).1.out.length<=_
    omega
end Go.Proofs.Ytnfnbcbadakofab
