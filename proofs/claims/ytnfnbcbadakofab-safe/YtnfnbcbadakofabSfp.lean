import Derived.Test.YtnfnbcbadakofabPks
namespace Go.Proofs.Ytnfnbcbadakofab
open Go.RowKit
theorem popV_word {s:List Int} (h:∀ v ∈ s,0<=v/\v<=65535):0<=popV s/\popV s<=65535:=by
 unfold popV
 rw [List.getLastD_eq_getLast?]
 cases q:s.getLast? with
 | none=>simp
 | some v=>exact h v (List.mem_of_getLast? q)
theorem do_out1 (c:Cx) (x:Int × Int × Int) (R:Rn):((doP c x R).out=R.out/\(R.status=0->(doP c x R).status ≠ 1)) \/ (doP c x R).out=R.out++[popV R.top.stack]:=by
 have hst:∀ t,R.status=0->(mrP c t R).status ≠ 1:=by
  intro t h0
  unfold mrP mr2P
  repeat' split
  all_goals simp_all [clrP]
 unfold doP
 split
 ·exact .inl ⟨rfl,fun h=>by simp [h]⟩
 split
 ·exact .inl ⟨rfl,fun h=>by simp [h]⟩
 split
 ·unfold clP;split <;> exact .inl ⟨rfl,fun h=>by simp [h]⟩
 split
 ·unfold gbP;split
  ·exact .inr rfl
  ·exact .inl ⟨rfl,fun h=>by simp [h]⟩
 split
 ·refine .inl ⟨(ur_ou c x R).1,fun h=>?_⟩
  show (urP c x R).status ≠ 1
  unfold urP
  repeat' split
  all_goals first
   | exact hst _ h
   | simp [h]
 ·show ((uvP x R).out=R.out/\(R.status=0->(uvP x R).status ≠ 1)) \/ (uvP x R).out=R.out++[popV R.top.stack]
  unfold uvP
  repeat' split
  all_goals first
   | exact .inl ⟨rfl,fun h=>by simp [h]⟩
   | exact .inr rfl
theorem go_words {c:Cx} (ok:CxOk c):∀ (n:Nat) (R:Rn),Gd c R->(∀ v ∈ R.out,0<=v/\v<=65535)->∀ v ∈ (goOnP c n R).1.out,0<=v/\v<=65535:=by
 intro n
 induction n with
 | zero=>intro R _ h;exact h
 | succ n ih =>
  intro R hg h
  unfold goOnP
  split
  ·exact h
  ·rename_i h0
   have h0:R.status=0:=Decidable.not_not.1 h0
   split
   ·exact h
   ·refine ih _ (hg.step ok h0).1 ?_
    rcases do_out1 c (nxtP c R) R with q | q
    ·rw [q.1];exact h
    ·rw [q]
     intro v hv
     rcases List.mem_append.1 hv with hv | hv
     ·exact h v hv
     ·simp at hv;subst hv;exact popV_word (hg.doh ok h0).rb.tb.kv
theorem go_mono (c:Cx):∀ (n:Nat) (R:Rn),R.out.length<=(goOnP c n R).1.out.length:=by
 intro n
 induction n with
 | zero=>intro R;exact Nat.le_refl _
 | succ n ih =>
  intro R
  unfold goOnP
  split
  ·exact Nat.le_refl _
  ·split
   ·exact Nat.le_refl _
   ·have:=ih (doP c (nxtP c R) R)
    rcases do_out1 c (nxtP c R) R with q | q
    ·rw [q.1] at this;exact this
    ·rw [q,List.length_append,List.length_singleton] at this;show _<=(goOnP c n (doP c (nxtP c R) R)).1.out.length;omega
theorem go_done (c:Cx):∀ (n:Nat) (R:Rn),R.status=0->(goOnP c n R).2=1->(goOnP c n R).1.out ≠ []:=by
 intro n
 induction n with
 | zero=>intro R h0 h;unfold goOnP at h;simp only at h;omega
 | succ n ih =>
  intro R h0 h
  unfold goOnP at h ⊢
  rw [if_neg (by simp [h0])] at h ⊢
  split at h
  ·simp at h
  ·rename_i h2
   rw [if_neg h2]
   by_cases h3:(doP c (nxtP c R) R).status=0
   ·exact ih _ h3 h
   ·rcases do_out1 c (nxtP c R) R with q | q
    ·have e:goOnP c n (doP c (nxtP c R) R)=(doP c (nxtP c R) R,(doP c (nxtP c R) R).status):=by
      cases n with
      | zero=>rfl
      | succ n=>unfold goOnP;rw [if_pos h3]
     rw [e] at h
     exact absurd h (q.2 h0)
    ·have:=go_mono c n (doP c (nxtP c R) R)
     rw [q,List.length_append,List.length_singleton] at this
     intro e
     rw [e] at this;simp at this
theorem go_wait (c:Cx):∀ (n:Nat) (R:Rn),R.status ≠ 2->((goOnP c n R).2=2->(goOnP c n R).1.inp.length<=(goOnP c n R).1.used/\(goOnP c n R).1.status=0)/\((goOnP c n R).2 ≠ 2->(goOnP c n R).1.status=(goOnP c n R).2):=by
 have st2:∀ (x:Int × Int × Int) (R:Rn),R.status=0->(doP c x R).status ≠ 2:=by
  intro x R h0
  have hst:∀ t,(mrP c t R).status ≠ 2:=by
   intro t
   unfold mrP mr2P
   repeat' split
   all_goals simp_all [clrP]
  unfold doP
  split
  ·simp [h0]
  split
  ·simp [h0]
  split
  ·unfold clP;split <;> simp [h0]
  split
  ·unfold gbP;split <;> simp [h0]
  split
  ·show (urP c x R).status ≠ 2
   unfold urP
   repeat' split
   all_goals first
    | exact hst _
    | simp [h0]
  ·show (uvP x R).status ≠ 2
   unfold uvP
   repeat' split
   all_goals simp [h0]
 intro n
 induction n with
 | zero=>intro R h;exact ⟨fun q=>absurd q h,fun _=>rfl⟩
 | succ n ih =>
  intro R h
  unfold goOnP
  split
  ·exact ⟨fun q=>absurd q h,fun _=>rfl⟩
  ·rename_i h0
   have h0:R.status=0:=Decidable.not_not.1 h0
   split
   ·rename_i h1;exact ⟨fun _=>⟨h1.2,h0⟩,fun q=>absurd rfl q⟩
   ·exact ih _ (st2 _ R h0)
theorem safe_plain {c:Cx} (ok:CxOk c) {D:Dn} {R:Rn} (h:Rel c D R) (inp:List Int) (n:Nat) (hn:n<=10000) (X:Rn × Int) (hX:goStP c (bare R) inp n=X) :
 ∃ D',Rel c D' X.1/\(liveP D':Int)<=R.heap/\X.1.heap=R.heap/\X.1.used<=inp.length/\0<=X.2/\X.2<=5/\wordsB X.1.out/\X.1.out.length<=10000 /\
  (R.status ≠ 0->X.2=R.status/\X.1.out=[]/\X.1.used=0)/\(R.status=0->X.2=1->X.1.out ≠ [])/\(X.2=2->X.1.used=inp.length) /\
  (X.2 ≠ 0->X.2 ≠ 2->X.1.status=X.2)/\((X.2=0 \/ X.2=2)->X.1.status=0):=by
 obtain ⟨b1,b2⟩:=bare_x R
 have hb:=h.bare
 obtain ⟨r1,o1,u1,s1,hp1,_,i1⟩:=go_sim ok inp n hb b1 b2
 have eX:goOnP c n { bare R with inp:=inp } = X:=hX
 rw [eX] at r1 o1 u1 s1 hp1 i1
 have ebs:(bare R).status=R.status:=by unfold bare;split <;> rfl
 have ebh:(bare R).heap=R.heap:=by unfold bare;split <;> rfl
 have hs2:(bare R).status ≠ 2:=by rcases hb.st with ⟨q,_⟩ | ⟨q,_⟩ <;> omega
 have hw:=go_wait c n { bare R with inp:=inp } hs2
 rw [eX] at hw
 have hu:=go_used c n { bare R with inp:=inp } (by show (bare R).used<=inp.length;rw [b1];exact Nat.zero_le _)
 rw [eX] at hu
 have hu:X.1.used<=inp.length:=hu
 have hrg:=r1.st
 refine ⟨_,r1,?_,by rw [hp1,ebh],hu,?_,?_,?_,?_,?_,?_,?_,?_,?_⟩
 ·obtain ⟨c1,c2,c3,_⟩:=clr_rel r1
  rw [c2]
  rcases c1.st with ⟨_,_,phi,sm⟩ | ⟨q,_⟩
  ·have:=sm.len;rw [c3,hp1,ebh] at this;exact this
  ·have e:(clrP c (bare X.1)).status=(bare X.1).status:=rfl
   have e2:(bare X.1).status=X.1.status:=by unfold bare;split <;> rfl
   have hne:X.1.status ≠ 0:=by omega
   have:(clrP c (bare X.1)).words=[]:=by unfold bare;rw [if_neg hne];rfl
   rw [this]
   have:=h.h0
   simpa using this
 ·by_cases q:X.2=2
  ·omega
  ·have:=hw.2 q;rcases hrg with ⟨z,_⟩ | ⟨z,_⟩ <;> omega
 ·by_cases q:X.2=2
  ·omega
  ·have:=hw.2 q;rcases hrg with ⟨z,_⟩ | ⟨z,_⟩ <;> omega
 ·have hg:Gd c { bare R with inp:=inp }:=by
   refine Gd.of (D:=D) ⟨hb.heap,hb.depth,hb.h0,hb.h4,hb.d1,hb.d64,?_⟩
   rcases hb.st with ⟨q,q',phi,sm⟩ | ⟨q,q'⟩
   ·exact .inl ⟨q,q',phi,sm.out rfl rfl rfl rfl rfl rfl rfl rfl rfl rfl⟩
   ·exact .inr ⟨q,q'⟩
  have:=go_words ok n _ hg (by show ∀ v ∈ (bare R).out,_;rw [b2];intro v hv;cases hv)
  rw [eX] at this
  exact this
 ·have:=go_out c n { bare R with inp:=inp }
  rw [eX] at this
  have e:({ bare R with inp:=inp }:Rn).out=[]:=b2
  rw [e,List.length_nil] at this
  omega
 ·intro q
  have e:goOnP c n { bare R with inp:=inp } = ({ bare R with inp:=inp },R.status):=by
   have:({ bare R with inp:=inp }:Rn).status ≠ 0:=by show (bare R).status ≠ 0;rw [ebs];exact q
   cases n with
   | zero=>rw [<-ebs];rfl
   | succ n=>unfold goOnP;rw [if_pos this,<-ebs]
  rw [<-eX,e]
  exact ⟨rfl,b2,b1⟩
 ·intro q z
  have:=go_done c n { bare R with inp:=inp } (by show (bare R).status=0;rw [ebs];exact q)
  rw [eX] at this
  exact this z
 ·intro q
  have:=(hw.1 q).1
  rw [i1] at this
  omega
 ·intro q z;exact hw.2 z
 ·intro q
  rcases q with q | q
  ·rw [hw.2 (by omega),q]
  ·exact (hw.1 q).2
end Go.Proofs.Ytnfnbcbadakofab
