import Derived.Test.YtnfnbcbadakofaaChk3
import Derived.Deep.RegionHeld3
import Derived.Test.YtnfnbcbadakofaaSame
namespace Go.Proofs.Ytnfnbcbadakofaa
open Go.RowKit
theorem tk_fine {ns:List Int} {lo hi:Int} {s:Nat × Bool} (h:(tk ns lo hi s).2.2=false):s.2=false/\lo<=(tk ns lo hi s).1/\(tk ns lo hi s).1<=hi:=by
 unfold tk at *
 by_cases h1:s.2=true \/ ns.length<=s.1
 ·rw [if_pos h1] at h;cases h
 rw [if_neg h1] at h ⊢
 by_cases h2:ns.getD s.1 0 < lo \/ hi < ns.getD s.1 0
 ·rw [if_pos h2] at h;cases h
 rw [if_neg h2] at h ⊢
 refine ⟨?_,by simp only;omega,by simp only;omega⟩
 cases hs:s.2
 ·rfl
 ·exact absurd (Or.inl hs) h1
theorem tkL_fine {ns:List Int} {hi:Int} (k:Nat):∀ {s:Nat × Bool},(tkL ns hi k s).2.2=false->s.2=false/\∀ x ∈ (tkL ns hi k s).1,0<=x/\x<=hi:=by
 induction k with
 | zero=>intro s h;exact ⟨h,fun x hx=>by simp [tkL] at hx⟩
 | succ k ih =>
  intro s h
  simp only [tkL] at h ⊢
  obtain ⟨a,b⟩:=tk_fine h
  obtain ⟨c,d⟩:=ih a
  refine ⟨c,fun x hx=>?_⟩
  rcases List.mem_append.1 hx with hx | hx
  ·exact d x hx
  ·simp only [List.mem_singleton] at hx;subst hx;exact b
def InsOk (ls:List (List Int)) (fu lo co:Int) (x:Int × Int × Int):Prop:=
 (0<=x.1/\x.1<=18)/\((bA ls.length fu lo co x.1).1<=x.2.1/\x.2.1<=(bA ls.length fu lo co x.1).2)/\0<=x.2.2/\x.2.2<=gB ls x.1 x.2.1
theorem tkI_fine {ns:List Int} {ls:List (List Int)} {fu lo co:Int} {s:Nat × Bool} (h:(tkI ns ls fu lo co s).2.2=false):s.2=false/\InsOk ls fu lo co (tkI ns ls fu lo co s).1:=by
 simp only [tkI] at h ⊢
 obtain ⟨a,b⟩:=tk_fine h
 obtain ⟨c,d⟩:=tk_fine a
 obtain ⟨e,f⟩:=tk_fine c
 exact ⟨e,f,d,b⟩
theorem tkC_fine {ns:List Int} {ls:List (List Int)} {fu lo co:Int} (k:Nat):∀ {s:Nat × Bool},(tkC ns ls fu lo co k s).2.2=false->s.2=false/\∀ x ∈ (tkC ns ls fu lo co k s).1,InsOk ls fu lo co x:=by
 induction k with
 | zero=>intro s h;exact ⟨h,fun x hx=>by simp [tkC] at hx⟩
 | succ k ih =>
  intro s h
  simp only [tkC] at h ⊢
  obtain ⟨a,b⟩:=tkI_fine h
  obtain ⟨c,d⟩:=ih a
  refine ⟨c,fun x hx=>?_⟩
  rcases List.mem_append.1 hx with hx | hx
  ·exact d x hx
  ·simp only [List.mem_singleton] at hx;subst hx;exact b
structure FnOk (ls:List (List Int)) (fu:Int) (first:Bool) (f:Fn):Prop where
 a0:0<=f.args
 a4:f.args<=4
 al:f.args<=(f.locals.length:Int)
 l8:f.locals.length<=8
 lt:∀ t ∈ f.locals,0<=t/\t<=(ls.length:Int)
 r:0<=f.result/\f.result<=(ls.length:Int)
 c1:1<=f.code.length
 c64:f.code.length<=64
 ok:∀ x ∈ f.code,InsOk ls fu f.locals.length f.code.length x
 fst:first=true->f.args=0/\f.result=0
theorem tkF_fine {ns:List Int} {ls:List (List Int)} {fu:Int} {first:Bool} {s:Nat × Bool} (h:(tkF ns ls fu first s).2.2=false):s.2=false/\FnOk ls fu first (tkF ns ls fu first s).1:=by
 have e:tkF ns ls fu first s=(let r1:=tk ns 0 (if first then 0 else 4) s;let r2:=tk ns r1.1 8 r1.2;let r3:=tkL ns ls.length r2.1.toNat r2.2;let r4:=tk ns 0 (if first then 0 else ls.length) r3.2;let r5:=tk ns 1 64 r4.2
  let r6:=tkC ns ls fu r2.1 r5.1 r5.1.toNat r5.2;(⟨r1.1,r3.1,r4.1,r6.1⟩,r6.2)):=rfl
 rw [e] at h ⊢
 simp only at h ⊢
 obtain ⟨a6,b6⟩:=tkC_fine _ h
 obtain ⟨a5,b5⟩:=tk_fine a6
 obtain ⟨a4,b4⟩:=tk_fine a5
 obtain ⟨a3,b3⟩:=tkL_fine _ a4
 obtain ⟨a2,b2⟩:=tk_fine a3
 obtain ⟨a1,b1⟩:=tk_fine a2
 have l3:=tkL_len ns ls.length (tk ns (tk ns 0 (if first then 0 else 4) s).1 8 (tk ns 0 (if first then 0 else 4) s).2).1.toNat (tk ns (tk ns 0 (if first then 0 else 4) s).1 8 (tk ns 0 (if first then 0 else 4) s).2).2
 have l6:=fun lo co k s=>tkC_len ns ls fu lo co k s
 generalize tk ns 0 (if first then 0 else 4) s=r1 at *
 generalize tk ns r1.1 8 r1.2=r2 at *
 generalize tkL ns ls.length r2.1.toNat r2.2=r3 at *
 generalize tk ns 0 (if first then 0 else (ls.length:Int)) r3.2=r4 at *
 generalize tk ns 1 64 r4.2=r5 at *
 have l6:=l6 r2.1 r5.1 r5.1.toNat r5.2
 generalize tkC ns ls fu r2.1 r5.1 r5.1.toNat r5.2=r6 at *
 have q1:r1.1<=4:=by cases first <;> simp at b1 <;> omega
 have q4:r4.1<=(ls.length:Int):=by cases first <;> simp at b4 <;> omega
 have e3:(r3.1.length:Int)=r2.1:=by omega
 have e6:(r6.1.length:Int)=r5.1:=by omega
 refine ⟨a1,b1.1,q1,by simp only;omega,by simp only;omega,b3,⟨b4.1,q4⟩,by simp only;omega,by simp only;omega,fun x hx=>?_,fun hf=>?_⟩
 ·simp only [e3,e6];exact b6 x hx
 ·subst hf;simp at b1 b4;exact ⟨by simp only;omega,by simp only;omega⟩
theorem tkT_fine {ns:List Int} {n:Int} (k:Nat):∀ {s:Nat × Bool},(tkT ns n k s).2.2=false->s.2=false/\∀ l ∈ (tkT ns n k s).1,l.length<=5/\∀ t ∈ l,0<=t/\t<=n:=by
 induction k with
 | zero=>intro s h;exact ⟨h,fun x hx=>by simp [tkT] at hx⟩
 | succ k ih =>
  intro s h
  simp only [tkT] at h ⊢
  obtain ⟨a,b⟩:=tkL_fine _ h
  obtain ⟨c,d⟩:=tk_fine a
  obtain ⟨e,f⟩:=ih c
  refine ⟨e,fun x hx=>?_⟩
  rcases List.mem_append.1 hx with hx | hx
  ·exact f x hx
  ·simp only [List.mem_singleton] at hx;subst hx;exact ⟨by rw [tkL_len];omega,b⟩
theorem tkFs_fine {ns:List Int} {ls:List (List Int)} {fu:Int} (k:Nat):∀ {s:Nat × Bool},(tkFs ns ls fu k s).2.2=false->s.2=false/\∀ j (hj:j < (tkFs ns ls fu k s).1.length),FnOk ls fu (j == 0) (tkFs ns ls fu k s).1[j]:=by
 induction k with
 | zero=>intro s h;exact ⟨h,fun x hx=>by simp [tkFs] at hx⟩
 | succ k ih =>
  intro s h
  simp only [tkFs] at h ⊢
  obtain ⟨a,b⟩:=tkF_fine h
  obtain ⟨c,d⟩:=ih a
  refine ⟨c,fun j hj=>?_⟩
  have hk:=tkFs_len ns ls fu k s
  rw [List.getElem_append]
  split
  ·exact d j _
  ·rename_i hge
   have:j=k:=by simp at hj;omega
   subst this
   simpa using b
end Go.Proofs.Ytnfnbcbadakofaa
