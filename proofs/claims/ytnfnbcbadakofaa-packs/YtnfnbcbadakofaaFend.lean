import Derived.Test.YtnfnbcbadakofaaRspr2
import Derived.Deep.OwnRows
import Derived.Laws.MakeOwn
namespace Go.Proofs.Ytnfnbcbadakofaa
open Go.RowKit
theorem tk_fine {ns:List Int} {lo hi:Int} {s:Nat × Bool} (h:(tk ns lo hi s).2.2=false):s.2=false/\lo<=(tk ns lo hi s).1/\(tk ns lo hi s).1<=hi:=by
 unfold tk at *
 by_cases h1:s.2=true \/ ns.length<=s.1
 ·rw [if_pos h1] at h;cases h
 rw [if_neg h1] at h ⊢
 by_cases h2:ns.getD s.1 0 < lo \/ hi < ns.getD s.1 0
 ·rw [if_pos h2] at h;cases h
 rw [if_neg h2] at h ⊢
 refine ⟨?_,by simp only;omega,by simp only;omega⟩
 cases hs:s.2
 ·rfl
 ·exact absurd (Or.inl hs) h1
theorem tkL_fine {ns:List Int} {hi:Int} (k:Nat):∀ {s:Nat × Bool},(tkL ns hi k s).2.2=false->s.2=false/\∀ x ∈ (tkL ns hi k s).1,0<=x/\x<=hi:=by
 induction k with
 | zero=>intro s h;exact ⟨h,fun x hx=>by simp [tkL] at hx⟩
 | succ k ih =>
  intro s h
  simp only [tkL] at h ⊢
  obtain ⟨a,b⟩:=tk_fine h
  obtain ⟨c,d⟩:=ih a
  refine ⟨c,fun x hx=>?_⟩
  rcases List.mem_append.1 hx with hx | hx
  ·exact d x hx
  ·simp only [List.mem_singleton] at hx;subst hx;exact b
def InsOk (ls:List (List Int)) (fu lo co:Int) (x:Int × Int × Int):Prop:=
 (0<=x.1/\x.1<=18)/\((bA ls.length fu lo co x.1).1<=x.2.1/\x.2.1<=(bA ls.length fu lo co x.1).2)/\0<=x.2.2/\x.2.2<=gB ls x.1 x.2.1
theorem tkI_fine {ns:List Int} {ls:List (List Int)} {fu lo co:Int} {s:Nat × Bool} (h:(tkI ns ls fu lo co s).2.2=false):s.2=false/\InsOk ls fu lo co (tkI ns ls fu lo co s).1:=by
 simp only [tkI] at h ⊢
 obtain ⟨a,b⟩:=tk_fine h
 obtain ⟨c,d⟩:=tk_fine a
 obtain ⟨e,f⟩:=tk_fine c
 exact ⟨e,f,d,b⟩
theorem tkC_fine {ns:List Int} {ls:List (List Int)} {fu lo co:Int} (k:Nat):∀ {s:Nat × Bool},(tkC ns ls fu lo co k s).2.2=false->s.2=false/\∀ x ∈ (tkC ns ls fu lo co k s).1,InsOk ls fu lo co x:=by
 induction k with
 | zero=>intro s h;exact ⟨h,fun x hx=>by simp [tkC] at hx⟩
 | succ k ih =>
  intro s h
  simp only [tkC] at h ⊢
  obtain ⟨a,b⟩:=tkI_fine h
  obtain ⟨c,d⟩:=ih a
  refine ⟨c,fun x hx=>?_⟩
  rcases List.mem_append.1 hx with hx | hx
  ·exact d x hx
  ·simp only [List.mem_singleton] at hx;subst hx;exact b
structure FnOk (ls:List (List Int)) (fu:Int) (first:Bool) (f:Fn):Prop where
 a0:0<=f.args
 a4:f.args<=4
 al:f.args<=(f.locals.length:Int)
 l8:f.locals.length<=8
 lt:∀ t ∈ f.locals,0<=t/\t<=(ls.length:Int)
 r:0<=f.result/\f.result<=(ls.length:Int)
 c1:1<=f.code.length
 c64:f.code.length<=64
 ok:∀ x ∈ f.code,InsOk ls fu f.locals.length f.code.length x
 fst:first=true->f.args=0/\f.result=0
theorem tkF_fine {ns:List Int} {ls:List (List Int)} {fu:Int} {first:Bool} {s:Nat × Bool} (h:(tkF ns ls fu first s).2.2=false):s.2=false/\FnOk ls fu first (tkF ns ls fu first s).1:=by
 have e:tkF ns ls fu first s=(let r1:=tk ns 0 (if first then 0 else 4) s;let r2:=tk ns r1.1 8 r1.2;let r3:=tkL ns ls.length r2.1.toNat r2.2;let r4:=tk ns 0 (if first then 0 else ls.length) r3.2;let r5:=tk ns 1 64 r4.2
  let r6:=tkC ns ls fu r2.1 r5.1 r5.1.toNat r5.2;(⟨r1.1,r3.1,r4.1,r6.1⟩,r6.2)):=rfl
 rw [e] at h ⊢
 simp only at h ⊢
 obtain ⟨a6,b6⟩:=tkC_fine _ h
 obtain ⟨a5,b5⟩:=tk_fine a6
 obtain ⟨a4,b4⟩:=tk_fine a5
 obtain ⟨a3,b3⟩:=tkL_fine _ a4
 obtain ⟨a2,b2⟩:=tk_fine a3
 obtain ⟨a1,b1⟩:=tk_fine a2
 have l3:=tkL_len ns ls.length (tk ns (tk ns 0 (if first then 0 else 4) s).1 8 (tk ns 0 (if first then 0 else 4) s).2).1.toNat (tk ns (tk ns 0 (if first then 0 else 4) s).1 8 (tk ns 0 (if first then 0 else 4) s).2).2
 have l6:=fun lo co k s=>tkC_len ns ls fu lo co k s
 generalize tk ns 0 (if first then 0 else 4) s=r1 at *
 generalize tk ns r1.1 8 r1.2=r2 at *
 generalize tkL ns ls.length r2.1.toNat r2.2=r3 at *
 generalize tk ns 0 (if first then 0 else (ls.length:Int)) r3.2=r4 at *
 generalize tk ns 1 64 r4.2=r5 at *
 have l6:=l6 r2.1 r5.1 r5.1.toNat r5.2
 generalize tkC ns ls fu r2.1 r5.1 r5.1.toNat r5.2=r6 at *
 have q1:r1.1<=4:=by cases first <;> simp at b1 <;> omega
 have q4:r4.1<=(ls.length:Int):=by cases first <;> simp at b4 <;> omega
 have e3:(r3.1.length:Int)=r2.1:=by omega
 have e6:(r6.1.length:Int)=r5.1:=by omega
 refine ⟨a1,b1.1,q1,by simp only;omega,by simp only;omega,b3,⟨b4.1,q4⟩,by simp only;omega,by simp only;omega,fun x hx=>?_,fun hf=>?_⟩
 ·simp only [e3,e6];exact b6 x hx
 ·subst hf;simp at b1 b4;exact ⟨by simp only;omega,by simp only;omega⟩
theorem tkT_fine {ns:List Int} {n:Int} (k:Nat):∀ {s:Nat × Bool},(tkT ns n k s).2.2=false->s.2=false/\∀ l ∈ (tkT ns n k s).1,l.length<=5/\∀ t ∈ l,0<=t/\t<=n:=by
 induction k with
 | zero=>intro s h;exact ⟨h,fun x hx=>by simp [tkT] at hx⟩
 | succ k ih =>
  intro s h
  simp only [tkT] at h ⊢
  obtain ⟨a,b⟩:=tkL_fine _ h
  obtain ⟨c,d⟩:=tk_fine a
  obtain ⟨e,f⟩:=ih c
  refine ⟨e,fun x hx=>?_⟩
  rcases List.mem_append.1 hx with hx | hx
  ·exact f x hx
  ·simp only [List.mem_singleton] at hx;subst hx;exact ⟨by rw [tkL_len];omega,b⟩
theorem tkFs_fine {ns:List Int} {ls:List (List Int)} {fu:Int} (k:Nat):∀ {s:Nat × Bool},(tkFs ns ls fu k s).2.2=false->s.2=false/\∀ j (hj:j < (tkFs ns ls fu k s).1.length),FnOk ls fu (j == 0) (tkFs ns ls fu k s).1[j]:=by
 induction k with
 | zero=>intro s h;exact ⟨h,fun x hx=>by simp [tkFs] at hx⟩
 | succ k ih =>
  intro s h
  simp only [tkFs] at h ⊢
  obtain ⟨a,b⟩:=tkF_fine h
  obtain ⟨c,d⟩:=ih a
  refine ⟨c,fun j hj=>?_⟩
  have hk:=tkFs_len ns ls fu k s
  rw [List.getElem_append]
  split
  ·exact d j _
  ·rename_i hge
   have:j=k:=by simp at hj;omega
   subst this
   simpa using b
structure PgWf (p:Pg):Prop where
 t6:p.types.length<=6
 tf:∀ l ∈ p.types,l.length<=5/\∀ t ∈ l,0<=t/\t<=(p.types.length:Int)
 f1:1<=p.funcs.length
 f6:p.funcs.length<=6
 fs:∀ j (hj:j < p.funcs.length),FnOk p.types p.funcs.length (j == 0) p.funcs[j]
theorem tkP_fine {ns:List Int} {s:Nat × Bool} (h:(tkP ns s).2.2=false):PgWf (tkP ns s).1:=by
 have e:tkP ns s=(let r0:=tk ns 0 6 s;let r1:=tkT ns r0.1 r0.1.toNat r0.2;let r2:=tk ns 1 6 r1.2;let r3:=tkFs ns r1.1 r2.1 r2.1.toNat r2.2;(⟨r1.1,r3.1⟩,r3.2)):=rfl
 rw [e] at h ⊢
 simp only at h ⊢
 obtain ⟨a3,b3⟩:=tkFs_fine _ h
 obtain ⟨a2,b2⟩:=tk_fine a3
 obtain ⟨a1,b1⟩:=tkT_fine _ a2
 obtain ⟨a0,b0⟩:=tk_fine a1
 have l1:=fun n k s=>tkT_len ns n k s
 have l3:=fun ls fu k s=>tkFs_len ns ls fu k s
 generalize tk ns 0 6 s=r0 at *
 have l1:=l1 r0.1 r0.1.toNat r0.2
 generalize tkT ns r0.1 r0.1.toNat r0.2=r1 at *
 generalize tk ns 1 6 r1.2=r2 at *
 have l3:=l3 r1.1 r2.1 r2.1.toNat r2.2
 generalize tkFs ns r1.1 r2.1 r2.1.toNat r2.2=r3 at *
 have e1:(r1.1.length:Int)=r0.1:=by omega
 have e3:(r3.1.length:Int)=r2.1:=by omega
 refine ⟨by simp only;omega,fun l hl=>⟨(b1 l hl).1,fun t ht=>?_⟩,by simp only;omega,by simp only;omega,fun j hj=>?_⟩
 ·simp only [e1];exact (b1 l hl).2 t ht
 ·simp only [e3];exact b3 j hj
theorem opn_wf {s:ByteArray} (h:(opn s).1=0):PgWf (opn s).2.2:=by
 unfold opn at *
 by_cases h1:800 < s.size
 ·rw [if_pos h1] at h;cases h
 rw [if_neg h1] at h ⊢
 have e2:rdP (bl s)=if (tkP (bl s) (0,false)).2.2=true \/ (tkP (bl s) (0,false)).2.1 < (bl s).length then (2,((tkP (bl s) (0,false)).2.1:Int),⟨[],[]⟩) else (0,0,(tkP (bl s) (0,false)).1):=rfl
 rw [e2] at h ⊢
 by_cases h2:(tkP (bl s) (0,false)).2.2=true \/ (tkP (bl s) (0,false)).2.1 < (bl s).length
 ·rw [if_pos h2] at h;cases h
 rw [if_neg h2]
 refine tkP_fine ?_
 cases h3:(tkP (bl s) (0,false)).2.2
 ·rfl
 ·exact absurd (Or.inl h3) h2
theorem PgWf.tys {p:Pg} (h:PgWf p) (j:Nat):(p.types.getD j []).length<=5:=by
 rw [List.getD_eq_getElem?_getD]
 rcases Nat.lt_or_ge j p.types.length with hj | hj
 ·rw [List.getElem?_eq_getElem hj];exact (h.tf _ (List.getElem_mem hj)).1
 ·rw [List.getElem?_eq_none hj];simp
theorem PgWf.flds {p:Pg} (h:PgWf p) (a:Int):(flds p.types a).length<=5:=by
 unfold Proofs.Ytnfnbcbadakofaa.flds
 split
 ·simp
 ·exact h.tys _
theorem argsF_len {fs:List Fn} (h:∀ f ∈ fs,f.locals.length<=8) (k:Int):(argsF fs k).length<=8:=by
 unfold argsF
 split
 ·split
  ·simp
  ·rename_i hk _
   have:=h _ (List.getElem_mem hk.2)
   rw [List.length_take];omega
 ·simp
theorem PgWf.fn {p:Pg} (h:PgWf p) {f:Fn} (hf:f ∈ p.funcs):∃ b,FnOk p.types p.funcs.length b f:=by
 obtain ⟨j,hj,rfl⟩:=List.mem_iff_getElem.1 hf
 exact ⟨_,h.fs j hj⟩
theorem ahead_len {p:Pg} (h:PgWf p) (f:Fn) (op A B:Int):(ahead p.types p.funcs f op A B).length<=8:=by
 have h1:=h.flds A
 have h2:=argsF_len (fs:=p.funcs) (fun f hf=>by obtain ⟨b,hb⟩:=h.fn hf;exact hb.l8) A
 unfold ahead
 repeat' split
 all_goals first | omega | simp
theorem behind_len (ls:List (List Int)) (fs:List Fn) (f:Fn) (op A B:Int):(behind ls fs f op A B).length<=1:=by
 unfold behind
 repeat' split
 all_goals simp
theorem PgWf.args {p:Pg} (h:PgWf p):∀ f ∈ p.funcs,0<=f.args/\f.args<=(f.locals.length:Int):=fun f hf=>by
 obtain ⟨b,hb⟩:=h.fn hf;exact ⟨hb.a0,hb.al⟩
theorem PgWf.code {p:Pg} (h:PgWf p) {f:Fn} (hf:f ∈ p.funcs):∀ x ∈ f.code,CodeOk p.types p.funcs f x:=by
 intro x hx
 obtain ⟨b,hb⟩:=h.fn hf
 obtain ⟨⟨o1,o2⟩,⟨a1,a2⟩,b1,b2⟩:=hb.ok x hx
 obtain ⟨op,A,B⟩:=x
 simp only at *
 have h1:=ahead_len h f op A B
 have h2:=behind_len p.types p.funcs f op A B
 refine ⟨o1,o2,⟨?_,?_,?_,?_⟩,by simp only;omega,by simp only;omega,?_⟩
 ·intro h;simp only at h ⊢;rcases h with rfl | rfl <;> simp [bA] at a1 a2 <;> omega
 ·intro h;simp only at h ⊢;rcases h with rfl | rfl | rfl <;> simp [bA] at a1 a2 <;> omega
 ·intro h;simp only at h ⊢;rcases h with rfl | rfl <;> simp [gB] at b2 <;> omega
 ·intro h;simp only at h ⊢;subst h;simp [bA] at a1 a2;omega
 ·intro h;simp only at h ⊢;rcases h with rfl | rfl <;> simp [bA] at a1 a2 <;> omega
theorem PgWf.way {p:Pg} (h:PgWf p) {f:Fn} (hf:f ∈ p.funcs):∀ i,∀ k ∈ wayC f i,0<=k:=by
 intro i k hk
 unfold wayC at hk
 have hx:(f.code.getD i (0,0,0)).1=13 \/ (f.code.getD i (0,0,0)).1=14->0<=(f.code.getD i (0,0,0)).2.1:=by
  rw [List.getD_eq_getElem?_getD]
  rcases Nat.lt_or_ge i f.code.length with hi | hi
  ·rw [List.getElem?_eq_getElem hi];exact (h.code hf _ (List.getElem_mem hi)).2.2.2.2.2
  ·rw [List.getElem?_eq_none hi];simp
 generalize f.code.getD i (0,0,0)=x at *
 unfold waysP at hk
 repeat' split at hk
 all_goals simp at hk
 ·rw [hk];exact hx (.inl ‹_›)
 ·rcases hk with rfl | rfl
  ·exact hx (.inr ‹_›)
  ·omega
 ·omega
end Go.Proofs.Ytnfnbcbadakofaa
namespace Go.Proofs.Ytnfnbcbadakofaa
open Go.RowKit
def SpotsV (w:World) (base:Nat) (v:Value) (sp:Spots):Prop:=∃ xs:List (Option (List Int) × Value),xs.map (·.1)=sp/\w.ownsRow base 107 2 v xs.length (spC xs)/\∀ x ∈ xs,IntsV w base x.2 (x.1.getD [])
theorem chg_set9 (w:World) (b:Nat) (x0 x1 x2 x3 x4 x5 x6 x7 x8:Value):Chg (fun k=>k=b) w (((((((((w.setCell ⟨b,0,none⟩ x0).setCell ⟨b,1,none⟩ x1).setCell ⟨b,2,none⟩ x2).setCell ⟨b,3,none⟩ x3).setCell ⟨b,4,none⟩ x4).setCell ⟨b,5,none⟩ x5).setCell ⟨b,6,none⟩ x6).setCell ⟨b,7,none⟩ x7).setCell ⟨b,8,none⟩ x8):=
 ((((chg_set5 w b x0 x1 x2 x3 x4).setCell _ _ (.inl rfl)).setCell _ _ (.inl rfl)).setCell _ _ (.inl rfl)).setCell _ _ (.inl rfl)
set_option maxHeartbeats 2000000 in
theorem fit_end {w W wr:World} {tb rb:Nat} {s0 s1 s2 s3 s4 s5 sv qv:Value} {ys:List (Option (List Int) × Value)} {q:List Int} {b:Bool} (h:TS W wr tb #[s0,s1,s2,s3,s4,s5] sv qv ys q b) (k:Chg (fun _=>False) w W) (hr:Blk W rb #[.slice none 0 0,.slice none 0 0,.int .i64 0,.slice none 0 0,.int .i64 0,.slice none 0 0,.slice none 0 0,.slice none 0 0,.bool false] 142) (hrb:w.heap.size<=rb) (wf:World)
 (hwf:wf=(((((((((wr.setCell ⟨rb,0,none⟩ s0).setCell ⟨rb,1,none⟩ s1).setCell ⟨rb,2,none⟩ s2).setCell ⟨rb,3,none⟩ s3).setCell ⟨rb,4,none⟩ s4).setCell ⟨rb,5,none⟩ s5).setCell ⟨rb,6,none⟩ sv).setCell ⟨rb,7,none⟩ qv).setCell ⟨rb,8,none⟩ (.bool b))) :
 SpotsV wf w.heap.size sv (ys.map (·.1))/\Chg (fun _=>False) w wf/\(wf.cell? ⟨rb,0,none⟩=some s0/\wf.cell? ⟨rb,1,none⟩=some s1/\wf.cell? ⟨rb,2,none⟩=some s2/\wf.cell? ⟨rb,3,none⟩=some s3/\wf.cell? ⟨rb,4,none⟩=some s4/\wf.cell? ⟨rb,5,none⟩=some s5/\wf.cell? ⟨rb,6,none⟩=some sv/\wf.cell? ⟨rb,7,none⟩=some qv/\wf.cell? ⟨rb,8,none⟩=some (.bool b)):=by
 have hk:=chg_set9 wr rb s0 s1 s2 s3 s4 s5 sv qv (.bool b)
 rw [<-hwf] at hk
 have hr1:=hr.chg h.ch (fun e=>e)
 have b3:=((((((((hr1.set 0 s0).set 1 s1).set 2 s2).set 3 s3).set 4 s4).set 5 s5).set 6 sv).set 7 qv).set 8 (.bool b)
 rw [<-hwf] at b3
 have hs:=k.size
 have e9:((((((((#[Value.slice none 0 0,.slice none 0 0,.int .i64 0,.slice none 0 0,.int .i64 0,.slice none 0 0,.slice none 0 0,.slice none 0 0,.bool false].setIfInBounds 0 s0).setIfInBounds 1 s1).setIfInBounds 2 s2).setIfInBounds 3 s3).setIfInBounds 4 s4).setIfInBounds 5 s5).setIfInBounds 6 sv).setIfInBounds 7 qv).setIfInBounds 8 (.bool b)=#[s0,s1,s2,s3,s4,s5,sv,qv,.bool b]:=by simp
 rw [e9] at b3
 refine ⟨⟨ys,rfl,own_mono (own_chg h.sp hk (fun g hg e=>own_ne h.sp hr1 (by decide) (by rw [hg,e]))) hs,fun x m=>?_⟩,(k.trans h.ch).trans' hk (fun i hi e=>by omega),b3.cell 0,b3.cell 1,b3.cell 2,b3.cell 3,b3.cell 4,b3.cell 5,b3.cell 6,b3.cell 7,b3.cell 8⟩
 have hst:=(h.stk x m _ rfl).1
 exact own_mono (own_chg hst hk (fun g hg e=>own_ne hst hr1 (by decide) (by rw [hg,e]))) hs
end Go.Proofs.Ytnfnbcbadakofaa
