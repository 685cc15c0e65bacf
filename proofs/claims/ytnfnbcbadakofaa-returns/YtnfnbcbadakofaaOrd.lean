import Derived.Test.YtnfnbcbadakofaaSame2
import Derived.Deep.RegionLaw
import Derived.Deep.RegionHeld3
namespace Go.Proofs.Ytnfnbcbadakofaa
open Go Go.RowKit
section
variable {P:Program} {ops:Array Oper} {Q:Exit->Act->World->Prop} {md:Region.Mode} {S:World->Prop} {d:Nat}
def wpAnyD (P:Program) (md:Region.Mode) (ops:Array Oper) (Q:Exit->Act->World->Prop) (S:World->Prop) (d:Nat):Nat->Array Bool->Act->World->Prop
 | 0,listed,a,w=>Region.ready md ops listed=[]/\Q .normal a w
 | fuel+1,listed,a,w =>
  (Region.ready md ops listed=[]->Q .normal a w) /\
  ∀ i ∈ Region.ready md ops listed,wpOp P ops Q i (fun a' w'=>(i ≠ d->S w')/\wpAnyD P md ops Q S d fuel (listed.setIfInBounds i true) a' w') a w
theorem wpAny_of_D:∀ (fuel:Nat) (listed:Array Bool) (a:Act) (w:World),wpAnyD P md ops Q S d fuel listed a w->wpAny P md ops Q fuel listed a w
 | 0,_,_,_,h=>h
 | fuel+1,_,_,_,h=>⟨h.1,fun i hi=>wpOp_mono (fun a' w' h'=>wpAny_of_D fuel _ a' w' h'.2) (h.2 i hi)⟩
theorem waitsNot {i j:Nat} {oj:Oper} {listed:Array Bool} (hr:i ∈ Region.ready md ops listed) (hj:j ∈ Region.ready md ops listed) (hoj:ops[j]?=some oj):∀ e ∈ oj.after,Region.binds md e=true->e.on ≠ i:=by
 rintro e he hb rfl
 obtain ⟨_,o,ho,hall⟩:=mem_ready.1 hj
 rw [hoj] at ho
 cases ho
 have h1:=hall e he hb
 have h0:=(mem_ready.1 hr).1
 cases hx:listed[e.on]? with
 | none=>simp [hx] at h1
 | some x=>simp [hx] at h0 h1;rw [h0] at h1;cases h1
def Apart (md:Region.Mode) (ops:Array Oper) (i:Nat) (oi:Oper) (listed:Array Bool):Prop:=
 ∀ j oj,ops[j]?=some oj->j ≠ i->listed.getD j true=false->(∀ e ∈ oj.after,Region.binds md e=true->e.on ≠ i)->oi.apart ops oj=true
theorem Apart.more {i:Nat} {oi:Oper} {listed:Array Bool} (h:Apart md ops i oi listed) {j:Nat} (hj:listed.getD j true=false):Apart md ops i oi (listed.setIfInBounds j true):=by
 intro k ok hk hki hun hno
 by_cases e:j=k
 ·exact h k ok hk hki (e ▸ hj) hno
 ·exact h k ok hk hki (by rwa [getD_set_ne true e] at hun) hno
theorem wpAnyD_first {i:Nat} {oi:Oper} {v:Value} (hi:ops[i]?=some oi) (hsel:∀ (j:Nat) (o:Oper) cs b,ops[j]?=some o->o.op ≠ .select cs b)
 (hQ:∀ c a w,Q (.panic c) (a.put oi.dst v) w->Q (.panic c) a w) (hd:∀ od,ops[d]?=some od->∃ e ∈ od.after,Region.binds md e=true/\e.on=i) (hid:i ≠ d)
 (fuel:Nat):∀ (listed:Array Bool) (a:Act) (w:World),Apart md ops i oi listed->i ∈ Region.ready md ops listed->YieldsIf P ops S oi v a->S w ->
   wpAnyD P md ops Q S d fuel (listed.setIfInBounds i true) (a.put oi.dst v) w->wpAnyD P md ops Q S d (fuel+1) listed a w:=by
 induction fuel with
 | zero =>
  intro listed a w _ hr hy hS H
  refine ⟨fun h0=>absurd hr (by rw [h0];simp),fun j hj=>?_⟩
  rcases Nat.decEq j i with hne | rfl
  ·exact absurd (ready_mono hj hne) (by rw [H.1];simp)
  ·exact hy.wpOp hi hS ⟨fun _=>hS,H⟩
 | succ fuel ih =>
  intro listed a w hap hr hy hS H
  refine ⟨fun h0=>absurd hr (by rw [h0];simp),fun j hj=>?_⟩
  rcases Nat.decEq j i with hne | rfl
  ·obtain ⟨hun,oj,hoj,_⟩:=mem_ready.1 hj
   have hw:=waitsNot hr hj hoj
   have hjd:j ≠ d:=by
    rintro rfl
    obtain ⟨e,he,hb,ho⟩:=hd oj hoj
    exact hw e he hb ho
   have step:=wpOp_putIf hoj (hap j oj hoj hne hun hw) (fun cs b=>hsel i oi cs b hi) (fun cs b=>hsel j oj cs b hoj) hQ hy (H.2 j (ready_mono hj hne))
   refine wpOp_mono (fun a' w' k=>?_) step
   have hS':=k.2.1 hjd
   refine ⟨fun _=>hS',ih _ a' w' (hap.more hun) (ready_mono hr (Ne.symm hne)) k.1 hS' ?_⟩
   rw [Array.setIfInBounds_comm _ _ hne]
   exact k.2.2
  ·exact hy.wpOp hi hS ⟨fun _=>hS,H⟩
def waitsB (md:Region.Mode) (ops:Array Oper) (d i:Nat):Bool:=match ops[d]? with
 | some od=>od.after.any fun e=>Region.binds md e && e.on == i
 | none=>true
theorem wpAnyD_take {i:Nat} {oi:Oper} {v:Value} {fuel:Nat} {listed:Array Bool} {a:Act} {w:World} (hi:ops[i]?=some oi)
 (hs:Region.noSelect ops=true) (hf:Region.free md ops listed i=true) (hr:(Region.ready md ops listed).contains i=true) (hd:waitsB md ops d i=true) (hid:i ≠ d)
 (hQ:∀ c a w,Q (.panic c) (a.put oi.dst v) w->Q (.panic c) a w) (hy:YieldsIf P ops S oi v a) (hS:S w)
 (h:wpAnyD P md ops Q S d fuel (listed.setIfInBounds i true) (a.put oi.dst v) w):wpAnyD P md ops Q S d (fuel+1) listed a w:=by
 refine wpAnyD_first hi (Region.noSelect_spec hs) hQ ?_ hid fuel listed a w (Region.free_spec hi hf) (by simpa using hr) hy hS h
 intro od hod
 unfold waitsB at hd
 rw [hod] at hd
 simp only [Array.any_eq_true] at hd
 obtain ⟨k,hk,he⟩:=hd
 refine ⟨od.after[k],Array.getElem_mem hk,?_⟩
 simpa using he
theorem wpAnyD_one {i:Nat} {oi:Oper} {fuel:Nat} {listed:Array Bool} {a:Act} {w:World} (hi:ops[i]?=some oi) (hr:Region.ready md ops listed=[i])
 (h:∀ K:Act->World->Prop,(∀ a' w',(i ≠ d->S w')->wpAnyD P md ops Q S d fuel (listed.setIfInBounds i true) a' w'->K a' w') ->
   if Region.wanted oi (yielded ops a.tmps)=true then Oper.wp P oi a w K Q else K (a.put oi.dst undef) w):wpAnyD P md ops Q S d (fuel+1) listed a w:=by
 refine ⟨fun h0=>absurd (hr ▸ h0) (by simp),?_⟩
 rw [hr]
 intro j hj
 simp only [List.mem_singleton] at hj
 subst hj
 unfold wpOp
 rw [hi]
 have hh:=h (fun a' w'=>(j ≠ d->S w')/\wpAnyD P md ops Q S d fuel (listed.setIfInBounds j true) a' w') (fun a' w' hs hk=>⟨hs,hk⟩)
 simp only []
 by_cases hw:Region.wanted oi (yielded ops a.tmps)=true
 ·rw [if_pos hw] at hh ⊢;exact .inl hh
 ·rw [if_neg hw] at hh ⊢;exact hh
theorem wpAnyD_done {listed:Array Bool} {a:Act} {w:World} (hr:Region.ready md ops listed=[]) (h:Q .normal a w) :
 ∀ fuel,wpAnyD P md ops Q S d fuel listed a w
 | 0=>⟨hr,h⟩
 | _+1=>⟨fun _=>h,by rw [hr];simp⟩
theorem wp_region_D {id:Nat} {a:Act} {w:World} (S:World->Prop) (d:Nat) (hm:P.follows .mixedOrders=true)
 (h:wpAnyD P .any ops Q S d ops.size (Array.replicate ops.size false) a w.drew):(Code.region id ops true).wp P Q a w:=
 wp_region_any hm (wpAny_of_D _ _ _ _ h)
end
end Go.Proofs.Ytnfnbcbadakofaa
