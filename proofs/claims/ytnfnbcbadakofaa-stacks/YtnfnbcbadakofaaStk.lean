import Derived.Test.YtnfnbcbadakofaaChecksw
namespace Go.Proofs.Ytnfnbcbadakofaa
open Go.RowKit

theorem passA_ok {aft : Nat → List Int → Option (List Int)} {wy : Nat → List Int} {M : Nat} (ha : ∀ i s t, aft i s = some t → t.length ≤ M) (i : Nat) (st : Fits) (h : ∀ o ∈ st.1, ∀ s, o = some s → s.length ≤ M) :
    (∀ o ∈ (passA aft wy i st).1, ∀ s, o = some s → s.length ≤ M) ∧ (passA aft wy i st).1.length = st.1.length := by
  unfold passA
  rcases hg : st.1.getD i none with _ | s
  · exact ⟨h, rfl⟩
  · simp only
    rcases he : aft i s with _ | t
    · exact ⟨h, rfl⟩
    · exact gos_ok (ha i s t he) (wy i) st h
theorem fitL_le {aft : Nat → List Int → Option (List Int)} {wy : Nat → List Int} {M : Nat} (ha : ∀ i s t, aft i s = some t → t.length ≤ M) (c : Nat) : ∀ (k : Nat) (st : Fits), (∀ o ∈ st.1, ∀ s, o = some s → s.length ≤ M) →
    (∀ o ∈ (fitL aft wy c k st).1, ∀ s, o = some s → s.length ≤ M) ∧ (fitL aft wy c k st).1.length = st.1.length := by
  induction c with
  | zero => intro k st h; exact ⟨h, rfl⟩
  | succ c ih =>
    intro k st h
    unfold fitL
    split
    · exact ⟨h, rfl⟩
    · obtain ⟨a, b⟩ := passA_ok (wy := wy) ha (st.2.1.getD k 0).toNat st h
      obtain ⟨d, e⟩ := ih (k + 1) _ a
      exact ⟨d, e.trans b⟩
theorem fitF_le (p : Pg) (f : Fn) : (∀ o ∈ (fitF p f).1, ∀ s, o = some s → s.length ≤ 8) ∧ (fitF p f).1.length = f.code.length := by
  have h0 : ∀ o ∈ List.replicate f.code.length (none : Option (List Int)), ∀ s, o = some s → s.length ≤ 8 := fun o ho s hs => by
    rw [List.mem_replicate] at ho; rw [ho.2] at hs; cases hs
  obtain ⟨a, _, c⟩ := goP_ok (q := []) (wr := false) (i := 0) (l := []) h0 (by simp)
  obtain ⟨d, e⟩ := fitL_le (wy := wayC f) (fun i s t h => aftC_le (ls := p.types) (fs := p.funcs) (f := f) h) f.code.length 0 _ a
  exact ⟨d, by rw [show (fitF p f).1.length = _ from e, c]; simp⟩

theorem fitAll_inr {p : Pg} (fs : List Fn) : ∀ (k : Nat) (acc sps : List Spots), fitAll p fs k acc = .inr sps → sps = acc ++ fs.map (fun f => (fitF p f).1) ∧ ∀ f ∈ fs, (fitF p f).2.2 = false := by
  induction fs with
  | nil => intro k acc sps h; simp only [fitAll, Sum.inr.injEq] at h; subst h; exact ⟨by simp, fun f hf => by cases hf⟩
  | cons f fs ih =>
    intro k acc sps h
    unfold fitAll at h
    by_cases hb : (fitF p f).2.2 = true
    · rw [if_pos hb] at h; cases h
    · rw [if_neg hb] at h
      obtain ⟨a, b⟩ := ih _ _ _ h
      refine ⟨by rw [a]; simp, fun g hg => ?_⟩
      rcases List.mem_cons.1 hg with rfl | hg
      · simpa using hb
      · exact b g hg

/-- what a program that is taken is -/
theorem opF_ok {s : ByteArray} (h : (opF s).1 = 0) : PgWf (opF s).2.2.1 ∧ (opF s).2.1 = 0 ∧ (opF s).2.2.2 = (opF s).2.2.1.funcs.map (fun f => (fitF (opF s).2.2.1 f).1) ∧ ∀ f ∈ (opF s).2.2.1.funcs, (fitF (opF s).2.2.1 f).2.2 = false := by
  by_cases h1 : (opn s).1 = 0
  · rcases hA : fitAll (opn s).2.2 (opn s).2.2.funcs 0 [] with k | sps
    · rw [opF_2 h1 k hA] at h; cases h
    · rw [opF_3 h1 sps hA]
      obtain ⟨a, b⟩ := fitAll_inr _ _ _ _ hA
      exact ⟨opn_wf h1, rfl, by simpa using a, b⟩
  · rw [opF_1 h1] at h; exact absurd h h1

/-- the spot of an instruction -/
def spP (sps : List Spots) (f i : Int) : Option (List Int) :=
  if f < 0 ∨ (sps.length : Int) ≤ f then none else if i < 0 ∨ ((sps.getD f.toNat []).length : Int) ≤ i then none else (sps.getD f.toNat []).getD i.toNat none

theorem SpotsL.form {w : World} {base : Nat} {v : Value} {sps : List Spots} (h : SpotsL w base v sps) (hl : 0 < sps.length) :
    ∃ g cap, v = .slice (some ⟨g, 0, none⟩) sps.length cap ∧ sps.length ≤ cap ∧ ∀ j, j < sps.length → ∃ x, w.cell? ⟨g, j, none⟩ = some x ∧ SpotsV w base x (sps.getD j []) := by
  obtain ⟨vs, h, hx⟩ := h
  have hc := fun g => World.ownsRow.cells (g := g) h
  have hvl : vs.length = sps.length := by have := h.1; omega
  rcases h.2 with ⟨_, h0⟩ | ⟨g, cap, cur, rfl, hb, hgg, hle, hcap, _⟩
  · omega
  · refine ⟨g, cap, rfl, hle, fun j hj => ?_⟩
    have hadd : (⟨g, 0, none⟩ : Addr).add j = ⟨g, j, none⟩ := by unfold Addr.add; split <;> simp_all
    have hg : vs[j]? = some vs[j] := List.getElem?_eq_getElem (by omega)
    have a1 := hc g rfl j _ hg
    rw [hadd] at a1
    exact ⟨_, a1, hx j _ hg⟩
theorem SpotsV.form {w : World} {base : Nat} {v : Value} {sp : Spots} (h : SpotsV w base v sp) (hl : 0 < sp.length) :
    ∃ g cap, v = .slice (some ⟨g, 0, none⟩) sp.length cap ∧ sp.length ≤ cap ∧ ∀ j, j < sp.length → ∃ x, w.cell? ⟨g, j * 2, none⟩ = some (.bool (sp.getD j none).isSome) ∧ w.cell? ⟨g, j * 2 + 1, none⟩ = some x ∧ IntsV w base x ((sp.getD j none).getD []) := by
  obtain ⟨xs, h1, h, hx⟩ := h
  subst h1
  have hc := fun g => World.ownsRow.cells (g := g) h
  simp only [List.length_map] at *
  rcases h.2 with ⟨_, h0⟩ | ⟨g, cap, cur, rfl, hb, hgg, hle, hcap, _⟩
  · omega
  · refine ⟨g, cap, rfl, hle, fun j hj => ?_⟩
    have hadd : ∀ j, (⟨g, 0, none⟩ : Addr).add j = ⟨g, j, none⟩ := by intro j; unfold Addr.add; split <;> simp_all
    obtain ⟨k1, k2⟩ := spC_get xs j hj
    have a1 := hc g rfl _ _ k1
    have a2 := hc g rfl _ _ k2
    rw [hadd] at a1 a2
    have e : (xs.map (·.1)).getD j none = xs[j].1 := by rw [List.getD_eq_getElem?_getD, List.getElem?_map, List.getElem?_eq_getElem hj]; rfl
    rw [e]
    exact ⟨_, a1, a2, hx _ (List.getElem_mem hj)⟩

def SaEnd (w : World) (base : Nat) (P : Option (List Int)) (e : Ending) (w' : World) : Prop :=
  ∃ v, e = .returned (.agg #[.bool P.isSome, v]) ∧ IntsV w' base v (P.getD []) ∧ Chg (fun _ => False) w w'

set_option maxHeartbeats 1000000 in
set_option maxRecDepth 100000 in
theorem spotAt_f (a : Option Addr) (n c : Nat) (f i : Int) (w : World) (base : Nat) (h : f < 0 ∨ (n : Int) ≤ f) : Calls Try.prog 51 #[.slice a n c, .int .i64 f, .int .i64 i] w (SaEnd w base none) := by
  by_cases h1 : f < 0
  · clear h
    go_enter Try.func51, Try.ntmps51
    go_wp2
    exact bodyPost_ret (v := .agg #[.bool false, .slice none 0 0]) (by simp [results, Try.results51, go_sem]) rfl ⟨_, rfl, World.ownsRow_nil _ _ _ _, (Chg.refl _ w).alloc _⟩
  · have h2 : (n : Int) ≤ f := by omega
    clear h
    go_enter Try.func51, Try.ntmps51
    go_wp2
    exact bodyPost_ret (v := .agg #[.bool false, .slice none 0 0]) (by simp [results, Try.results51, go_sem]) rfl ⟨_, rfl, World.ownsRow_nil _ _ _ _, (Chg.refl _ w).alloc _⟩

set_option maxHeartbeats 1000000 in
set_option maxRecDepth 100000 in
theorem spotAt_i (g n c k m mc : Nat) (ma : Option Addr) (i : Int) (w : World) (base : Nat) (hk : k < n) (hc : w.cell? ⟨g, k, none⟩ = some (.slice ma m mc)) (h : i < 0 ∨ (m : Int) ≤ i) : Calls Try.prog 51 #[.slice (some ⟨g, 0, none⟩) n c, .int .i64 (k : Int), .int .i64 i] w (SaEnd w base none) := by
  have hk' : (k : Int) < (n : Int) := by omega
  have hg := World.block_lt_of_cell? w _ hc
  have hc' : (w.alloc (Obj.cells #[.bool false, .slice none 0 0] 107)).cell? ⟨g, k, none⟩ = some (.slice ma m mc) := (World.cell?_of_block (Below.heap_alloc _ _ _ hg)).trans hc
  by_cases h1 : i < 0
  · clear h
    go_enter Try.func51, Try.ntmps51
    go_wp2
    exact bodyPost_ret (v := .agg #[.bool false, .slice none 0 0]) (by simp [results, Try.results51, go_sem]) rfl ⟨_, rfl, World.ownsRow_nil _ _ _ _, (Chg.refl _ w).alloc _⟩
  · have h2 : (m : Int) ≤ i := by omega
    clear h
    go_enter Try.func51, Try.ntmps51
    go_wp2
    exact bodyPost_ret (v := .agg #[.bool false, .slice none 0 0]) (by simp [results, Try.results51, go_sem]) rfl ⟨_, rfl, World.ownsRow_nil _ _ _ _, (Chg.refl _ w).alloc _⟩

set_option maxHeartbeats 1000000 in
set_option maxRecDepth 100000 in
theorem spotAt_yes (g n c k g2 m mc j xn xc : Nat) (xa : Option Addr) (b : Bool) (w : World) (hk : k < n) (hj : j < m) (hc : w.cell? ⟨g, k, none⟩ = some (.slice (some ⟨g2, 0, none⟩) m mc)) (h0 : w.cell? ⟨g2, j * 2, none⟩ = some (.bool b)) (h1 : w.cell? ⟨g2, j * 2 + 1, none⟩ = some (.slice xa xn xc)) :
    Calls Try.prog 51 #[.slice (some ⟨g, 0, none⟩) n c, .int .i64 (k : Int), .int .i64 (j : Int)] w fun e w' => e = .returned (.agg #[.bool b, .slice xa xn xc]) ∧ Chg (fun _ => False) w w' := by
  have hk' : (k : Int) < (n : Int) := by omega
  have hj' : (j : Int) < (m : Int) := by omega
  have hg := World.block_lt_of_cell? w _ hc
  have hg2 := World.block_lt_of_cell? w _ h0
  have hc' : (w.alloc (Obj.cells #[.bool false, .slice none 0 0] 107)).cell? ⟨g, k, none⟩ = some (.slice (some ⟨g2, 0, none⟩) m mc) := (World.cell?_of_block (Below.heap_alloc _ _ _ hg)).trans hc
  have h0' : (w.alloc (Obj.cells #[.bool false, .slice none 0 0] 107)).cell? ⟨g2, j * 2, none⟩ = some (.bool b) := (World.cell?_of_block (Below.heap_alloc _ _ _ hg2)).trans h0
  have h1' : (w.alloc (Obj.cells #[.bool false, .slice none 0 0] 107)).cell? ⟨g2, j * 2 + 1, none⟩ = some (.slice xa xn xc) := (World.cell?_of_block (Below.heap_alloc _ _ _ (World.block_lt_of_cell? w _ h1))).trans h1
  go_enter Try.func51, Try.ntmps51
  go_wp2
  exact bodyPost_ret (v := .agg #[.bool b, .slice xa xn xc]) (by simp [results, Try.results51, go_sem]) rfl ⟨rfl, (Chg.refl _ w).alloc _⟩

theorem spotAt_any (v : Value) (sps : List Spots) (f i : Int) (w : World) (base : Nat) (h : SpotsL w base v sps) : Calls Try.prog 51 #[v, .int .i64 f, .int .i64 i] w (SaEnd w base (spP sps f i)) := by
  by_cases hf : f < 0 ∨ (sps.length : Int) ≤ f
  · obtain ⟨a, c, rfl⟩ := h.slice
    have e : spP sps f i = none := if_pos hf
    rw [e]
    exact spotAt_f a _ c f i w base hf
  · obtain ⟨k, rfl⟩ : ∃ k : Nat, f = (k : Int) := ⟨f.toNat, by omega⟩
    obtain ⟨g, c, rfl, _, hc⟩ := h.form (by omega)
    obtain ⟨x, hx, hs⟩ := hc k (by omega)
    by_cases hi : i < 0 ∨ ((sps.getD k []).length : Int) ≤ i
    · obtain ⟨ma, mc, rfl⟩ := hs.slice
      have e : spP sps (k : Int) i = none := by unfold spP; rw [if_neg hf]; exact if_pos hi
      rw [e]
      exact spotAt_i g _ c k _ mc ma i w base (by omega) hx hi
    · obtain ⟨j, rfl⟩ : ∃ j : Nat, i = (j : Int) := ⟨i.toNat, by omega⟩
      have e : spP sps (k : Int) (j : Int) = (sps.getD k []).getD j none := by unfold spP; rw [if_neg hf]; exact if_neg hi
      rw [e]
      obtain ⟨g2, mc, rfl, _, hc2⟩ := hs.form (by omega)
      obtain ⟨y, h0, h1, hy⟩ := hc2 j (by omega)
      obtain ⟨ya, yc, rfl⟩ := hy.slice
      refine (spotAt_yes g _ c k g2 _ mc j _ yc ya _ w (by omega) (by omega) hx h0 h1).mono ?_
      rintro e w' ⟨rfl, hch⟩
      exact ⟨_, rfl, hy.chg hch (fun _ _ _ e => e), hch⟩
end Go.Proofs.Ytnfnbcbadakofaa
