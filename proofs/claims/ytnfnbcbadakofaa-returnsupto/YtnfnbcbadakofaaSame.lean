import Derived.Test.YtnfnbcbadakofaaPure
namespace Go.Proofs.Ytnfnbcbadakofaa
open Go.RowKit

set_option maxHeartbeats 400000 in
set_option maxRecDepth 100000 in
theorem sameInts_core (a1 a2 : Option Addr) (g1 g2 c1 c2 : Nat) (l : List Int) (w : World) (hl : l.length ≤ 10000) (ha : 0 < l.length → a1 = some ⟨g1, 0, none⟩ ∧ a2 = some ⟨g2, 0, none⟩)
    (h1 : ∀ j, j < l.length → w.cell? ⟨g1, j, none⟩ = some (.int .i64 (l.getD j 0))) (h2 : ∀ j, j < l.length → w.cell? ⟨g2, j, none⟩ = some (.int .i64 (l.getD j 0))) :
    Calls Try.prog 26 #[.slice a1 l.length c1, .slice a2 l.length c2] w fun e w' => e = .returned (.bool true) ∧ ∃ n, w' = w.drewN n := by
  go_enter Try.func26, Try.ntmps26
  go_wp2
  go_loopw [5] (fun i wr => ∃ k : Nat, k ≤ l.length ∧ i = .int .i64 k ∧ ∃ n, wr = w.drewN n) (fun i _ => l.length - (intOf i).toNat)
  case atStart => exact ⟨0, Nat.zero_le _, rfl, 0, rfl⟩
  case round =>
    obtain ⟨k, hk, rfl, n, rfl⟩ := hrel
    by_cases hlt : k < l.length
    · obtain ⟨rfl, rfl⟩ := ha (by omega)
      have y1 := h1 k hlt
      have y2 := h2 k hlt
      have hlt' : (k : Int) < (l.length : Int) := by omega
      generalize l.getD k 0 = x at *
      clear h1 h2 ha
      go_wp2
      go_quiet (fail)
      go_wp2
      exact ⟨⟨k + 1, by omega, rfl, _, rfl⟩, by simp [intOf]; omega⟩
    · go_wp2
      go_ret
      exact ⟨rfl, n, rfl⟩

theorem sameInts_true (v1 v2 : Value) (b1 b2 : Nat) (l : List Int) (w : World) (hl : l.length ≤ 10000) (h1 : IntsV w b1 v1 l) (h2 : IntsV w b2 v2 l) :
    Calls Try.prog 26 #[v1, v2] w fun e w' => e = .returned (.bool true) ∧ ∃ n, w' = w.drewN n := by
  by_cases h0 : 0 < l.length
  · obtain ⟨g1, c1, rfl, _, _, _, k1⟩ := h1.form h0
    obtain ⟨g2, c2, rfl, _, _, _, k2⟩ := h2.form h0
    exact sameInts_core _ _ g1 g2 c1 c2 l w hl (fun _ => ⟨rfl, rfl⟩) k1 k2
  · obtain ⟨a1, c1, rfl⟩ := h1.slice
    obtain ⟨a2, c2, rfl⟩ := h2.slice
    exact sameInts_core a1 a2 0 0 c1 c2 l w hl (fun h => absurd h h0) (fun j hj => by omega) (fun j hj => by omega)

/-- What an instruction's cells are. -/
theorem InsV.form {eI : TypeId} {w : World} {base : Nat} {v : Value} {c : List (Int × Int × Int)} (h : InsV eI w base v c) (hl : 0 < c.length) :
    ∃ g cap, v = .slice (some ⟨g, 0, none⟩) c.length cap ∧ base ≤ g ∧ c.length ≤ cap ∧ cap ≤ maxLen ∧ (∀ j (hj : j < c.length), w.cell? ⟨g, j * 3, none⟩ = some (.int .i64 c[j].1) ∧ w.cell? ⟨g, j * 3 + 1, none⟩ = some (.int .i64 c[j].2.1) ∧ w.cell? ⟨g, j * 3 + 2, none⟩ = some (.int .i64 c[j].2.2)) := by
  have hc := fun g => World.ownsRow.cells (g := g) h
  rcases h.2 with ⟨_, h0⟩ | ⟨g, cap, cur, rfl, hb, hgg, hle, hcap, _⟩
  · omega
  · refine ⟨g, cap, rfl, hb, hle, hcap, fun j hj => ?_⟩
    have hadd : ∀ j, (⟨g, 0, none⟩ : Addr).add j = ⟨g, j, none⟩ := by intro j; unfold Addr.add; split <;> simp_all
    have key : ∀ (c : List (Int × Int × Int)) (j : Nat) (hj : j < c.length), (insC c)[j * 3]? = some (.int .i64 c[j].1) ∧ (insC c)[j * 3 + 1]? = some (.int .i64 c[j].2.1) ∧ (insC c)[j * 3 + 2]? = some (.int .i64 c[j].2.2) := by
      intro c
      induction c with
      | nil => intro j hj; simp at hj
      | cons x c ih =>
        intro j hj
        have e : insC (x :: c) = .int .i64 x.1 :: .int .i64 x.2.1 :: .int .i64 x.2.2 :: insC c := by simp [insC]
        rcases j with _ | j
        · rw [e]; simp
        · have := ih j (by simpa using hj)
          rw [e, show (j + 1) * 3 = j * 3 + 3 by omega]
          simpa using this
    obtain ⟨k1, k2, k3⟩ := key c j hj
    have a1 := hc g rfl _ _ k1
    have a2 := hc g rfl _ _ k2
    have a3 := hc g rfl _ _ k3
    rw [hadd] at a1 a2 a3
    exact ⟨a1, a2, a3⟩

set_option maxHeartbeats 1000000 in
set_option maxRecDepth 100000 in
theorem sameFunc_core (a1 a2 k1 k2 : Option Addr) (g1 g2 c1 c2 cc1 cc2 : Nat) (b1 b2 : Nat) (f : Fn) (w : World) (hl : f.locals.length ≤ 10000) (hc : f.code.length ≤ 10000)
    (h1 : IntsV w b1 (.slice a1 f.locals.length c1) f.locals) (h2 : IntsV w b2 (.slice a2 f.locals.length c2) f.locals)
    (ha : 0 < f.code.length → k1 = some ⟨g1, 0, none⟩ ∧ k2 = some ⟨g2, 0, none⟩)
    (x1 : ∀ j (hj : j < f.code.length), w.cell? ⟨g1, j * 3, none⟩ = some (.int .i64 f.code[j].1) ∧ w.cell? ⟨g1, j * 3 + 1, none⟩ = some (.int .i64 f.code[j].2.1) ∧ w.cell? ⟨g1, j * 3 + 2, none⟩ = some (.int .i64 f.code[j].2.2))
    (x2 : ∀ j (hj : j < f.code.length), w.cell? ⟨g2, j * 3, none⟩ = some (.int .i64 f.code[j].1) ∧ w.cell? ⟨g2, j * 3 + 1, none⟩ = some (.int .i64 f.code[j].2.1) ∧ w.cell? ⟨g2, j * 3 + 2, none⟩ = some (.int .i64 f.code[j].2.2)) :
    Calls Try.prog 44 #[.agg #[.int .i64 f.args, .slice a1 f.locals.length c1, .int .i64 f.result, .slice k1 f.code.length cc1], .agg #[.int .i64 f.args, .slice a2 f.locals.length c2, .int .i64 f.result, .slice k2 f.code.length cc2]] w fun e w' => e = .returned (.bool true) ∧ Chg (fun _ => False) w w' := by
  go_enter Try.func44, Try.ntmps44
  go_wp2_with fail
  have ka : Chg (fun _ => False) w ((w.alloc (Obj.cells #[.int .i64 f.args, .slice a1 f.locals.length c1, .int .i64 f.result, .slice k1 f.code.length cc1] 92)).alloc (Obj.cells #[.int .i64 f.args, .slice a2 f.locals.length c2, .int .i64 f.result, .slice k2 f.code.length cc2] 92)) := ((Chg.refl _ w).alloc _).alloc _
  refine (sameInts_true _ _ b1 b2 f.locals _ hl (IntsV.chg h1 ka (fun _ _ _ e => e)) (IntsV.chg h2 ka (fun _ _ _ e => e))).mono ?_
  rintro e w1 ⟨rfl, n, rfl⟩
  have t1 : Blk _ w.heap.size _ 92 := ((Blk.new w #[.int .i64 f.args, .slice a1 f.locals.length c1, .int .i64 f.result, .slice k1 f.code.length cc1] 92).alloc (Obj.cells #[.int .i64 f.args, .slice a2 f.locals.length c2, .int .i64 f.result, .slice k2 f.code.length cc2] 92)).drewN n
  have t2 : Blk _ (w.heap.size + 1) _ 92 := (Blk.new' (w := w.alloc (Obj.cells #[.int .i64 f.args, .slice a1 f.locals.length c1, .int .i64 f.result, .slice k1 f.code.length cc1] 92)) (by simp) #[.int .i64 f.args, .slice a2 f.locals.length c2, .int .i64 f.result, .slice k2 f.code.length cc2] 92).drewN n
  have kb := ka.drewN n
  go_wp2_with fail
  generalize (((w.alloc (Obj.cells #[.int .i64 f.args, .slice a1 f.locals.length c1, .int .i64 f.result, .slice k1 f.code.length cc1] 92)).alloc (Obj.cells #[.int .i64 f.args, .slice a2 f.locals.length c2, .int .i64 f.result, .slice k2 f.code.length cc2] 92)).drewN n) = W at *
  have p0 : W.cell? ⟨w.heap.size, 3, none⟩ = some (.slice k1 f.code.length cc1) := t1.cell 3
  have p1 : W.cell? ⟨w.heap.size + 1, 3, none⟩ = some (.slice k2 f.code.length cc2) := t2.cell 3
  have lift : ∀ (a : Addr) v, w.cell? a = some v → W.cell? a = some v := fun a v h => (World.cell?_of_block (kb.block a.block (World.block_lt_of_cell? w a h) (fun e => e))).trans h
  clear t1 t2 ka
  go_loopw [6] (fun i wr => ∃ k : Nat, k ≤ f.code.length ∧ i = .int .i64 k ∧ ∃ n, wr = W.drewN n) (fun i _ => f.code.length - (intOf i).toNat)
  case atStart => exact ⟨0, Nat.zero_le _, rfl, 0, rfl⟩
  case round =>
    obtain ⟨k, hk, rfl, m, rfl⟩ := hrel
    by_cases hlt : k < f.code.length
    · obtain ⟨rfl, rfl⟩ := ha (by omega)
      obtain ⟨u1, u2, u3⟩ := x1 k hlt
      obtain ⟨v1, v2, v3⟩ := x2 k hlt
      have u1 := lift _ _ u1
      have u2 := lift _ _ u2
      have u3 := lift _ _ u3
      have v1 := lift _ _ v1
      have v2 := lift _ _ v2
      have v3 := lift _ _ v3
      have hlt' : (k : Int) < (f.code.length : Int) := by omega
      generalize f.code[k] = x at *
      clear x1 x2 ha lift
      go_wp2
      go_quiet (fail)
      go_outline
      go_wp2
      exact ⟨⟨k + 1, by omega, rfl, _, rfl⟩, by simp [intOf]; omega⟩
    · clear lift
      go_wp2
      go_ret
      exact ⟨rfl, kb.drewN m⟩
end Go.Proofs.Ytnfnbcbadakofaa
