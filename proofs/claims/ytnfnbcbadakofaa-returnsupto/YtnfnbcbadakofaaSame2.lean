import Derived.Test.YtnfnbcbadakofaaSame
import Derived.Deep.RegionHeld3
namespace Go.Proofs.Ytnfnbcbadakofaa
open Go.RowKit

theorem FuncsV.form {eF eI : TypeId} {w : World} {base : Nat} {v : Value} {fs : List Fn} (h : FuncsV eF eI w base v fs) (hl : 0 < fs.length) :
    ∃ g cap, v = .slice (some ⟨g, 0, none⟩) fs.length cap ∧ fs.length ≤ cap ∧ (∀ j (hj : j < fs.length), ∃ lv cv, w.cell? ⟨g, j * 4, none⟩ = some (.int .i64 fs[j].args) ∧ w.cell? ⟨g, j * 4 + 1, none⟩ = some lv ∧
      w.cell? ⟨g, j * 4 + 2, none⟩ = some (.int .i64 fs[j].result) ∧ w.cell? ⟨g, j * 4 + 3, none⟩ = some cv ∧ IntsV w base lv fs[j].locals ∧ InsV eI w base cv fs[j].code) := by
  obtain ⟨xs, h0, h, hx⟩ := h
  have hc := fun g => World.ownsRow.cells (g := g) h
  subst h0
  simp only [List.length_map] at *
  rcases h.2 with ⟨_, h0⟩ | ⟨g, cap, cur, rfl, hb, hgg, hle, hcap, _⟩
  · omega
  · refine ⟨g, cap, rfl, hle, fun j hj => ?_⟩
    have hadd : ∀ j, (⟨g, 0, none⟩ : Addr).add j = ⟨g, j, none⟩ := by intro j; unfold Addr.add; split <;> simp_all
    have key : ∀ (c : List (Fn × Value × Value)) (j : Nat) (hj : j < c.length), (fnC c)[j * 4]? = some (.int .i64 c[j].1.args) ∧ (fnC c)[j * 4 + 1]? = some c[j].2.1 ∧ (fnC c)[j * 4 + 2]? = some (.int .i64 c[j].1.result) ∧ (fnC c)[j * 4 + 3]? = some c[j].2.2 := by
      intro c
      induction c with
      | nil => intro j hj; simp at hj
      | cons x c ih =>
        intro j hj
        have e : fnC (x :: c) = .int .i64 x.1.args :: x.2.1 :: .int .i64 x.1.result :: x.2.2 :: fnC c := by simp [fnC]
        rcases j with _ | j
        · rw [e]; simp
        · have := ih j (by simpa using hj)
          rw [e, show (j + 1) * 4 = j * 4 + 4 by omega]
          simpa using this
    obtain ⟨k1, k2, k3, k4⟩ := key xs j hj
    have a1 := hc g rfl _ _ k1
    have a2 := hc g rfl _ _ k2
    have a3 := hc g rfl _ _ k3
    have a4 := hc g rfl _ _ k4
    rw [hadd] at a1 a2 a3 a4
    have hm := hx xs[j] (List.getElem_mem hj)
    exact ⟨xs[j].2.1, xs[j].2.2, by simpa using a1, a2, by simpa using a3, a4, by simpa using hm.1, by simpa using hm.2⟩

theorem sameFunc_true (l1 l2 c1 c2 : Value) (b1 b2 : Nat) (f : Fn) (w : World) (hl : f.locals.length ≤ 10000) (hc : f.code.length ≤ 10000)
    (h1 : IntsV w b1 l1 f.locals) (h2 : IntsV w b2 l2 f.locals) (i1 : InsV 99 w b1 c1 f.code) (i2 : InsV 99 w b2 c2 f.code) :
    Calls Try.prog 44 #[.agg #[.int .i64 f.args, l1, .int .i64 f.result, c1], .agg #[.int .i64 f.args, l2, .int .i64 f.result, c2]] w fun e w' => e = .returned (.bool true) ∧ Chg (fun _ => False) w w' := by
  obtain ⟨a1, q1, rfl⟩ := h1.slice
  obtain ⟨a2, q2, rfl⟩ := h2.slice
  by_cases h0 : 0 < f.code.length
  · obtain ⟨g1, cc1, rfl, _, _, _, k1⟩ := i1.form h0
    obtain ⟨g2, cc2, rfl, _, _, _, k2⟩ := i2.form h0
    exact sameFunc_core a1 a2 _ _ g1 g2 q1 q2 cc1 cc2 b1 b2 f w hl hc h1 h2 (fun _ => ⟨rfl, rfl⟩) k1 k2
  · obtain ⟨k1, cc1, rfl⟩ := i1.slice
    obtain ⟨k2, cc2, rfl⟩ := i2.slice
    exact sameFunc_core a1 a2 k1 k2 0 0 q1 q2 cc1 cc2 b1 b2 f w hl hc h1 h2 (fun h => absurd h h0) (fun j hj => by omega) (fun j hj => by omega)

set_option maxHeartbeats 2000000 in
set_option maxRecDepth 100000 in
theorem same_core (t1 t2 f1 f2 : Value) (b1 b2 : Nat) (p : Pg) (w : World) (ht : p.types.length ≤ 10000) (hts : ∀ j, (p.types.getD j []).length ≤ 10000) (hf : p.funcs.length ≤ 10000) (hfs : ∀ j (hj : j < p.funcs.length), p.funcs[j].locals.length ≤ 10000 ∧ p.funcs[j].code.length ≤ 10000)
    (h1 : TypesV w b1 t1 p.types) (h2 : TypesV w b2 t2 p.types) (i1 : FuncsV 92 99 w b1 f1 p.funcs) (i2 : FuncsV 92 99 w b2 f2 p.funcs) :
    Calls Try.prog 20 #[.agg #[t1, f1], .agg #[t2, f2]] w fun e w' => e = .returned (.bool true) ∧ Chg (fun _ => False) w w' := by
  obtain ⟨ta1, tc1, rfl⟩ := h1.slice
  obtain ⟨ta2, tc2, rfl⟩ := h2.slice
  obtain ⟨fa1, fc1, rfl⟩ := i1.slice
  obtain ⟨fa2, fc2, rfl⟩ := i2.slice
  go_enter Try.func20, Try.ntmps20
  go_wp2_with fail
  have ka : Chg (fun _ => False) w ((w.alloc (Obj.cells #[.slice ta1 p.types.length tc1, .slice fa1 p.funcs.length fc1] 28)).alloc (Obj.cells #[.slice ta2 p.types.length tc2, .slice fa2 p.funcs.length fc2] 28)) := ((Chg.refl _ w).alloc _).alloc _
  have e1 : Blk _ w.heap.size _ 28 := (Blk.new w #[.slice ta1 p.types.length tc1, .slice fa1 p.funcs.length fc1] 28).alloc (Obj.cells #[.slice ta2 p.types.length tc2, .slice fa2 p.funcs.length fc2] 28)
  have e2 : Blk _ (w.heap.size + 1) _ 28 := Blk.new' (w := w.alloc (Obj.cells #[.slice ta1 p.types.length tc1, .slice fa1 p.funcs.length fc1] 28)) (by simp) #[.slice ta2 p.types.length tc2, .slice fa2 p.funcs.length fc2] 28
  generalize ((w.alloc (Obj.cells #[.slice ta1 p.types.length tc1, .slice fa1 p.funcs.length fc1] 28)).alloc (Obj.cells #[.slice ta2 p.types.length tc2, .slice fa2 p.funcs.length fc2] 28)) = W at *
  have y1 : W.cell? ⟨w.heap.size, 0, none⟩ = some (.slice ta1 p.types.length tc1) := e1.cell 0
  have y2 : W.cell? ⟨w.heap.size + 1, 0, none⟩ = some (.slice ta2 p.types.length tc2) := e2.cell 0
  go_loopw [5] (fun i wr => ∃ k : Nat, k ≤ p.types.length ∧ i = .int .i64 k ∧ ∃ n, wr = W.drewN n) (fun i _ => p.types.length - (intOf i).toNat)
  case atStart => exact ⟨0, Nat.zero_le _, rfl, 0, rfl⟩
  case round =>
    obtain ⟨k, hk, rfl, m, rfl⟩ := hrel
    by_cases hlt : k < p.types.length
    · obtain ⟨g1, cp1, u1, he1, _, hu1, hi1⟩ := (h1.new ka).cell k hlt
      obtain ⟨g2, cp2, u2, he2, _, hu2, hi2⟩ := (h2.new ka).cell k hlt
      simp only [Value.slice.injEq] at he1 he2
      obtain ⟨rfl, -, rfl⟩ := he1
      obtain ⟨rfl, -, rfl⟩ := he2
      obtain ⟨ua1, uc1, rfl⟩ := hi1.slice
      obtain ⟨ua2, uc2, rfl⟩ := hi2.slice
      have hlk := hts k
      have hlt' : (k : Int) < (p.types.length : Int) := by omega
      generalize p.types.getD k [] = L at *
      have hi1 : IntsV (W.drewN m) b1 (.slice ua1 L.length uc1) L := hi1
      have hi2 : IntsV (W.drewN m) b2 (.slice ua2 L.length uc2) L := hi2
      have y1 : (W.drewN m).cell? ⟨w.heap.size, 0, none⟩ = some (.slice (some ⟨g1, 0, none⟩) p.types.length tc1) := y1
      have y2 : (W.drewN m).cell? ⟨w.heap.size + 1, 0, none⟩ = some (.slice (some ⟨g2, 0, none⟩) p.types.length tc2) := y2
      have hu1 : (W.drewN m).cell? ⟨g1, k, none⟩ = some (.slice ua1 L.length uc1) := hu1
      have hu2 : (W.drewN m).cell? ⟨g2, k, none⟩ = some (.slice ua2 L.length uc2) := hu2
      generalize hV : W.drewN m = V at *
      have HV : Hid (W.drewN m = V) := hV
      clear hV
      go_wp2
      go_quiet ((go_at_call 26; exact Calls.quiet_of (sameInts_true _ _ b1 b2 L _ hlk hi1 hi2)))
      go_wp2
      exact ⟨⟨k + 1, by omega, rfl, m + nq, by rw [← HV.out, World.drewN_drewN]⟩, by simp [intOf]; omega⟩
    · go_wp2_with fail
      clear y1 y2 hlt hk
      have ka2 := ka.drewN m
      have e1' := e1.drewN m
      have e2' := e2.drewN m
      generalize W.drewN m = W2 at *
      clear e1 e2 ka
      go_loopw [7] (fun i wr => ∃ k : Nat, k ≤ p.funcs.length ∧ i = .int .i64 k ∧ Chg (fun _ => False) W2 wr) (fun i _ => p.funcs.length - (intOf i).toNat)
      case atStart => exact ⟨0, Nat.zero_le _, rfl, Chg.refl _ _⟩
      case round =>
        obtain ⟨k2, hk, rfl, hch⟩ := hrel
        have e1 := e1'.chg hch (fun e => e)
        have e2 := e2'.chg hch (fun e => e)
        have y1 : wr.cell? ⟨w.heap.size, 1, none⟩ = some (.slice fa1 p.funcs.length fc1) := e1.cell 1
        have y2 : wr.cell? ⟨w.heap.size + 1, 1, none⟩ = some (.slice fa2 p.funcs.length fc2) := e2.cell 1
        by_cases hlt : k2 < p.funcs.length
        · obtain ⟨g1, cp1, he1, _, q1⟩ := (i1.chg (ka2.trans hch) (fun _ _ _ e => e) (fun _ _ _ e => e) (fun _ _ _ e => e)).form (by omega)
          obtain ⟨g2, cp2, he2, _, q2⟩ := (i2.chg (ka2.trans hch) (fun _ _ _ e => e) (fun _ _ _ e => e) (fun _ _ _ e => e)).form (by omega)
          simp only [Value.slice.injEq] at he1 he2
          obtain ⟨rfl, -, rfl⟩ := he1
          obtain ⟨rfl, -, rfl⟩ := he2
          obtain ⟨lv1, cv1, s10, s11, s12, s13, hl1, hc1⟩ := q1 k2 hlt
          obtain ⟨lv2, cv2, s20, s21, s22, s23, hl2, hc2⟩ := q2 k2 hlt
          have hb := hfs k2 hlt
          clear q1 q2
          have hlt' : (k2 : Int) < (p.funcs.length : Int) := by omega
          generalize p.funcs[k2] = F at *
          obtain ⟨la1, lc1, rfl⟩ := hl1.slice
          obtain ⟨la2, lc2, rfl⟩ := hl2.slice
          obtain ⟨ca1, cc1, rfl⟩ := hc1.slice
          obtain ⟨ca2, cc2, rfl⟩ := hc2.slice
          have hcw : Hid (Chg (fun _ => False) W2 wr) := hch
          go_wp2
          go_region_with (go_at_call 44; refine (sameFunc_true _ _ _ _ b1 b2 F _ hb.1 hb.2 (by exact hl1) (by exact hl2) (by exact hc1) (by exact hc2)).mono ?_; rintro e w9 ⟨rfl, hch9⟩)
          all_goals
            go_wp2
            exact ⟨⟨k2 + 1, by omega, rfl, (hcw.out.drew).trans hch9⟩, by simp [intOf]; omega⟩
        · go_wp2
          go_ret
          exact ⟨rfl, ka2.trans hch⟩
end Go.Proofs.Ytnfnbcbadakofaa
