import Derived.Test.YtnfnbcbadakofaaDec2
import Derived.Laws.AppendOwnNone
namespace Go.Proofs.Ytnfnbcbadakofaa
open Go.RowKit

/-- A slice that can be read as ints, wherever it lies. -/
def RdI (w : World) (v : Value) (l : List Int) : Prop :=
  (v = .slice none 0 0 ∧ l = []) ∨ ∃ g off cap, v = .slice (some ⟨g, off, none⟩) l.length cap ∧ l.length ≤ cap ∧ cap ≤ maxLen ∧ ∀ j, j < l.length → w.cell? ⟨g, off + j, none⟩ = some (.int .i64 (l.getD j 0))

theorem IntsV.rdI {w : World} {base : Nat} {v : Value} {l : List Int} (h : IntsV w base v l) : RdI w v l := by
  by_cases h0 : 0 < l.length
  · obtain ⟨g, cap, hv, _, hle, hcap, hc⟩ := h.form h0
    exact .inr ⟨g, 0, cap, hv, hle, hcap, fun j hj => by rw [Nat.zero_add]; exact hc j hj⟩
  · have hl : l = [] := List.eq_nil_of_length_eq_zero (by omega)
    rcases h.2 with ⟨hv, _⟩ | ⟨g, cap, cur, hv, _, _, hle, hcap, _⟩
    · exact .inl ⟨hv, hl⟩
    · exact .inr ⟨g, 0, cap, hv, hle, hcap, fun j hj => by omega⟩

set_option maxHeartbeats 400000 in
set_option maxRecDepth 100000 in
theorem sameList_len (a1 a2 : Option Addr) (n1 n2 c1 c2 : Nat) (w : World) (h : n1 ≠ n2) :
    Calls Try.prog 116 #[.slice a1 n1 c1, .slice a2 n2 c2] w fun e w' => e = .returned (.bool false) ∧ ∃ n, w' = w.drewN n := by
  have h' : ((n1 : Int) != (n2 : Int)) = true := by rw [bne_iff_ne]; omega
  clear h
  go_enter Try.func116, Try.ntmps116
  go_wp2
  go_ret
  exact ⟨rfl, 0, rfl⟩

set_option maxHeartbeats 400000 in
set_option maxRecDepth 100000 in
theorem sameList_core (a1 a2 : Option Addr) (g1 g2 o1 o2 c1 c2 : Nat) (l1 l2 : List Int) (w : World) (hl : l1.length ≤ 10000) (he : l2.length = l1.length) (ha : 0 < l1.length → a1 = some ⟨g1, o1, none⟩ ∧ a2 = some ⟨g2, o2, none⟩)
    (h1 : ∀ j, j < l1.length → w.cell? ⟨g1, o1 + j, none⟩ = some (.int .i64 (l1.getD j 0))) (h2 : ∀ j, j < l1.length → w.cell? ⟨g2, o2 + j, none⟩ = some (.int .i64 (l2.getD j 0))) :
    Calls Try.prog 116 #[.slice a1 l1.length c1, .slice a2 l1.length c2] w fun e w' => e = .returned (.bool (l1 == l2)) ∧ ∃ n, w' = w.drewN n := by
  have HE : Hid (l2.length = l1.length) := he
  clear he
  go_enter Try.func116, Try.ntmps116
  go_wp2
  go_loopw [13] (fun i wr => ∃ k : Nat, k ≤ l1.length ∧ i = .int .i64 k ∧ (l1.take k = l2.take k) ∧ ∃ n, wr = w.drewN n) (fun i _ => l1.length - (intOf i).toNat)
  case atStart => exact ⟨0, Nat.zero_le _, rfl, by simp, 0, rfl⟩
  case round =>
    obtain ⟨k, hk, rfl, htk, n, rfl⟩ := hrel
    have HT : Hid (l1.take k = l2.take k) := htk
    clear htk
    by_cases hlt : k < l1.length
    · obtain ⟨rfl, rfl⟩ := ha (by omega)
      have y1 := h1 k hlt
      have y2 := h2 k hlt
      have hlt' : (k : Int) < (l1.length : Int) := by omega
      have HN : Hid (l1.getD k 0 = l2.getD k 0 → l1.take (k + 1) = l2.take (k + 1)) := by
        intro hx
        rw [List.take_succ_eq_append_getElem hlt, List.take_succ_eq_append_getElem (by rw [HE.out]; exact hlt), HT.out]
        rw [List.getD_eq_getElem?_getD, List.getD_eq_getElem?_getD, List.getElem?_eq_getElem hlt, List.getElem?_eq_getElem (by rw [HE.out]; exact hlt)] at hx
        simp at hx
        rw [hx]
      have HX : Hid (l1.getD k 0 ≠ l2.getD k 0 → (l1 == l2) = false) := by
        intro hx
        rw [beq_eq_false_iff_ne]
        intro e; rw [e] at hx; exact hx rfl
      generalize l1.getD k 0 = x at *
      generalize l2.getD k 0 = y at *
      clear h1 h2 ha
      by_cases hxy : x = y
      · have hb : (x != y) = false := by simp [hxy]
        have HXY : Hid (x = y) := hxy
        clear hxy
        go_wp2
        go_quiet (fail)
        go_wp2
        exact ⟨⟨k + 1, by omega, rfl, HN.out HXY.out, _, rfl⟩, by simp [intOf]; omega⟩
      · have hb : (x != y) = true := by simp [hxy]
        have HXY : Hid (x ≠ y) := hxy
        clear hxy
        go_wp2
        go_quiet (fail)
        go_wp2
        go_ret
        exact ⟨by rw [HX.out HXY.out]; rfl, _, World.drewN_drewN _ _ _⟩
    · have e1 : (l1 == l2) = true := by
        have := HT.out
        rw [List.take_of_length_le (by omega), List.take_of_length_le (by rw [HE.out]; omega)] at this
        rw [this]; simp
      go_wp2
      go_ret
      exact ⟨by rw [e1]; rfl, n, rfl⟩

theorem sameList_any (v1 v2 : Value) (l1 l2 : List Int) (w : World) (hl : l1.length ≤ 10000) (h1 : RdI w v1 l1) (h2 : RdI w v2 l2) :
    Calls Try.prog 116 #[v1, v2] w fun e w' => e = .returned (.bool (l1 == l2)) ∧ ∃ n, w' = w.drewN n := by
  have f1 : ∃ a c, v1 = .slice a l1.length c := by
    rcases h1 with ⟨rfl, rfl⟩ | ⟨g, o, c, rfl, _⟩
    · exact ⟨none, 0, rfl⟩
    · exact ⟨_, _, rfl⟩
  have f2 : ∃ a c, v2 = .slice a l2.length c := by
    rcases h2 with ⟨rfl, rfl⟩ | ⟨g, o, c, rfl, _⟩
    · exact ⟨none, 0, rfl⟩
    · exact ⟨_, _, rfl⟩
  by_cases he : l2.length = l1.length
  · by_cases h0 : 0 < l1.length
    · rcases h1 with ⟨_, rfl⟩ | ⟨g1, o1, c1, rfl, _, _, k1⟩
      · simp at h0
      rcases h2 with ⟨_, rfl⟩ | ⟨g2, o2, c2, rfl, _, _, k2⟩
      · simp at he; simp [← he] at h0
      rw [he]
      exact sameList_core _ _ g1 g2 o1 o2 c1 c2 l1 l2 w hl he (fun _ => ⟨rfl, rfl⟩) k1 (fun j hj => k2 j (by omega))
    · obtain ⟨a1, c1, rfl⟩ := f1
      obtain ⟨a2, c2, rfl⟩ := f2
      rw [he]
      exact sameList_core a1 a2 0 0 0 0 c1 c2 l1 l2 w hl he (fun h => absurd h h0) (fun j hj => by omega) (fun j hj => by omega)
  · obtain ⟨a1, c1, rfl⟩ := f1
    obtain ⟨a2, c2, rfl⟩ := f2
    have e1 : (l1 == l2) = false := by rw [beq_eq_false_iff_ne]; intro e; exact he (by rw [e])
    rw [e1]
    exact sameList_len a1 a2 _ _ c1 c2 w (fun e => he e.symm)

theorem RdI.new {w w' : World} {v : Value} {l : List Int} (h : RdI w v l) (k : Chg (fun _ => False) w w') : RdI w' v l := by
  rcases h with h | ⟨g, off, cap, hv, hle, hcap, hc⟩
  · exact .inl h
  · refine .inr ⟨g, off, cap, hv, hle, hcap, fun j hj => ?_⟩
    have h1 := hc j hj
    exact (World.cell?_of_block (w := w) (k.block g (World.block_lt_of_cell? w _ h1) (fun e => e))).trans h1
theorem RdI.news {w : World} {g off : Nat} {l : List Int} (hc : ∀ j, j < l.length → w.cell? ⟨g, off + j, none⟩ = some (.int .i64 (l.getD j 0))) : ∀ j u, (ints l)[j]? = some u → w.cell? ((⟨g, off, none⟩ : Addr).add j) = some u := by
  intro j u hu
  have hadd : (⟨g, off, none⟩ : Addr).add j = ⟨g, off + j, none⟩ := by unfold Addr.add; split <;> simp_all
  rw [hadd]
  have hj : j < l.length := by
    rcases Nat.lt_or_ge j l.length with h | h
    · exact h
    · rw [List.getElem?_eq_none (by simpa [ints] using h)] at hu; cases hu
  rw [hc j hj]
  simp [ints, List.getElem?_eq_getElem hj] at hu
  rw [List.getD_eq_getElem?_getD, List.getElem?_eq_getElem hj]
  simpa using hu

set_option maxHeartbeats 400000 in
set_option maxRecDepth 100000 in
theorem joined_any (v1 v2 : Value) (l1 l2 : List Int) (w : World) (hl1 : l1.length ≤ 10000) (hl2 : l2.length ≤ 10000) (h1 : RdI w v1 l1) (h2 : RdI w v2 l2) :
    Calls Try.prog 52 #[v1, v2] w fun e w' => ∃ v, e = .returned v ∧ IntsV w' w.heap.size v (l1 ++ l2) ∧ Chg (fun _ => False) w w' := by
  obtain ⟨i, hi1, hi2, hi3, hi4⟩ := info3
  have Hi1 : Hid (Try.prog.info? 3 = some i) := hi1
  have Hi2 : Hid (i.zero = some (.int .i64 0)) := hi2
  have Hi3 : Hid (i.size = 1) := hi3
  have Hi4 : Hid (i.bytes = 8) := hi4
  clear hi1 hi2 hi3 hi4
  have h0 : w.ownsRow w.heap.size 3 1 (.slice none 0 0) 0 [] := World.ownsRow_nil _ _ _ _
  rcases h1 with ⟨rfl, rfl⟩ | ⟨g1, o1, c1, rfl, hle1, hcap1, k1⟩
  · rcases h2 with ⟨rfl, rfl⟩ | ⟨g2, o2, c2, rfl, hle2, hcap2, k2⟩
    · go_enter Try.func52, Try.ntmps52
      go_wp2
      go_ret
      exact ⟨_, rfl, World.ownsRow_nil _ _ _ _, Chg.refl _ _⟩
    · have HNEWS : Hid _ := RdI.news k2
      clear k2
      go_enter Try.func52, Try.ntmps52
      go_wp2_with (first | (at_builtin; refine wpList_append_own_none rfl _ _ 47 rfl w.heap.size 3 i 1 Try.underlying47 Hi1.out _ _ _ rfl h0 rfl ?_) | (at_builtin; refine wpList_append_own _ rfl _ _ 47 rfl w.heap.size 3 i (.int .i64 0) 1 8 Try.underlying47 Hi1.out Hi2.out Hi3.out Hi4.out rfl (by decide) _ _ _ rfl h0 ⟨g2, o2, none⟩ l2.length c2 (ints l2) rfl ?c0 HNEWS.out ?c2 ?c3 ?c4 ?c5 ?_))
      case c0 => simp [ints]
      case c2 => intro u hu; simp [ints] at hu; obtain ⟨x, _, rfl⟩ := hu; rfl
      case c3 => unfold maxLen; omega
      case c4 => omega
      case c5 => exact Nat.le_refl _
      · intro v' w1 hown hgrow _
        go_wp2
        go_ret
        exact ⟨_, rfl, by unfold IntsV; simpa using hown, (Chg.refl _ w).grown hgrow (fun k hk => by cases hk)⟩
  · have HN1 : Hid _ := RdI.news k1
    clear k1
    have hd : Hid (RdI w v2 l2) := h2
    clear h2
    rcases hd.out with ⟨rfl, rfl⟩ | ⟨g2, o2, c2, rfl, hle2, hcap2, k2⟩
    · go_enter Try.func52, Try.ntmps52
      go_wp2_with (first | (at_builtin; refine wpList_append_own _ rfl _ _ 47 rfl w.heap.size 3 i (.int .i64 0) 1 8 Try.underlying47 Hi1.out Hi2.out Hi3.out Hi4.out rfl (by decide) _ _ _ rfl h0 ⟨g1, o1, none⟩ l1.length c1 (ints l1) rfl ?c0 HN1.out ?c2 ?c3 ?c4 ?c5 ?_))
      case c0 => simp [ints]
      case c2 => intro u hu; simp [ints] at hu; obtain ⟨x, _, rfl⟩ := hu; rfl
      case c3 => unfold maxLen; omega
      case c4 => omega
      case c5 => exact Nat.le_refl _
      · intro v' w1 hown hgrow _
        go_wp2_with (first | (at_builtin; refine wpList_append_own_none rfl _ _ 47 rfl w.heap.size 3 i 1 Try.underlying47 Hi1.out _ _ _ rfl hown rfl ?_))
        go_ret
        exact ⟨_, rfl, by unfold IntsV; simpa using hown, (Chg.refl _ w).grown hgrow (fun k hk => by cases hk)⟩
    · clear k2
      go_enter Try.func52, Try.ntmps52
      go_wp2_with (first | (at_builtin; refine wpList_append_own _ rfl _ _ 47 rfl w.heap.size 3 i (.int .i64 0) 1 8 Try.underlying47 Hi1.out Hi2.out Hi3.out Hi4.out rfl (by decide) _ _ _ rfl h0 ⟨g1, o1, none⟩ l1.length c1 (ints l1) rfl ?c0 HN1.out ?c2 ?c3 ?c4 ?c5 ?_))
      case c0 => simp [ints]
      case c2 => intro u hu; simp [ints] at hu; obtain ⟨x, _, rfl⟩ := hu; rfl
      case c3 => unfold maxLen; omega
      case c4 => omega
      case c5 => exact Nat.le_refl _
      · intro v' w1 hown hgrow _
        have k1 : Chg (fun _ => False) w w1 := (Chg.refl _ w).grown hgrow (fun k hk => by cases hk)
        have hsz := k1.size
        have HN2 : Hid (∀ j u, (ints l2)[j]? = some u → w1.cell? ((⟨g2, o2, none⟩ : Addr).add j) = some u) := by
          rcases hd.out.new k1 with ⟨h, _⟩ | ⟨g, o, c, h, _, _, kk⟩
          · cases h
          · simp only [Value.slice.injEq, Option.some.injEq, Addr.mk.injEq] at h
            obtain ⟨⟨rfl, rfl, _⟩, _, rfl⟩ := h
            exact RdI.news kk
        clear hgrow
        go_wp2_with (first | (at_builtin; refine wpList_append_own _ rfl _ _ 47 rfl w.heap.size 3 i (.int .i64 0) 1 8 Try.underlying47 Hi1.out Hi2.out Hi3.out Hi4.out rfl (by decide) _ _ _ rfl hown ⟨g2, o2, none⟩ l2.length c2 (ints l2) rfl ?c0 HN2.out ?c2 ?c3 ?c4 ?c5 ?_))
        case c0 => simp [ints]
        case c2 => intro u hu; simp [ints] at hu; obtain ⟨x, _, rfl⟩ := hu; rfl
        case c3 => unfold maxLen; omega
        case c4 => omega
        case c5 => omega
        · intro v'' w2 hown2 hgrow2 _
          go_wp2
          go_ret
          refine ⟨_, rfl, ?_, k1.grown hgrow2 (fun k hk => .inr (hown.lt k hk).1)⟩
          unfold IntsV
          simpa [ints] using hown2
end Go.Proofs.Ytnfnbcbadakofaa
