import Derived.Test.YtnfnbcbadakofaaNext2
namespace Go.Proofs.Ytnfnbcbadakofaa
open Go.RowKit

set_option maxHeartbeats 1000000 in
set_option maxRecDepth 100000 in
theorem operandA_any (a fa : Option Addr) (nT cap nf fc : Nat) (lo op : Int) (w : World) (h1 : 0 ≤ op) (h2 : op ≤ 12 ∨ 16 ≤ op) (h3 : op ≤ 18) (hlo : 0 ≤ lo) (hlo2 : lo ≤ 10000) :
    Calls Try.prog 91 #[.agg #[.slice a nT cap, .slice fa nf fc], .int .i64 lo, .int .i64 op] w fun e w' =>
      e = .returned (.tuple #[.int .i64 (bA nT 0 lo 0 op).1, .int .i64 (bA nT 0 lo 0 op).2]) ∧ Chg (fun _ => False) w w' := by
  have hop : op = 0 ∨ op = 1 ∨ op = 2 ∨ op = 3 ∨ op = 4 ∨ op = 5 ∨ op = 6 ∨ op = 7 ∨ op = 8 ∨ op = 9 ∨ op = 10 ∨ op = 11 ∨ op = 12 ∨ op = 16 ∨ op = 17 ∨ op = 18 := by omega
  clear h1 h2 h3
  rcases hop with rfl | rfl | rfl | rfl | rfl | rfl | rfl | rfl | rfl | rfl | rfl | rfl | rfl | rfl | rfl | rfl
  all_goals
    go_enter Try.func91, Try.ntmps91
    go_wp2
    first
      | (go_ret2; exact ⟨rfl, fin_new0 _⟩)
      | (go_quiet (fail)
         go_wp2
         go_ret2
         exact ⟨rfl, fin_new _ _⟩)

set_option maxHeartbeats 1000000 in
set_option maxRecDepth 100000 in
theorem goodA_any (a fa : Option Addr) (nT cap nf fc : Nat) (fu lo co op x : Int) (w : World) (h1 : 0 ≤ op) (h2 : op ≤ 18) (hlo : 0 ≤ lo) (hlo2 : lo ≤ 10000) (hco : 0 ≤ co) (hco2 : co ≤ 10000) (hfu : 0 ≤ fu) (hfu2 : fu ≤ 10000) :
    Calls Try.prog 67 #[.agg #[.slice a nT cap, .slice fa nf fc], .int .i64 lo, .int .i64 co, .int .i64 fu, .int .i64 op, .int .i64 x] w fun e w' =>
      e = .returned (.bool (wB x (bA nT fu lo co op).1 (bA nT fu lo co op).2)) ∧ Chg (fun _ => False) w w' := by
  by_cases h13 : op = 13
  · subst h13
    go_enter Try.func67, Try.ntmps67
    go_wp2_with fail
    refine (within_any _ _ _ _).mono ?_
    rintro e w1 ⟨rfl, rfl⟩
    go_wp2
    go_ret
    exact ⟨rfl, fin_new0 _⟩
  · by_cases h14 : op = 14
    · subst h14
      go_enter Try.func67, Try.ntmps67
      go_wp2_with fail
      refine (within_any _ _ _ _).mono ?_
      rintro e w1 ⟨rfl, rfl⟩
      go_wp2
      go_ret
      exact ⟨rfl, fin_new0 _⟩
    · have e13 : (op == 13) = false := by simp [h13]
      have e14 : (op == 14) = false := by simp [h14]
      by_cases h15 : op = 15
      · subst h15
        go_enter Try.func67, Try.ntmps67
        go_wp2_with fail
        refine (within_any _ _ _ _).mono ?_
        rintro e w1 ⟨rfl, rfl⟩
        go_wp2
        go_ret
        exact ⟨rfl, fin_new0 _⟩
      · have e15 : (op == 15) = false := by simp [h15]
        have eb : bA nT fu lo co op = bA nT 0 lo 0 op := by unfold bA; simp [h13, h14, h15]
        rw [eb]
        have hop : op ≤ 12 ∨ 16 ≤ op := by omega
        clear h13 h14 h15 eb
        go_enter Try.func67, Try.ntmps67
        go_wp2_with fail
        refine (operandA_any a fa nT cap nf fc lo op _ h1 hop h2 hlo hlo2).mono ?_
        rintro e w1 ⟨rfl, hch⟩
        go_wp2_with fail
        refine (within_any _ _ _ _).mono ?_
        rintro e w2 ⟨rfl, rfl⟩
        go_wp2
        go_ret
        exact ⟨rfl, (fin_new0 _).trans hch⟩

set_option maxHeartbeats 1000000 in
set_option maxRecDepth 100000 in
theorem goodB_any (tv fv : Value) (ls : List (List Int)) (op a x : Int) (w : World) (base : Nat) (h : TypesV w base tv ls) (hfv : ∃ fa nf fc, fv = .slice fa nf fc) (hn : ls.length ≤ 10000) (hls : ∀ j, (ls.getD j []).length ≤ 10000)
    (ha : (op = 8 ∨ op = 9) → 1 ≤ a ∧ a ≤ ls.length) :
    Calls Try.prog 68 #[.agg #[tv, fv], .int .i64 op, .int .i64 a, .int .i64 x] w fun e w' => e = .returned (.bool (wB x 0 (gB ls op a))) ∧ Chg (fun _ => False) w w' := by
  obtain ⟨fa, nf, fc, rfl⟩ := hfv
  by_cases h89 : op = 8 ∨ op = 9
  · obtain ⟨ha1, ha2⟩ := ha h89
    obtain ⟨j, rfl⟩ : ∃ j : Nat, a = (j : Int) + 1 := ⟨(a - 1).toNat, by omega⟩
    obtain ⟨g, cap, u, rfl, hle, hc, hu⟩ := h.cell j (by omega)
    obtain ⟨ua, uc, rfl⟩ := hu.slice
    have hj : (j : Int) < (ls.length : Int) := by omega
    have hgl := (World.block_lt_of_cell? w _ hc)
    simp only at hgl
    have hlj := hls j
    have e1 : gB ls op ((j : Int) + 1) = ((ls.getD j []).length : Int) - 1 := by
      unfold gB flds
      rw [if_neg (by omega), if_neg (by omega)]
      have : ((j : Int) + 1 - 1).toNat = j := by omega
      rw [this]
    rw [e1]
    clear e1 ha
    generalize ls.getD j [] = L at *
    rcases h89 with rfl | rfl
    · go_enter Try.func68, Try.ntmps68
      go_wp2_with fail
      refine (within_any _ _ _ _).mono ?_
      rintro e w2 ⟨rfl, rfl⟩
      go_wp2
      go_ret
      exact ⟨rfl, fin_new0 _⟩
    · go_enter Try.func68, Try.ntmps68
      go_wp2_with fail
      refine (within_any _ _ _ _).mono ?_
      rintro e w2 ⟨rfl, rfl⟩
      go_wp2
      go_ret
      exact ⟨rfl, fin_new0 _⟩
  · obtain ⟨ta, tc, rfl⟩ := h.slice
    have h8 : (op == 8) = false := by simp; omega
    have h9 : (op == 9) = false := by simp; omega
    have e1 : wB x 0 (gB ls op a) = (x == 0) := by
      unfold gB wB; rw [if_pos (by omega)]
      by_cases hx : x = 0
      · subst hx; rfl
      · have : (x == 0) = false := by simp [hx]
        rw [this]; simp; omega
    rw [e1]
    go_enter Try.func68, Try.ntmps68
    go_wp2
    go_ret
    exact ⟨rfl, fin_new0 _⟩
end Go.Proofs.Ytnfnbcbadakofaa
