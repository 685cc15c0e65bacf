import Derived.Test.YtebklikfogecfaaChk3
namespace Go.Proofs.Ytebklikfogecfaa
open Go.RowKit

set_option maxHeartbeats 1000000 in
set_option maxRecDepth 100000 in
theorem small_true (v : Value) (l : List Int) (h d : Int) (w : World) (b1 : Nat) (hv : IntsV w b1 v l) (hh : 0 ≤ h ∧ h ≤ 4000) (hd : 1 ≤ d ∧ d ≤ 64) (hl : (l.length : Int) ≤ 2 * h + 20 * d + 16) (hx : ∀ x ∈ l, 0 ≤ x ∧ x < 65536) :
    Calls Try.prog 55 #[v, .int .i64 h, .int .i64 d] w fun e w' => e = .returned (.bool true) ∧ w' = w := by
  obtain ⟨a, c, rfl⟩ := hv.slice
  obtain ⟨hh1, hh2⟩ := hh
  obtain ⟨hd1, hd2⟩ := hd
  have hll : l.length ≤ 9296 := by omega
  have HX : Hid (∀ x ∈ l, 0 ≤ x ∧ x < 65536) := hx
  have HV : Hid (IntsV w b1 (.slice a l.length c) l) := hv
  clear hx hv
  go_enter Try.func55, Try.ntmps55
  go_wp2
  go_loopw [7] (fun i wr => ∃ k : Nat, k ≤ l.length ∧ i = .int .i64 k ∧ wr = w) (fun i _ => l.length - (intOf i).toNat)
  case atStart => exact ⟨0, Nat.zero_le _, rfl, rfl⟩
  case round =>
    obtain ⟨k, hk, rfl, rfl⟩ := hrel
    by_cases hlt : k < l.length
    · have hlt' : (k : Int) < (l.length : Int) := by omega
      obtain ⟨g, c', hve, _, _, _, hc⟩ := IntsV.form HV.out (by omega)
      simp only [Value.slice.injEq] at hve
      obtain ⟨rfl, _, rfl⟩ := hve
      have y := hc k hlt
      have hm : l.getD k 0 ∈ l := by rw [List.getD_eq_getElem?_getD, List.getElem?_eq_getElem hlt]; exact List.getElem_mem hlt
      obtain ⟨x1, x2⟩ := HX.out _ hm
      clear hc hm
      generalize l.getD k 0 = x at *
      have x1' : ¬ x < 0 := by omega
      have x2' : ¬ (65536 ≤ x) := by omega
      go_wp2
      exact ⟨⟨k + 1, by omega, rfl, trivial⟩, by simp [intOf]; omega⟩
    · have hlt' : (l.length : Int) ≤ (k : Int) := by omega
      go_wp2
      go_ret
      exact ⟨rfl, rfl⟩
end Go.Proofs.Ytebklikfogecfaa
