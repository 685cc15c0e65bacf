import Derived.Test.YtnfnbcbadakofaaDec2
import Derived.Deep.QuietTactic
namespace Go.Proofs.Ytnfnbcbadakofaa
open Go.RowKit

def wB (n lo hi : Int) : Bool := decide (lo ≤ n) && decide (n ≤ hi)

set_option maxHeartbeats 400000 in
theorem within_any (n lo hi : Int) (w : World) :
    Calls Try.prog 53 #[.int .i64 n, .int .i64 lo, .int .i64 hi] w fun e w' => e = .returned (.bool (wB n lo hi)) ∧ w' = w := by
  by_cases h1 : lo ≤ n
  · by_cases h2 : n ≤ hi
    · have e1 : wB n lo hi = true := by simp [wB, h1, h2]
      rw [e1]
      go_enter Try.func53, Try.ntmps53
      go_wp2
      go_ret
      exact ⟨by simp, rfl⟩
    · have e1 : wB n lo hi = false := by simp [wB, h2]
      rw [e1]
      go_enter Try.func53, Try.ntmps53
      go_wp2
      go_ret
      exact ⟨by simp, rfl⟩
  · have e1 : wB n lo hi = false := by simp [wB]; omega
    rw [e1]
    go_enter Try.func53, Try.ntmps53
    go_wp2
    go_ret
    exact ⟨rfl, rfl⟩

/-- the document's reader -/
def RR (w : World) (rb : Nat) (s : ByteArray) (st : Nat × Bool) : Prop := Blk w rb #[.string s, .int .i64 st.1, .bool (!st.2)] 87

def nx (ns : List Int) (lo hi : Int) (s : Nat × Bool) : Int × (Nat × Bool) :=
  if s.2 = true then (lo, s) else
  if ns.length ≤ s.1 ∨ ns.getD s.1 0 < lo ∨ hi < ns.getD s.1 0 then (lo, (s.1, true)) else (ns.getD s.1 0, (s.1 + 1, false))

theorem next_stop {w : World} {rb : Nat} {s : ByteArray} {st : Nat × Bool} (hr : RR w rb s st) (n : Nat) :
    RR ((w.drewN n).setCell ⟨rb, 2, none⟩ (.bool false)) rb s (st.1, true) ∧ Chg (fun k => k = rb) w ((w.drewN n).setCell ⟨rb, 2, none⟩ (.bool false)) :=
  ⟨(Blk.set (Blk.drewN hr n) 2 (.bool false)), Chg.setCell (S := fun k => k = rb) ((Chg.refl _ w).drewN n) _ _ (.inl rfl)⟩
theorem next_adv {w : World} {rb : Nat} {s : ByteArray} {p : Nat} {b : Bool} (hr : RR w rb s (p, b)) (n : Nat) :
    RR ((w.drewN n).setCell ⟨rb, 1, none⟩ (.int .i64 ((p : Int) + 1))) rb s (p + 1, b) ∧ Chg (fun k => k = rb) w ((w.drewN n).setCell ⟨rb, 1, none⟩ (.int .i64 ((p : Int) + 1))) :=
  ⟨(Blk.set (Blk.drewN hr n) 1 (.int .i64 ((p : Int) + 1))), Chg.setCell (S := fun k => k = rb) ((Chg.refl _ w).drewN n) _ _ (.inl rfl)⟩

set_option maxHeartbeats 400000 in
theorem next_a (rb : Nat) (s : ByteArray) (p : Nat) (lo hi : Int) (w : World) (hr : RR w rb s (p, true)) :
    Calls Try.prog 41 #[.pointer (some ⟨rb, 0, none⟩), .int .i64 lo, .int .i64 hi] w fun e w' => e = .returned (.int .i64 lo) ∧ RR w' rb s (p, true) ∧ Chg (fun k => k = rb) w w' := by
  have h2 : w.cell? ⟨rb, 2, none⟩ = some (.bool false) := Blk.cell hr 2
  go_enter Try.func41, Try.ntmps41
  go_wp2
  go_ret
  exact ⟨rfl, hr, Chg.refl _ _⟩

set_option maxHeartbeats 400000 in
set_option maxRecDepth 100000 in
theorem next_b (rb : Nat) (s : ByteArray) (p : Nat) (lo hi : Int) (w : World) (hr : RR w rb s (p, false)) (hp : s.size ≤ p) :
    Calls Try.prog 41 #[.pointer (some ⟨rb, 0, none⟩), .int .i64 lo, .int .i64 hi] w fun e w' => e = .returned (.int .i64 lo) ∧ RR w' rb s (p, true) ∧ Chg (fun k => k = rb) w w' := by
  have h0 : w.cell? ⟨rb, 0, none⟩ = some (.string s) := Blk.cell hr 0
  have h1 : w.cell? ⟨rb, 1, none⟩ = some (.int .i64 p) := Blk.cell hr 1
  have h2 : w.cell? ⟨rb, 2, none⟩ = some (.bool true) := Blk.cell hr 2
  have hf : w.frozen? ⟨rb, 2, none⟩ = false := Blk.frozen hr 2
  have hp' : (s.size : Int) ≤ (p : Int) := by omega
  go_enter Try.func41, Try.ntmps41
  go_wp2
  go_quiet (fail)
  go_wp2
  go_ret
  exact ⟨rfl, next_stop hr _⟩

theorem wrapB (b : UInt8) : IntKind.i64.wrap (b.toNat : Int) = (b.toNat : Int) := by rw [IntKind.wrap_i64]; have := b.toNat_lt; omega

set_option maxHeartbeats 400000 in
set_option maxRecDepth 100000 in
theorem next_c (rb : Nat) (s : ByteArray) (p : Nat) (lo hi : Int) (w : World) (hr : RR w rb s (p, false)) (hp : p < s.size) (hs : s.size ≤ 10000)
    (hb : wB (s[p].toNat : Int) lo hi = true) :
    Calls Try.prog 41 #[.pointer (some ⟨rb, 0, none⟩), .int .i64 lo, .int .i64 hi] w fun e w' => e = .returned (.int .i64 (s[p].toNat : Int)) ∧ RR w' rb s (p + 1, false) ∧ Chg (fun k => k = rb) w w' := by
  have h0 : w.cell? ⟨rb, 0, none⟩ = some (.string s) := Blk.cell hr 0
  have h1 : w.cell? ⟨rb, 1, none⟩ = some (.int .i64 p) := Blk.cell hr 1
  have h2 : w.cell? ⟨rb, 2, none⟩ = some (.bool true) := Blk.cell hr 2
  have hf : w.frozen? ⟨rb, 1, none⟩ = false := Blk.frozen hr 1
  have hp' : (p : Int) < (s.size : Int) := by omega
  have hw1 := wrapB s[p]
  have hw2 := wrap64_byte s[p]
  go_enter Try.func41, Try.ntmps41
  go_wp2
  go_quiet ((go_at_call 53; exact Calls.quiet_of_same (within_any _ _ _ _)))
  go_wp2
  go_quiet (fail)
  go_wp2
  go_ret
  exact ⟨rfl, next_adv hr _⟩

set_option maxHeartbeats 400000 in
set_option maxRecDepth 100000 in
theorem next_d (rb : Nat) (s : ByteArray) (p : Nat) (lo hi : Int) (w : World) (hr : RR w rb s (p, false)) (hp : p < s.size)
    (hb : wB (s[p].toNat : Int) lo hi = false) :
    Calls Try.prog 41 #[.pointer (some ⟨rb, 0, none⟩), .int .i64 lo, .int .i64 hi] w fun e w' => e = .returned (.int .i64 lo) ∧ RR w' rb s (p, true) ∧ Chg (fun k => k = rb) w w' := by
  have h0 : w.cell? ⟨rb, 0, none⟩ = some (.string s) := Blk.cell hr 0
  have h1 : w.cell? ⟨rb, 1, none⟩ = some (.int .i64 p) := Blk.cell hr 1
  have h2 : w.cell? ⟨rb, 2, none⟩ = some (.bool true) := Blk.cell hr 2
  have hf : w.frozen? ⟨rb, 2, none⟩ = false := Blk.frozen hr 2
  have hp' : (p : Int) < (s.size : Int) := by omega
  have hw1 := wrapB s[p]
  go_enter Try.func41, Try.ntmps41
  go_wp2
  go_quiet ((go_at_call 53; exact Calls.quiet_of_same (within_any _ _ _ _)))
  go_wp2
  go_ret
  exact ⟨rfl, next_stop hr _⟩

theorem bl_get (s : ByteArray) (p : Nat) (hp : p < s.size) : (bl s).getD p 0 = (s[p].toNat : Int) := by
  have hk : p < (bl s).length := by rw [bl_len]; exact hp
  rw [List.getD_eq_getElem?_getD, List.getElem?_eq_getElem hk]
  simp [bl]; rfl

theorem next_any (rb : Nat) (s : ByteArray) (st : Nat × Bool) (lo hi : Int) (w : World) (hr : RR w rb s st) (hs : s.size ≤ 10000) :
    Calls Try.prog 41 #[.pointer (some ⟨rb, 0, none⟩), .int .i64 lo, .int .i64 hi] w fun e w' => e = .returned (.int .i64 (nx (bl s) lo hi st).1) ∧ RR w' rb s (nx (bl s) lo hi st).2 ∧ Chg (fun k => k = rb) w w' := by
  obtain ⟨p, b⟩ := st
  cases b with
  | true =>
    have e1 : nx (bl s) lo hi (p, true) = (lo, (p, true)) := by simp [nx]
    rw [e1]; exact next_a rb s p lo hi w hr
  | false =>
    by_cases hp : s.size ≤ p
    · have e1 : nx (bl s) lo hi (p, false) = (lo, (p, true)) := by unfold nx; rw [if_neg (by simp), if_pos (.inl (by rw [bl_len]; exact hp))]
      rw [e1]; exact next_b rb s p lo hi w hr hp
    · have hp' : p < s.size := by omega
      have hg := bl_get s p hp'
      cases hb : wB (s[p].toNat : Int) lo hi with
      | true =>
        have e1 : nx (bl s) lo hi (p, false) = ((s[p].toNat : Int), (p + 1, false)) := by
          unfold nx; simp [wB] at hb
          rw [if_neg (by simp), if_neg (by rw [bl_len]; simp only [hg]; omega), hg]
        rw [e1]; exact next_c rb s p lo hi w hr hp' hs hb
      | false =>
        have e1 : nx (bl s) lo hi (p, false) = (lo, (p, true)) := by
          unfold nx; simp [wB] at hb
          rw [if_neg (by simp), if_pos (by rw [bl_len]; simp only [hg]; omega)]
        rw [e1]; exact next_d rb s p lo hi w hr hp' hb
end Go.Proofs.Ytnfnbcbadakofaa
