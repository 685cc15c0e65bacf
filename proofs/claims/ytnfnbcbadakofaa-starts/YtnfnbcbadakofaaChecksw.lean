import Derived.Test.YtnfnbcbadakofaaRck
import Derived.Test.YtnfnbcbadakofaaLaw
namespace Go.Proofs.Ytnfnbcbadakofaa
open Go.RowKit

theorem opn_place {s : ByteArray} (h : (opn s).1 = 0) : (opn s).2.1 = 0 := by
  unfold opn at *
  by_cases h1 : 800 < s.size
  · rw [if_pos h1] at h; cases h
  rw [if_neg h1] at h ⊢
  have e2 : rdP (bl s) = if (tkP (bl s) (0, false)).2.2 = true ∨ (tkP (bl s) (0, false)).2.1 < (bl s).length then (2, ((tkP (bl s) (0, false)).2.1 : Int), ⟨[], []⟩) else (0, 0, (tkP (bl s) (0, false)).1) := rfl
  rw [e2] at h ⊢
  by_cases h2 : (tkP (bl s) (0, false)).2.2 = true ∨ (tkP (bl s) (0, false)).2.1 < (bl s).length
  · rw [if_pos h2] at h; cases h
  rw [if_neg h2]

theorem opF_1 {s : ByteArray} (h : (opn s).1 ≠ 0) : opF s = ((opn s).1, (opn s).2.1, ⟨[], []⟩, []) := by
  unfold opF; rw [if_pos h]
theorem opF_2 {s : ByteArray} (h : (opn s).1 = 0) (k : Nat) (hA : fitAll (opn s).2.2 (opn s).2.2.funcs 0 [] = .inl k) : opF s = (3, (k : Int), ⟨[], []⟩, []) := by
  unfold opF; rw [if_neg (by simpa using h), hA]
theorem opF_3 {s : ByteArray} (h : (opn s).1 = 0) (sps : List Spots) (hA : fitAll (opn s).2.2 (opn s).2.2.funcs 0 [] = .inr sps) : opF s = (0, 0, (opn s).2.2, sps) := by
  unfold opF; rw [if_neg (by simpa using h), hA]

theorem openFit_any (s : ByteArray) (w : World) : Calls Try.prog 38 #[.string s] w (OfEnd w (opF s)) :=
  openFit_core s w (opn s) rfl opn_wf _ rfl (opF s) opn_place opF_1 (fun h k hA => opF_2 h k hA) (fun h sps hA => opF_3 h sps hA)
theorem rcheck_any (s : ByteArray) (w : World) :
    Calls Try.prog 15 #[.string s] w fun e w' => ∃ tv fv, e = .returned (.tuple #[.agg #[tv, fv], .int .i64 (opF s).1, .int .i64 (opF s).2.1]) ∧ TypesV w' w.heap.size tv (opF s).2.2.1.types ∧ FuncsV 92 99 w' w.heap.size fv (opF s).2.2.1.funcs ∧ Chg (fun _ => False) w w' :=
  rcheck_core s w (opn s) rfl opn_wf _ rfl (opF s) opF_1 (fun h k hA => opF_2 h k hA) (fun h sps hA => opF_3 h sps hA)

set_option maxHeartbeats 1000000 in
set_option maxRecDepth 100000 in
theorem check_any (s : ByteArray) (w : World) :
    Calls Try.prog 14 #[.string s] w fun e w' => e = .returned (.tuple #[.int .i64 (opF s).1, .int .i64 (opF s).2.1]) ∧ Chg (fun _ => False) w w' := by
  have hop := fun w => openFit_any s w
  generalize opF s = O at *
  have HOP : Hid _ := hop
  clear hop
  go_enter Try.func14, Try.ntmps14
  go_wp2_with fail
  refine (HOP.out _).mono ?_
  rintro e w1 ⟨tv, fv, sv, rfl, ⟨hty, hfv, hsl, hch⟩, _⟩
  obtain ⟨ta, tc, rfl⟩ := hty.slice
  obtain ⟨fa, fc, rfl⟩ := hfv.slice
  obtain ⟨sa, sc, rfl⟩ := hsl.slice
  clear hty hfv hsl HOP
  go_wp2
  go_quiet (fail)
  go_wp2
  go_ret2
  exact ⟨rfl, (hch.alloc _).drewN _⟩

set_option maxHeartbeats 1000000 in
set_option maxRecDepth 100000 in
theorem checks_walk (s : ByteArray) (w : World) :
    Calls Try.prog 3 #[.string s] w fun e w' => e = .returned (.bool true) ∧ Chg (fun _ => False) w w' := by
  have hck := fun w => check_any s w
  have hrc := fun w => rcheck_any s w
  generalize opF s = O at *
  have HCK : Hid _ := hck
  have HRC : Hid _ := hrc
  clear hck hrc
  go_enter Try.func3, Try.ntmps3
  go_wp2_with fail
  refine (HCK.out _).mono ?_
  rintro e w1 ⟨rfl, hch⟩
  go_wp2_with fail
  refine (HRC.out _).mono ?_
  rintro e w2 ⟨tv, fv, rfl, hty, hfv, hch2⟩
  have kT := hch.trans hch2
  obtain ⟨ta, tc, rfl⟩ := hty.slice
  obtain ⟨fa, fc, rfl⟩ := hfv.slice
  clear hty hfv hch hch2 HCK HRC
  have e1 : (O.1 == O.1) = true := by simp
  have e2 : (O.2.1 == O.2.1) = true := by simp
  go_wp2_with (go_at_call 16; refine (num_any _ _).mono ?_; rintro e w3 ⟨rfl, rfl⟩)
  go_wp2
  go_ret
  exact ⟨rfl, kT.alloc _⟩
end Go.Proofs.Ytnfnbcbadakofaa
