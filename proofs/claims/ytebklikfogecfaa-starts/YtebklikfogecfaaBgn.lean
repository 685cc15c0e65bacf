import Derived.Test.YtebklikfogecfaaStt
import Derived.Test.YtebklikfogecfaaRbg
import Derived.Test.YtebklikfogecfaaSml
import Derived.Test.YtebklikfogecfaaStk
namespace Go.Proofs.Ytebklikfogecfaa
open Go.RowKit

theorem start_small {s : ByteArray} {fs : List Fn} {h d : Int} (hs : s.size ≤ 800) (hb : ¬ badR h d) (hl : (fnAt fs 0).locals.length ≤ 8) :
    ((startL s fs h d).length : Int) ≤ 2 * h + 20 * d + 16 ∧ ∀ x ∈ startL s fs h d, 0 ≤ x ∧ x < 65536 := by
  unfold badR at hb
  have hh : 0 ≤ h ∧ h ≤ 4000 ∧ 1 ≤ d ∧ d ≤ 64 := by omega
  have e : startL s fs h d = mksP s ++ [h, d, 0] ++ [0] ++ [1] ++ (0 :: List.replicate (fnAt fs 0).locals.length 0) := by
    simp [startL, layP, nums]
  rw [e]
  constructor
  · have hm : (mksP s).length = 3 := rfl
    simp [hm]; omega
  · intro x hx
    have r1 := mkP_rng s 257 hs (by decide) s.size
    have r2 := mkP_rng s 263 hs (by decide) s.size
    have r3 := mkP_rng s 269 hs (by decide) s.size
    simp only [mksP, List.mem_append, List.mem_cons, List.mem_replicate, List.not_mem_nil, or_false] at hx
    rcases hx with ((((hx | hx | hx) | hx | hx | hx) | hx) | hx) | hx | ⟨_, hx⟩ <;> omega

def BgEnd (w : World) (s : ByteArray) (O : Int × Int × Pg × List Spots) (h d : Int) (e : Ending) (w' : World) : Prop :=
  ∃ a n c pv, e = .returned (.tuple #[.slice a n c, pv, .bool true]) ∧ Chg (fun _ => False) w w' ∧ (O.1 ≠ 0 ∨ badR h d → pv = .pointer none) ∧
    (O.1 = 0 → ¬ badR h d → IntsV w' w.heap.size (.slice a n c) (startL s O.2.2.1.funcs h d) ∧ ∃ w3 tv fv l, w.heap.size ≤ w3.heap.size ∧ TypesV w' w.heap.size tv O.2.2.1.types ∧ FuncsV 92 99 w' w.heap.size fv O.2.2.1.funcs ∧ l = (fnAt O.2.2.1.funcs 0).locals ∧ RbEnd w3 tv fv h d l (.returned pv) w')

set_option maxHeartbeats 2000000 in
set_option maxRecDepth 100000 in
theorem began_core (s : ByteArray) (h d : Int) (w : World) (O : Int × Int × Pg × List Spots) (hst : ∀ w, Calls Try.prog 32 #[.string s, .int .i64 h, .int .i64 d] w (SuEnd w s O h d))
    (hrc : ∀ w, Calls Try.prog 15 #[.string s] w fun e w' => ∃ tv fv, e = .returned (.tuple #[.agg #[tv, fv], .int .i64 O.1, .int .i64 O.2.1]) ∧ TypesV w' w.heap.size tv O.2.2.1.types ∧ FuncsV 92 99 w' w.heap.size fv O.2.2.1.funcs ∧ Chg (fun _ => False) w w')
    (hs : O.1 = 0 → s.size ≤ 800 ∧ 0 < O.2.2.1.funcs.length ∧ (fnAt O.2.2.1.funcs 0).locals.length ≤ 8) :
    Calls Try.prog 27 #[.string s, .int .i64 h, .int .i64 d] w (BgEnd w s O h d) := by
  have HST : Hid (∀ w, Calls Try.prog 32 #[.string s, .int .i64 h, .int .i64 d] w (SuEnd w s O h d)) := hst
  have HRC : Hid (∀ w, Calls Try.prog 15 #[.string s] w fun e w' => ∃ tv fv, e = .returned (.tuple #[.agg #[tv, fv], .int .i64 O.1, .int .i64 O.2.1]) ∧ TypesV w' w.heap.size tv O.2.2.1.types ∧ FuncsV 92 99 w' w.heap.size fv O.2.2.1.funcs ∧ Chg (fun _ => False) w w') := hrc
  have HS : Hid (O.1 = 0 → s.size ≤ 800 ∧ 0 < O.2.2.1.funcs.length ∧ (fnAt O.2.2.1.funcs 0).locals.length ≤ 8) := hs
  clear hst hrc hs
  go_enter Try.func27, Try.ntmps27
  go_wp2_with fail
  refine (HST.out _).mono ?_
  rintro e w1 ⟨a, n, c, er, pl, rfl, hch1, i1, i2, i3⟩
  have I1 : Hid _ := i1
  have I2 : Hid _ := i2
  have I3 : Hid _ := i3
  clear i1 i2 i3
  go_wp2_with fail
  refine (HRC.out _).mono ?_
  rintro e w2 ⟨tv, fv, rfl, hty, hfv, hch2⟩
  obtain ⟨ta, tc, rfl⟩ := hty.slice
  obtain ⟨fa, fc, rfl⟩ := hfv.slice
  clear HST HRC
  have kp : Chg (fun _ => False) w2 (w2.alloc (Obj.cells #[.slice ta O.2.2.1.types.length tc, .slice fa O.2.2.1.funcs.length fc] 28)) := (Chg.refl _ w2).alloc _
  have kT := (hch1.trans hch2).trans kp
  have e47 := fun wx : World => Lib.run_eql_slice_nil (P := Try.prog) wx 47 3 none 0 0 0 0 Try.underlying47
  by_cases hz : O.1 = 0
  · have hz' : (O.1 != 0) = false := by simp [hz]
    have HZ : Hid (O.1 = 0) := hz
    obtain ⟨hs8, hf1, hl8⟩ := HS.out hz
    by_cases hb : badR h d
    · obtain ⟨rfl, rfl, hn⟩ := I2.out hz hb
      simp only [Value.slice.injEq] at hn
      obtain ⟨rfl, rfl, rfl⟩ := hn
      have HB : Hid (badR h d) := hb
      clear hz hb I1 I2 I3 hty hfv
      by_cases h1 : h < 0
      · go_wp2_with (go_at_call 16; refine (num_any _ _).mono ?_; rintro e w3 ⟨rfl, rfl⟩)
        exact bodyPost_ret (v := .tuple #[.slice none 0 0, .pointer none, .bool true]) (by simp [results, Try.results27, go_sem]) rfl ⟨_, _, _, _, rfl, kT, fun _ => rfl, fun _ e => absurd HB.out e⟩
      by_cases h2 : 4000 < h
      · go_wp2_with (go_at_call 16; refine (num_any _ _).mono ?_; rintro e w3 ⟨rfl, rfl⟩)
        exact bodyPost_ret (v := .tuple #[.slice none 0 0, .pointer none, .bool true]) (by simp [results, Try.results27, go_sem]) rfl ⟨_, _, _, _, rfl, kT, fun _ => rfl, fun _ e => absurd HB.out e⟩
      by_cases h3 : d < 1
      · go_wp2_with (go_at_call 16; refine (num_any _ _).mono ?_; rintro e w3 ⟨rfl, rfl⟩)
        exact bodyPost_ret (v := .tuple #[.slice none 0 0, .pointer none, .bool true]) (by simp [results, Try.results27, go_sem]) rfl ⟨_, _, _, _, rfl, kT, fun _ => rfl, fun _ e => absurd HB.out e⟩
      have h4 : 64 < d := by rcases HB.out with e | e | e | e <;> first | contradiction | exact e
      go_wp2_with (go_at_call 16; refine (num_any _ _).mono ?_; rintro e w3 ⟨rfl, rfl⟩)
      exact bodyPost_ret (v := .tuple #[.slice none 0 0, .pointer none, .bool true]) (by simp [results, Try.results27, go_sem]) rfl ⟨_, _, _, _, rfl, kT, fun _ => rfl, fun _ e => absurd HB.out e⟩
    · obtain ⟨rfl, rfl, hI⟩ := I3.out hz hb
      obtain ⟨sm1, sm2⟩ := start_small (fs := O.2.2.1.funcs) hs8 hb hl8
      have h1 : ¬ h < 0 := fun e => hb (.inl e)
      have h2 : ¬ 4000 < h := fun e => hb (.inr (.inl e))
      have h3 : ¬ d < 1 := fun e => hb (.inr (.inr (.inl e)))
      have h4 : ¬ 64 < d := fun e => hb (.inr (.inr (.inr e)))
      have HB : Hid (¬ badR h d) := hb
      have HSM1 : Hid _ := sm1
      have HSM2 : Hid _ := sm2
      have hfn : fnAt O.2.2.1.funcs 0 = O.2.2.1.funcs[0] := by unfold fnAt; rw [dif_pos ⟨by omega, by simpa using hf1⟩]; rfl
      have hl0 : O.2.2.1.funcs[0].locals.length ≤ 10000 := by rw [← hfn]; omega
      have HFN : Hid (fnAt O.2.2.1.funcs 0 = O.2.2.1.funcs[0]) := hfn
      have hI2 := IntsV.chg hI (hch2.trans kp) (fun _ _ _ e => e)
      have hty2 := hty.new kp
      have hfv2 := hfv.chg kp (fun _ _ _ e => e) (fun _ _ _ e => e) (fun _ _ _ e => e)
      have hs1 := hch1.size
      have hs2 := hch2.size
      clear hz hb I1 I2 I3 hty hfv sm1 sm2 hfn hI hch1 hch2 kp
      go_wp2_with fail
      refine (rbegin_any ta fa _ tc fc h d O.2.2.1.funcs _ w1.heap.size hfv2 hf1 hl0).mono ?_
      rintro e w3 ⟨rb, frv, bv, rfl, q1, q2, q3, q4, k3⟩
      have HRB : Hid (RbEnd _ _ _ h d O.2.2.1.funcs[0].locals (.returned (.pointer (some ⟨rb, 0, none⟩))) w3) := ⟨rb, frv, bv, rfl, q1, q2, q3, q4, k3⟩
      have hI3 := IntsV.chg hI2 k3 (fun _ _ _ e => e)
      have hty3 := hty2.new k3
      have hfv3 := hfv2.chg k3 (fun _ _ _ e => e) (fun _ _ _ e => e) (fun _ _ _ e => e)
      have kT3 := kT.trans k3
      have HI3 : Hid (IntsV w3 w.heap.size (.slice a n c) (startL s O.2.2.1.funcs h d)) := hI3
      have hsz : w.heap.size ≤ (w2.alloc (Obj.cells #[.slice ta O.2.2.1.types.length tc, .slice fa O.2.2.1.funcs.length fc] 28)).heap.size := kT.size
      clear q1 q2 q3 q4 k3 hI2 hty2 hfv2 kT hI3
      generalize w2.alloc (Obj.cells #[.slice ta O.2.2.1.types.length tc, .slice fa O.2.2.1.funcs.length fc] 28) = w2' at *
      go_wp2_with fail
      refine (small_true _ (startL s O.2.2.1.funcs h d) h d _ w.heap.size HI3.out (by omega) (by omega) HSM1.out HSM2.out).mono ?_
      rintro e w4 ⟨rfl, rfl⟩
      go_wp2_with (go_at_call 16; refine (num_any _ _).mono ?_; rintro e w5 ⟨rfl, rfl⟩)
      refine bodyPost_ret (v := .tuple #[.slice a n c, .pointer (some ⟨rb, 0, none⟩), .bool true]) (by simp [results, Try.results27, go_sem]) rfl ⟨_, _, _, _, rfl, kT3, fun e => ?_, fun _ _ => ⟨HI3.out, w2', _, _, _, hsz, hty3.mono hs1, hfv3.mono hs1, by rw [HFN.out], HRB.out⟩⟩
      rcases e with e | e
      · exact absurd HZ.out e
      · exact absurd e HB.out
  · have hz' : (O.1 != 0) = true := by simp [hz]
    have e1 : (O.1 == O.1) = true := by simp
    have e2 : (O.2.1 == O.2.1) = true := by simp
    obtain ⟨rfl, rfl, hn⟩ := I1.out hz
    simp only [Value.slice.injEq] at hn
    obtain ⟨rfl, rfl, rfl⟩ := hn
    have HZ : Hid (O.1 ≠ 0) := hz
    clear hz I1 I2 I3 hty hfv
    go_wp2_with (go_at_call 16; refine (num_any _ _).mono ?_; rintro e w3 ⟨rfl, rfl⟩)
    exact bodyPost_ret (v := .tuple #[.slice none 0 0, .pointer none, .bool true]) (by simp [results, Try.results27, go_sem]) rfl ⟨_, _, _, _, rfl, kT, fun _ => rfl, fun e => absurd e HZ.out⟩

theorem opF_size {s : ByteArray} (h : (opF s).1 = 0) : s.size ≤ 800 := by
  by_cases h1 : (opn s).1 = 0
  · unfold opn at h1
    by_cases h2 : 800 < s.size
    · rw [if_pos h2] at h1; cases h1
    · omega
  · rw [opF_1 h1] at h; exact absurd h h1

theorem opF_main {s : ByteArray} (h : (opF s).1 = 0) : 0 < (opF s).2.2.1.funcs.length ∧ (fnAt (opF s).2.2.1.funcs 0).locals.length ≤ 8 := by
  have hw := (opF_ok h).1
  have h1 : 0 < (opF s).2.2.1.funcs.length := hw.f1
  have hfn : fnAt (opF s).2.2.1.funcs 0 = (opF s).2.2.1.funcs[0] := by unfold fnAt; rw [dif_pos ⟨by omega, by simpa using h1⟩]; rfl
  refine ⟨h1, ?_⟩
  rw [hfn]
  exact (hw.fs 0 h1).l8

theorem start_any (s : ByteArray) (h d : Int) (w : World) : Calls Try.prog 32 #[.string s, .int .i64 h, .int .i64 d] w (SuEnd w s (opF s) h d) := by
  refine start_core s h d w (opF s) (fun w => openFit_any s w) opF_size ?_
  by_cases hz : (opF s).1 = 0
  · have := (opF_main hz).2; omega
  · have hp : (opF s).2.2.1 = ⟨[], []⟩ := by
      by_cases h1 : (opn s).1 = 0
      · rcases hA : fitAll (opn s).2.2 (opn s).2.2.funcs 0 [] with k | sps
        · rw [opF_2 h1 k hA]
        · rw [opF_3 h1 sps hA] at hz; exact absurd rfl hz
      · rw [opF_1 h1]
    rw [hp]; simp [fnAt]

theorem began_any (s : ByteArray) (h d : Int) (w : World) : Calls Try.prog 27 #[.string s, .int .i64 h, .int .i64 d] w (BgEnd w s (opF s) h d) :=
  began_core s h d w (opF s) (fun w => start_any s h d w) (fun w => rcheck_any s w) (fun hz => ⟨opF_size hz, opF_main hz⟩)

set_option maxHeartbeats 1000000 in
set_option maxRecDepth 100000 in
theorem starts_walk (s : ByteArray) (h d : Int) (w : World) :
    Calls Try.prog 8 #[.string s, .int .i64 h, .int .i64 d] w fun e w' => e = .returned (.bool true) ∧ Chg (fun _ => False) w w' := by
  have hb := fun w => began_any s h d w
  have HB : Hid _ := hb
  clear hb
  go_enter Try.func8, Try.ntmps8
  go_wp2_with fail
  refine (HB.out _).mono ?_
  rintro e w1 ⟨a, n, c, pv, rfl, hch, _, _⟩
  go_wp2
  go_ret
  exact ⟨rfl, hch⟩
end Go.Proofs.Ytebklikfogecfaa
