import Derived.Test.YtnfnbcbadakofabLea
namespace Go.Proofs.Ytnfnbcbadakofab
open Go.RowKit
set_option maxHeartbeats 4000000
set_option maxRecDepth 100000

theorem lay_len {c : Cx} (ok : CxOk c) {D : Dn} {R : Rn} {ms : List Int} (hm : ms.length = 3) (hw : wordsB ms) (h : Rel c D R) : 0 < (layR ms R).length ∧ (layR ms R).length ≤ 100000 := by
  obtain ⟨l1, _, _, _⟩ := lay_small ok hm hw h
  refine ⟨?_, by have := h.h4; have := h.d64; omega⟩
  unfold layR layP
  split
  · simp [hm]
  · simp [hm]; omega

theorem leaves_bad (img : ByteArray) (h d : Int) (ia : Option Addr) (ic : Nat) (inp : List Int) (fuel : Int) (w : World) (hb : (opF img).1 ≠ 0 ∨ badR h d) :
    Calls Try.prog 5 #[.string img, h, d, .slice ia inp.length ic, fuel] w fun e w' => e = .returned (.bool true) ∧ Chg (fun _ => False) w w' := by
  have HF : Hid (∀ w, Calls Try.prog 6 #[.string img] w fun e w' => e = .returned (.bool ((opF img).1 == 0)) ∧ Chg (fun _ => False) w w') := fun w => fits_any img w
  have HS : Hid (∀ w, Calls Try.prog 7 #[.string img, h, d] w (SuEnd w img (opF img) h d)) := fun w => start_any img h d w
  by_cases hz : (opF img).1 = 0
  · have hb : badR h d := by rcases hb with q | q; exact absurd hz q; exact q
    have hz' : ((opF img).1 == 0) = true := by simp [hz]
    rw [hz'] at HF
    have hrg : rgB h d = false := by cases q : rgB h d with | true => exact absurd hb (rgB_iff.1 q) | false => rfl
    have HRG : Hid (∀ w, Calls Try.prog 8 #[h, d] w fun e w' => e = .returned (.bool false) ∧ w' = w) := fun w => by rw [← hrg]; exact ranged_any h d w
    have HZ := hid hz
    have HB := hid hb
    clear hz hz' hb hrg
    go_enter Try.func5, Try.ntmps5
    go_wp2_with fail
    refine (HS.out _).mono ?_
    rintro e w2 ⟨sa, sn, sc, er, pl, rfl, k2, _, hB, _⟩
    obtain ⟨rfl, rfl, hn⟩ := hB HZ.out HB.out
    simp only [Value.slice.injEq] at hn
    obtain ⟨rfl, rfl, rfl⟩ := hn
    have K2 := hid k2
    clear k2 hB HS
    go_wp2_with fail
    refine (num_any 4 _).mono ?_
    rintro e w3 ⟨rfl, hw3⟩
    have hw3 := hw3.symm
    subst hw3
    go_wp2_with fail
    refine (HF.out _).mono ?_
    rintro e w4 ⟨rfl, k4⟩
    have K4 : Hid (Chg (fun _ => False) w w4) := K2.out.trans k4
    clear k4 K2
    go_wp2_with fail
    refine (HRG.out _).mono ?_
    rintro e w5 ⟨rfl, hw5⟩
    have hw5 := hw5.symm
    subst hw5
    go_wp2
    go_ret
    exact ⟨rfl, K4.out⟩
  · have hz' : ((opF img).1 == 0) = false := by simp [hz]
    rw [hz'] at HF
    have HZ := hid hz
    have hz1 : ((opF img).1 != 0) = true := by simp [hz]
    go_enter Try.func5, Try.ntmps5
    go_wp2_with fail
    refine (HS.out _).mono ?_
    rintro e w2 ⟨sa, sn, sc, er, pl, rfl, k2, hE, _, _⟩
    obtain ⟨rfl, rfl, hn⟩ := hE HZ.out
    simp only [Value.slice.injEq] at hn
    obtain ⟨rfl, rfl, rfl⟩ := hn
    have K2 := hid k2
    clear k2 hE HS HZ hb
    generalize (opF img).1 = er0 at *
    go_wp2_with fail
    refine (num_any er0 _).mono ?_
    rintro e w3 ⟨rfl, hw3⟩
    have hw3 := hw3.symm
    subst hw3
    go_wp2_with fail
    refine (HF.out _).mono ?_
    rintro e w4 ⟨rfl, k4⟩
    have K4 : Hid (Chg (fun _ => False) w w4) := K2.out.trans k4
    clear k4 K2
    go_wp2
    go_ret
    exact ⟨rfl, K4.out⟩

theorem leaves_walk (img : ByteArray) (h d : Int) (iv : Value) (inp : List Int) (fuel : Int) (w : World) (hi : RdA w iv inp) (hil : inp.length ≤ 17592186044416) :
    Calls Try.prog 5 #[.string img, h, d, iv, fuel] w fun e w' => e = .returned (.bool true) ∧ Chg (fun _ => False) w w' := by
  obtain ⟨ia, ic, rfl⟩ := hi.slice
  by_cases hb : (opF img).1 ≠ 0 ∨ badR h d
  · exact leaves_bad img h d ia ic inp fuel w hb
  · have hz : (opF img).1 = 0 := by
      by_cases q : (opF img).1 = 0
      · exact q
      · exact absurd (.inl q) hb
    have hr : ¬ badR h d := fun q => hb (.inr q)
    have hr' := hr
    unfold badR at hr'
    have hD : Rel (cxO img) (stD (cxO img) h d) (stR (cxO img) h d) := rel_start (cx_ok hz) (by omega) (by omega) (by omega) (by omega)
    have hm : (mksP img).length = 3 := rfl
    have hw := mks_words (opF_size hz)
    have HS : Hid (Calls Try.prog 7 #[.string img, h, d] w fun e w' => ∃ a c, e = .returned (.tuple #[.slice a (layR (mksP img) (stR (cxO img) h d)).length c, oO, oO]) ∧ IntsV w' w.heap.size (.slice a (layR (mksP img) (stR (cxO img) h d)).length c) (layR (mksP img) (stR (cxO img) h d)) ∧ Chg (fun _ => False) w w') :=
      (start_any img h d w).mono fun e w' q => by
        obtain ⟨a, n, c, er, pl, rfl, k, _, _, hG⟩ := q
        obtain ⟨rfl, rfl, hS⟩ := hG hz hr
        rw [start_lay] at hS
        obtain ⟨a', c', hv⟩ := hS.slice
        rw [hv] at hS ⊢
        exact ⟨a', c', rfl, hS, k⟩
    generalize stR (cxO img) h d = R at *
    generalize stD (cxO img) h d = D at *
    have ht := take_lay (cx_ok hz) (mksP img) hD
    obtain ⟨rC, eL, _, _⟩ := clr_rel hD
    have HP : Hid (∀ (w' : World) (a : Option Addr) (c : Nat), IntsV w' 0 (.slice a (layR (mksP img) R).length c) (layR (mksP img) R) → Calls Try.prog 15 #[.string img, .slice a (layR (mksP img) R).length c] w' fun e w'' => ∃ u, e = .returned (.tuple #[u, oO]) ∧ IntsV w'' w'.heap.size u (layR (mksP img) (clrP (cxO img) (bare R))) ∧ Chg (fun _ => False) w' w'') := fun w' a c hI => pack_lay hz hD _ 0 hI
    have HL : Hid (∀ (w' : World) (a : Option Addr) (c : Nat), IntsV w' 0 (.slice a (layR (mksP img) R).length c) (layR (mksP img) R) → Calls Try.prog 12 #[.string img, .slice a (layR (mksP img) R).length c] w' fun e w'' => e = .returned (.tuple #[(liveP D : Int), oO]) ∧ Chg (fun _ => False) w' w'') := fun w' a c hI => live_lay hz hD _ 0 hI
    have l1 := lay_len (cx_ok hz) hm hw hD
    have l2 := (lay_len (cx_ok hz) hm hw rC).2
    by_cases hf : fuel < 0 ∨ 10000 < fuel
    · refine leaves_core img h d ia ic inp fuel w hi hil _ [] [] _ 0 0 4 _ l1 (by simp) (by simp) l2 HS (fun w' a b c d hI hJ => ?_) HP HL
      refine (go_any img _ _ _ inp fuel w' hI.rdA hJ (fun _ R' q => by rw [ht] at q; cases q; exact ⟨D, hD.bare⟩)).mono ?_
      rintro e w'' ⟨k, _, hO⟩
      exact ⟨_, _, ((hO hz).2 _ ht).1 hf, World.ownsRow_nil _ _ _ _, World.ownsRow_nil _ _ _ _, Sep.nil _, k⟩
    · obtain ⟨n, rfl⟩ : ∃ n : Nat, fuel = (n : Int) := ⟨fuel.toNat, by omega⟩
      obtain ⟨D', r1, _, _, _, _, _, _, hol, _⟩ := safe_plain (cx_ok hz) hD inp n (by omega) _ rfl
      refine leaves_core img h d ia ic inp n w hi hil _ (layR (mksP img) (goStP (cxO img) (bare R) inp n).1) (goStP (cxO img) (bare R) inp n).1.out _ ((goStP (cxO img) (bare R) inp n).1.used : Int) (goStP (cxO img) (bare R) inp n).2 0 _ l1 (lay_len (cx_ok hz) hm hw r1).2 (by omega) l2 HS (fun w' a b c d hI hJ => ?_) HP HL
      refine (go_any img _ _ _ inp n w' hI.rdA hJ (fun _ R' q => by rw [ht] at q; cases q; exact ⟨D, hD.bare⟩)).mono ?_
      rintro e w'' ⟨k, _, hO⟩
      obtain ⟨sv', ov', h1, h2, h3, h4⟩ := ((hO hz).2 _ ht).2 (by omega)
      rw [Int.toNat_natCast] at h1 h2 h3
      exact ⟨sv', ov', h1, h2, h3, h4, k⟩
end Go.Proofs.Ytnfnbcbadakofab
