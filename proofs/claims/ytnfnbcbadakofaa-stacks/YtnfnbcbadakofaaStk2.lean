import Derived.Test.YtnfnbcbadakofaaStk
namespace Go.Proofs.Ytnfnbcbadakofaa
open Go.RowKit

def spE : Option (List Int) → Int × List Int
  | none => (6, [])
  | some l => (0, l)
/-- the plain function: Stack -/
def stkP (O : Int × Int × Pg × List Spots) (f i : Int) : Int × List Int :=
  if O.1 ≠ 0 then (O.1, []) else
  if f < 0 ∨ (O.2.2.1.funcs.length : Int) ≤ f then (4, []) else
  if i < 0 ∨ ((fnAt O.2.2.1.funcs f).code.length : Int) ≤ i then (4, []) else
  spE (spP O.2.2.2 f i)

def StEnd (w : World) (P : Int × List Int) (e : Ending) (w' : World) : Prop :=
  ∃ v, e = .returned (.tuple #[v, .int .i64 P.1]) ∧ IntsV w' w.heap.size v P.2 ∧ (P.1 ≠ 0 → v = .slice none 0 0) ∧ Chg (fun _ => False) w w'

theorem StEnd.no {w w' : World} {P : Int × List Int} {e : Ending} (n : Int) (hP : P = (n, [])) (he : e = .returned (.tuple #[.slice none 0 0, .int .i64 n])) (k : Chg (fun _ => False) w w') : StEnd w P e w' := by
  subst hP; subst he
  exact ⟨_, rfl, World.ownsRow_nil _ _ _ _, fun _ => rfl, k⟩

set_option maxHeartbeats 2000000 in
set_option maxRecDepth 100000 in
theorem stack_core (s : ByteArray) (f i : Int) (w : World) (O : Int × Int × Pg × List Spots) (hop : ∀ w, Calls Try.prog 38 #[.string s] w (OfEnd w O)) (h6 : O.2.2.1.funcs.length ≤ 10000) (h64 : ∀ f ∈ O.2.2.1.funcs, f.code.length ≤ 10000) (h8 : ∀ l, spP O.2.2.2 f i = some l → l.length ≤ 10000) :
    Calls Try.prog 24 #[.string s, .int .i64 f, .int .i64 i] w (StEnd w (stkP O f i)) := by
  have HOP : Hid (∀ w, Calls Try.prog 38 #[.string s] w (OfEnd w O)) := hop
  have H8 : Hid (∀ l, spP O.2.2.2 f i = some l → l.length ≤ 10000) := h8
  clear hop h8
  go_enter Try.func24, Try.ntmps24
  go_wp2_with fail
  refine (HOP.out _).mono ?_
  rintro e w1 ⟨tv, fv, sv, rfl, ⟨hty, hfv, hsl, hch⟩, _⟩
  obtain ⟨ta, tc, rfl⟩ := hty.slice
  obtain ⟨fa, fc, rfl⟩ := hfv.slice
  obtain ⟨sa, sc, rfl⟩ := hsl.slice
  have k2 : Chg (fun _ => False) w1 (w1.alloc (Obj.cells #[.slice ta O.2.2.1.types.length tc, .slice fa O.2.2.1.funcs.length fc, .slice sa O.2.2.2.length sc, .int .i64 O.1, .int .i64 O.2.1] 80)) := (Chg.refl _ w1).alloc _
  by_cases hz : O.1 = 0
  · have hz' : (O.1 != 0) = false := by simp [hz]
    by_cases hf : f < 0 ∨ (O.2.2.1.funcs.length : Int) ≤ f
    · have HP : Hid (stkP O f i = (4, [])) := by
        show stkP O f i = (4, [])
        unfold stkP; rw [if_neg (by simpa using hz), if_pos hf]
      clear hz
      by_cases hf1 : f < 0
      · clear hf
        go_wp2
        go_ret2
        exact StEnd.no 4 HP.out rfl (hch.trans k2)
      · have hf2 : (O.2.2.1.funcs.length : Int) ≤ f := by omega
        clear hf
        go_wp2
        go_ret2
        exact StEnd.no 4 HP.out rfl (hch.trans k2)
    · obtain ⟨k, rfl⟩ : ∃ k : Nat, f = (k : Int) := ⟨f.toNat, by omega⟩
      have hk : k < O.2.2.1.funcs.length := by omega
      have hk' : (k : Int) < (O.2.2.1.funcs.length : Int) := by omega
      have hfn : fnAt O.2.2.1.funcs (k : Int) = O.2.2.1.funcs[k] := by unfold fnAt; rw [dif_pos ⟨by omega, by simpa using hk⟩]; rfl
      obtain ⟨g, cap, hfe, _, hcells⟩ := hfv.formS (by omega)
      simp only [Value.slice.injEq] at hfe
      obtain ⟨rfl, _, rfl⟩ := hfe
      obtain ⟨lv, cv, _, _, _, h3, _, hci⟩ := hcells k hk
      have h64' := h64 _ (List.getElem_mem hk)
      rw [← hfn] at hci h64'
      have HI : Hid (¬ (i < 0 ∨ ((fnAt O.2.2.1.funcs (k : Int)).code.length : Int) ≤ i) → stkP O (k : Int) i = spE (spP O.2.2.2 (k : Int) i)) := by
        intro hi; unfold stkP; rw [if_neg (by simpa using hz), if_neg hf, if_neg hi]
      have HB : Hid (i < 0 ∨ ((fnAt O.2.2.1.funcs (k : Int)).code.length : Int) ≤ i → stkP O (k : Int) i = (4, [])) := by
        intro hi; unfold stkP; rw [if_neg (by simpa using hz), if_neg hf, if_pos hi]
      obtain ⟨ca, cc, rfl⟩ := hci.slice
      have hgl : g < w1.heap.size := World.block_lt_of_cell? w1 _ h3
      have hg80 : g ≠ w1.heap.size := by omega
      clear hcells hci hfn hf hz
      generalize fnAt O.2.2.1.funcs (k : Int) = fn at *
      by_cases hi : i < 0 ∨ (fn.code.length : Int) ≤ i
      · have HP : Hid (stkP O (k : Int) i = (4, [])) := HB.out hi
        by_cases hi1 : i < 0
        · clear hi
          go_wp2
          go_ret2
          exact StEnd.no 4 HP.out rfl (hch.trans k2)
        · have hi2 : (fn.code.length : Int) ≤ i := by omega
          clear hi
          go_wp2
          go_ret2
          exact StEnd.no 4 HP.out rfl (hch.trans k2)
      · have hP := HI.out hi
        have h8 := H8.out
        obtain ⟨S, hSS⟩ : ∃ S, spP O.2.2.2 (k : Int) i = S := ⟨_, rfl⟩
        rw [hSS] at hP h8
        have HPP : Hid (stkP O (k : Int) i = spE S) := hP
        have H88 : Hid (∀ l, S = some l → l.length ≤ 10000) := h8
        clear hP h8
        have HSS : Hid (spP O.2.2.2 (k : Int) i = S) := hSS
        have hi1 : ¬ i < 0 := by omega
        have hi2 : i < (fn.code.length : Int) := by omega
        have ks := (hch.trans k2).size
        clear hi HI HB hSS H8
        go_wp2_with fail
        refine (spotAt_any _ O.2.2.2 (k : Int) i _ w.heap.size (SpotsL.chg hsl k2 (fun _ _ _ e => e) (fun _ _ _ e => e) (fun _ _ _ e => e))).mono ?_
        rw [HSS.out]
        rintro e w3 ⟨v, rfl, hv, hch3⟩
        have k3 := (hch.trans k2).trans hch3
        clear hch k2 hch3 hsl hty hfv h3 HSS
        rcases S with _ | l
        · have HP : Hid (stkP O (k : Int) i = (6, [])) := HPP.out
          obtain ⟨va, vc, rfl⟩ := hv.slice
          clear HPP H88
          go_wp2
          go_ret2
          exact StEnd.no 6 HP.out rfl (k3.alloc _)
        · have HP : Hid (stkP O (k : Int) i = (0, l)) := HPP.out
          have hl8 := H88.out l rfl
          have hv' : IntsV w3 w.heap.size v l := hv
          clear HPP H88 hv
          obtain ⟨va, vc, rfl⟩ := hv'.slice
          have k4 : Chg (fun _ => False) w3 (w3.alloc (Obj.cells #[.bool true, .slice va l.length vc] 107)) := (Chg.refl _ w3).alloc _
          go_wp2_with fail
          refine (joined_any _ (.slice none 0 0) l [] _ hl8 (by simp) (hv'.chg k4 (fun _ _ _ e => e)).rdI (.inl ⟨rfl, rfl⟩)).mono ?_
          rintro e w5 ⟨u, rfl, hu, hch5⟩
          have k5 := (k3.trans k4).trans hch5
          have hu' : IntsV w5 w.heap.size u l := by
            have := own_mono hu (k3.trans k4).size
            rw [List.append_nil] at this; exact this
          clear hu hch5 k4
          obtain ⟨ua, uc, rfl⟩ := hu'.slice
          go_wp2
          go_ret2
          rw [HP.out]
          exact ⟨_, rfl, hu', fun e => absurd rfl e, k5⟩
  · have hz' : (O.1 != 0) = true := by simp [hz]
    have HP : Hid (stkP O f i = (O.1, [])) := by
      show stkP O f i = (O.1, [])
      unfold stkP; rw [if_pos hz]
    clear hz
    go_wp2
    go_quiet (fail)
    go_wp2
    go_ret2
    exact StEnd.no _ HP.out rfl ((hch.trans k2).drewN _)
end Go.Proofs.Ytnfnbcbadakofaa
