import Derived.Test.YtnfnbcbadakofabSfp
import Derived.Test.YtnfnbcbadakofabPks
import Derived.Test.YtnfnbcbadakofabRnw
import Derived.Test.YtnfnbcbadakofabXtr
namespace Go.Proofs.Ytnfnbcbadakofab
open Go.RowKit
set_option maxHeartbeats 4000000
set_option maxRecDepth 100000

/-- numbers, put out -/
theorem small_out (v : Value) (l : List Int) (w : World) (b1 : Nat) (hv : IntsV w b1 v l) (hll : l.length ≤ 10000) (hx : ∀ x ∈ l, 0 ≤ x ∧ x < 65536) :
    Calls Try.prog 13 #[v, l.length, oO] w fun e w' => e = .returned (.bool true) ∧ w' = w := by
  obtain ⟨a, c, rfl⟩ := hv.slice
  have HX := hid hx
  have HV := hid hv
  clear hx hv
  go_enter Try.func13, Try.ntmps13
  go_wp2
  go_loopw [7] (fun i wr => ∃ k : Nat, k ≤ l.length ∧ i = .int .i64 k ∧ wr = w) (fun i _ => l.length - (intOf i).toNat)
  case atStart => exact ⟨0, Nat.zero_le _, rfl, rfl⟩
  case round =>
    obtain ⟨k, hk, rfl, rfl⟩ := hrel
    by_cases hlt : k < l.length
    · have hlt' : (k : Int) < (l.length : Int) := by omega
      obtain ⟨g, c', hve, _, _, _, hc⟩ := IntsV.form HV.out (by omega)
      simp only [Value.slice.injEq] at hve
      obtain ⟨rfl, _, rfl⟩ := hve
      have y := hc k hlt
      have hm : l.getD k 0 ∈ l := by rw [List.getD_eq_getElem?_getD, List.getElem?_eq_getElem hlt]; exact List.getElem_mem hlt
      obtain ⟨x1, x2⟩ := HX.out _ hm
      clear hc hm
      generalize l.getD k 0 = x at *
      have x1' : ¬ x < 0 := by omega
      have x2' : ¬ (65536 ≤ x) := by omega
      go_wp2
      exact ⟨⟨k + 1, by omega, rfl, trivial⟩, by simp [intOf]; omega⟩
    · have hlt' : (l.length : Int) ≤ (k : Int) := by omega
      go_wp2
      go_ret
      exact ⟨rfl, rfl⟩

theorem safe_walk (img : ByteArray) (h d : Int) (lv : Value) (l : List (List Int × Int × Bool × Bool)) (w : World) (hl : RdSt w lv l) :
    Calls Try.prog 3 #[.string img, h, d, lv] w fun e w' => e = .returned (.bool true) ∧ Chg (fun _ => False) w w' := by
  have HF : Hid (∀ w, Calls Try.prog 6 #[.string img] w fun e w' => e = .returned (.bool ((opF img).1 == 0)) ∧ Chg (fun _ => False) w w') := fun w => fits_any img w
  have HS : Hid (∀ w, Calls Try.prog 7 #[.string img, h, d] w (SuEnd w img (opF img) h d)) := fun w => start_any img h d w
  have hll : l.length ≤ 9223372036854775807 := by
    rcases hl with ⟨_, rfl⟩ | ⟨a, c, _, h1, h2, _⟩
    · simp
    · unfold maxLen at h2; omega
  obtain ⟨la, lc, rfl⟩ := hl.slice
  have HL := hid hl
  clear hl
  by_cases hz : (opF img).1 = 0
  · have hz' : ((opF img).1 == 0) = true := by simp [hz]
    rw [hz'] at HF
    have HZ := hid hz
    clear hz hz'
    by_cases hb : badR h d
    · have hrg : rgB h d = false := by cases q : rgB h d with | true => exact absurd hb (rgB_iff.1 q) | false => rfl
      have HB := hid hb
      have HRG : Hid (∀ w, Calls Try.prog 8 #[h, d] w fun e w' => e = .returned (.bool false) ∧ w' = w) := fun w => by rw [← hrg]; exact ranged_any h d w
      clear hb hrg
      go_enter Try.func3, Try.ntmps3
      go_wp2_with fail
      refine (HF.out _).mono ?_
      rintro e w1 ⟨rfl, k1⟩
      go_wp2_with fail
      refine (HS.out _).mono ?_
      rintro e w2 ⟨sa, sn, sc, er, pl, rfl, k2, _, hB, _⟩
      obtain ⟨rfl, rfl, hn⟩ := hB HZ.out HB.out
      simp only [Value.slice.injEq] at hn
      obtain ⟨rfl, rfl, rfl⟩ := hn
      have K2 : Hid (Chg (fun _ => False) w w2) := k1.trans k2
      clear k1 k2
      have e47 := fun wx : World => Lib.run_eql_slice_nil (P := Try.prog) wx 24 3 none 0 0 0 0 Try.underlying24
      go_wp2_with fail
      refine (HRG.out _).mono ?_
      rintro e w3 ⟨rfl, hw3⟩
      have hw3 := hw3.symm
      subst hw3
      go_wp2_with fail
      refine (num_any 4 _).mono ?_
      rintro e w4 ⟨rfl, hw4⟩
      have hw4 := hw4.symm
      subst hw4
      go_wp2
      go_ret
      exact ⟨rfl, K2.out⟩
    · have hrg : rgB h d = true := rgB_iff.2 hb
      have HB := hid hb
      have HRG : Hid (∀ w, Calls Try.prog 8 #[h, d] w fun e w' => e = .returned (.bool true) ∧ w' = w) := fun w => by rw [← hrg]; exact ranged_any h d w
      have HR0 : Hid (Rel (cxO img) (stD (cxO img) h d) (stR (cxO img) h d)) := by
        have hb' := hb
        unfold badR at hb'
        exact rel_start (cx_ok HZ.out) (by omega) (by omega) (by omega) (by omega)
      clear hb hrg
      go_enter Try.func3, Try.ntmps3
      go_wp2_with fail
      refine (HF.out _).mono ?_
      rintro e w1 ⟨rfl, k1⟩
      go_wp2_with fail
      refine (HS.out _).mono ?_
      rintro e w2 ⟨sa, sn, sc, er, pl, rfl, k2, _, _, hG⟩
      obtain ⟨rfl, rfl, hS⟩ := hG HZ.out HB.out
      rw [start_lay] at hS
      have K2 : Hid (Chg (fun _ => False) w w2) := k1.trans k2
      have HSS : Hid (IntsV w2 0 (.slice sa sn sc) (layR (mksP img) (stR (cxO img) h d))) := own_mono hS (Nat.zero_le _)
      clear k1 k2 hS hG HF HS
      go_wp2_with fail
      refine (HRG.out _).mono ?_
      rintro e w3 ⟨rfl, hw3⟩
      have hw3 := hw3.symm
      subst hw3
      clear HRG
      go_wp2
      go_loopw [10, 13, 14] (fun sv ev iv wr => ∃ (k : Nat) (D : Dn) (R : Rn), iv = .int .i64 (k : Int) ∧ k ≤ l.length ∧ Rel (cxO img) D R ∧ IntsV wr 0 sv (layR (mksP img) R) ∧ ev = .int .i64 R.status ∧ R.heap = h ∧ Chg (fun _ => False) w wr) (fun _ _ iv _ => l.length - (intOf iv).toNat)
      case atStart => exact ⟨0, _, _, rfl, Nat.zero_le _, HR0.out, HSS.out, rfl, rfl, K2.out⟩
      case round =>
        clear HSS HR0 K2
        obtain ⟨k, D, R, rfl, hk, hD, hs, rfl, hh, kw⟩ := hrel
        by_cases hlt : k < l.length
        · have hlt' : (k : Int) < (l.length : Int) := by omega
          obtain ⟨g, iv, hg, i0, i1, i2, i3, hR⟩ := HL.out.at hlt
          obtain ⟨ia, ic, rfl⟩ := hR.slice
          subst hg
          obtain ⟨sa, sc, rfl⟩ := hs.slice
          replace i0 := kw.cellF i0
          replace i1 := kw.cellF i1
          replace i2 := kw.cellF i2
          replace i3 := kw.cellF i3
          by_cases hf : 0 ≤ l[k].2.1 ∧ l[k].2.1 ≤ 10000
          · have HFU : Hid (∀ w, Calls Try.prog 10 #[l[k].2.1] w fun e w' => e = .returned (.bool true) ∧ w' = w) := fun w => by
              have e : decide (0 ≤ l[k].2.1 ∧ l[k].2.1 ≤ 10000) = true := by simp [hf]
              rw [← e]; exact fuelled_any _ w
            obtain ⟨n, hn⟩ : ∃ n : Nat, l[k].2.1 = (n : Int) := ⟨l[k].2.1.toNat, by omega⟩
            rw [hn] at HFU i1
            have hn4 : n ≤ 10000 := by omega
            obtain ⟨X, hX⟩ : ∃ X, goStP (cxO img) (bare R) l[k].1 n = X := ⟨_, rfl⟩
            obtain ⟨D', r1, hlv, hhp, hus, h0, h5, hwo, hol, hend, hdone, hwait, hst1, hst2⟩ := safe_plain (cx_ok HZ.out) hD l[k].1 n hn4 X hX
            have HGO : Hid (∀ w', Chg (fun _ => False) wr w' → Calls Try.prog 11 #[.string img, .slice sa (layR (mksP img) R).length sc, .slice ia l[k].1.length ic, n] w' fun e w'' => ∃ sv' ov', e = .returned (.tuple #[.agg #[sv', ov', (X.1.used : Int), X.2], oO]) ∧
                IntsV w'' w'.heap.size sv' (layR (mksP img) X.1) ∧ IntsV w'' w'.heap.size ov' X.1.out ∧ Chg (fun _ => False) w' w'') := fun w' kk => by
              have := go_lay HZ.out hD _ _ l[k].1 0 (own_chg hs kk (fun _ _ q => q)) ((hR.new kw).new kk) n hn4
              rw [hX] at this
              exact this
            have HLV : Hid (∀ w' a c b, IntsV w' b (.slice a (layR (mksP img) X.1).length c) (layR (mksP img) X.1) → Calls Try.prog 12 #[.string img, .slice a (layR (mksP img) X.1).length c] w' fun e w'' => e = .returned (.tuple #[(liveP D' : Int), oO]) ∧ Chg (fun _ => False) w' w'') := fun w' a c b hI => live_lay HZ.out r1 _ b hI
            have HSM : Hid (∀ w' a c b, IntsV w' b (.slice a X.1.out.length c) X.1.out → Calls Try.prog 13 #[.slice a X.1.out.length c, X.1.out.length, oO] w' fun e w'' => e = .returned (.bool true) ∧ w'' = w') := fun w' a c b hI => small_out _ _ _ _ hI hol (fun x hx => by have := hwo x hx; omega)
            have hR2 : R.status ≠ 2 := by rcases hD.st with ⟨q, _⟩ | ⟨q, _⟩ <;> omega
            have R1 := hid r1
            have HHP : Hid (X.1.heap = h) := by show _ = _; rw [hhp, hh]
            have F1 : Hid (R.status ≠ 0 → X.2 = R.status ∧ X.1.out.length = 0 ∧ X.1.used = 0) := fun q => by
              obtain ⟨q1, q2, q3⟩ := hend q
              exact ⟨q1, by rw [q2]; rfl, q3⟩
            have F2 : Hid (R.status = 0 → X.2 = 1 → X.1.out.length ≠ 0) := fun q1 q2 q3 => hdone q1 q2 (List.length_eq_zero_iff.1 q3)
            have F3 := hid hwait
            have F4 := hid hst1
            have F5 := hid hst2
            have F6 : Hid (0 ≤ X.2 ∧ X.2 ≤ 5) := ⟨h0, h5⟩
            have l1 : ¬ (liveP D' : Int) < 0 := by omega
            have l2 : ¬ h < (liveP D' : Int) := by omega
            have u1 : ¬ (X.1.used : Int) < 0 := by omega
            have u2 : ¬ (l[k].1.length : Int) < (X.1.used : Int) := by omega
            have s1 : ¬ X.2 < 0 := by omega
            have s2 : ¬ 5 < X.2 := by omega
            have KW := hid kw
            generalize (liveP D' : Int) = lp at *
            generalize l[k].1.length = inl at *
            generalize l[k].2.2.1 = p at *
            generalize l[k].2.2.2 = q at *
            generalize (layR (mksP img) R).length = sn at *
            generalize R.status = rs at *
            clear hD hs hR kw hX hlv hhp hus h0 h5 hwo hol hend hdone hwait hst1 hst2 r1 hf hn hh
            generalize hst : X.2 = st at *
            generalize X.1.used = us at *
            have HON := hid (rfl : X.1.out.length = X.1.out.length)
            have HXN := hid (rfl : (layR (mksP img) X.1).length = (layR (mksP img) X.1).length)
            generalize hon : X.1.out.length = on at HSM F1 F2 HON
            generalize hxl : (layR (mksP img) X.1).length = xn at HLV HXN
            clear hst
            replace HON := hid hon
            replace HXN := hid hxl
            clear hon hxl
            go_wp2_with fail
            refine (HFU.out _).mono ?_
            rintro e w3 ⟨rfl, hw3⟩
            have kB : Chg (fun _ => False) wr w3 := by
              rw [hw3]
              exact (Chg.refl _ _).alloc _
            have nB : Blk w3 wr.heap.size #[.slice ia inl ic, .int .i64 (n : Int), .bool p, .bool q] 31 := by
              rw [hw3]
              exact Blk.new wr _ 31
            clear hw3 HFU i0 i1 i2 i3
            obtain ⟨c0, c1, c2, c3, _, _, _, _⟩ := cells4 nB
            have KB := hid kB
            have NB := hid nB
            clear kB nB
            go_wp2_with fail
            refine (HGO.out _ KB.out).mono ?_
            rintro e w4 ⟨sv', ov', rfl, hs4, ho4, k4⟩
            obtain ⟨xa, xc, rfl⟩ : ∃ a c, sv' = .slice a xn c := by obtain ⟨a, c, q⟩ := hs4.slice; exact ⟨a, c, by rw [q, HXN.out]⟩
            obtain ⟨oa, oc, rfl⟩ : ∃ a c, ov' = .slice a on c := by obtain ⟨a, c, q⟩ := ho4.slice; exact ⟨a, c, by rw [q, HON.out]⟩
            have kX : Chg (fun _ => False) w4 (w4.alloc (Obj.cells #[.slice xa xn xc, .slice oa on oc, us, st] 34)) := (Chg.refl _ _).alloc _
            have nX := Blk.new w4 #[.slice xa xn xc, .slice oa on oc, .int .i64 (us : Int), .int .i64 st] 34
            have NB5 : Hid (Blk (w4.alloc (Obj.cells #[.slice xa xn xc, .slice oa on oc, us, st] 34)) wr.heap.size #[.slice ia inl ic, n, .bool p, .bool q] 31) := (NB.out.chg k4 (fun q => q)).chg kX (fun q => q)
            have HS5 : Hid (IntsV (w4.alloc (Obj.cells #[.slice xa xn xc, .slice oa on oc, us, st] 34)) 0 (.slice xa xn xc) (layR (mksP img) X.1)) := own_mono (own_chg hs4 kX (fun _ _ q => q)) (Nat.zero_le _)
            have HO5 : Hid (IntsV (w4.alloc (Obj.cells #[.slice xa xn xc, .slice oa on oc, us, st] 34)) 0 (.slice oa on oc) X.1.out) := own_mono (own_chg ho4 kX (fun _ _ q => q)) (Nat.zero_le _)
            have K5 : Hid (Chg (fun _ => False) w (w4.alloc (Obj.cells #[.slice xa xn xc, .slice oa on oc, us, st] 34))) := ((KW.out.trans KB.out).trans k4).trans kX
            have x0 : (w4.alloc (Obj.cells #[.slice xa xn xc, .slice oa on oc, us, st] 34)).cell? ⟨w4.heap.size, 0, none⟩ = some (.slice xa xn xc) := nX.cell 0
            have NX := hid nX
            clear hs4 ho4 k4 kX nX NB KB KW HGO c0 c1 c2 c3
            go_wp2_with fail
            refine (HLV.out _ _ _ _ HS5.out).mono ?_
            rintro e w6 ⟨rfl, k6⟩
            obtain ⟨c0, c1, c2, c3, _, _, _, _⟩ := cells4 (NB5.out.chg k6 (fun q => q))
            obtain ⟨y0, y1, y2, y3, _, _, _, _⟩ := cells4 (NX.out.chg k6 (fun q => q))
            have HS6 : Hid (IntsV w6 0 (.slice xa xn xc) (layR (mksP img) X.1)) := own_chg HS5.out k6 (fun _ _ q => q)
            have HO6 : Hid (IntsV w6 0 (.slice oa on oc) X.1.out) := own_chg HO5.out k6 (fun _ _ q => q)
            have K6 : Hid (Chg (fun _ => False) w w6) := K5.out.trans k6
            clear HS5 HO5 K5 k6 NB5 NX x0 HLV
            generalize w4.heap.size = xb at *
            go_wp2_with fail
            refine (num_any 0 _).mono ?_
            rintro e w7 ⟨rfl, hw7⟩
            have hw7 := hw7.symm
            subst hw7
            go_wp2_with fail
            refine (num_any 0 _).mono ?_
            rintro e w7 ⟨rfl, hw7⟩
            have hw7 := hw7.symm
            subst hw7
            go_wp2_with fail
            refine (HSM.out _ _ _ _ HO6.out).mono ?_
            rintro e w7 ⟨rfl, hw7⟩
            have hw7 := hw7.symm
            subst hw7
            clear HSM HO6
            by_cases hr0 : rs = 0
            · have hr0' := hr0
              subst hr0'
              have f1 : st = 0 ∨ st = 1 ∨ st = 2 ∨ st = 3 ∨ st = 4 ∨ st = 5 := by have := F6.out; omega
              rcases f1 with rfl | rfl | rfl | rfl | rfl | rfl
              · have XS : Hid (X.1.status = 0) := F5.out (.inl rfl)
                by_cases ho : (0 : Int) < (on : Int)
                · go_wp2
                  exact ⟨⟨k + 1, D', X.1, by simp, by omega, R1.out, HS6.out, by rw [XS.out], HHP.out, K6.out⟩, by simp [intOf]; omega⟩
                · go_wp2
                  exact ⟨⟨k + 1, D', X.1, by simp, by omega, R1.out, HS6.out, by rw [XS.out], HHP.out, K6.out⟩, by simp [intOf]; omega⟩
              · have XS : Hid (X.1.status = 1) := F4.out (by decide) (by decide)
                have ho : ((on : Int) == 0) = false := by have := F2.out rfl rfl; simp; omega
                have ho' : ¬ (on : Int) = 0 := by have := F2.out rfl rfl; omega
                go_wp2
                exact ⟨⟨k + 1, D', X.1, by simp, by omega, R1.out, HS6.out, by rw [XS.out], HHP.out, K6.out⟩, by simp [intOf]; omega⟩
              · have XS : Hid (X.1.status = 0) := F5.out (.inr rfl)
                have hu : us = inl := F3.out rfl
                subst hu
                have hul : ¬ (us : Int) < (us : Int) := by omega
                go_wp2
                exact ⟨⟨k + 1, D', X.1, by simp, by omega, R1.out, HS6.out, by rw [XS.out], HHP.out, K6.out⟩, by simp [intOf]; omega⟩
              · have XS : Hid (X.1.status = 3) := F4.out (by decide) (by decide)
                go_wp2
                exact ⟨⟨k + 1, D', X.1, by simp, by omega, R1.out, HS6.out, by rw [XS.out], HHP.out, K6.out⟩, by simp [intOf]; omega⟩
              · have XS : Hid (X.1.status = 4) := F4.out (by decide) (by decide)
                go_wp2
                exact ⟨⟨k + 1, D', X.1, by simp, by omega, R1.out, HS6.out, by rw [XS.out], HHP.out, K6.out⟩, by simp [intOf]; omega⟩
              · have XS : Hid (X.1.status = 5) := F4.out (by decide) (by decide)
                go_wp2
                exact ⟨⟨k + 1, D', X.1, by simp, by omega, R1.out, HS6.out, by rw [XS.out], HHP.out, K6.out⟩, by simp [intOf]; omega⟩
            · obtain ⟨q1, q2, q3⟩ := F1.out hr0
              have q6 := F6.out
              subst q1
              have f1 : st = 1 ∨ st = 3 ∨ st = 4 ∨ st = 5 := by omega
              have XS0 : X.1.status = st := F4.out hr0 hR2
              have XS := hid XS0
              subst q2 q3
              clear XS0 q6 F1 F2 F3 F4 F5 F6
              rcases f1 with rfl | rfl | rfl | rfl
              all_goals
                go_wp2
                exact ⟨⟨k + 1, D', X.1, by simp, by omega, R1.out, HS6.out, by rw [XS.out], HHP.out, K6.out⟩, by simp [intOf]; omega⟩
          · have HFU : Hid (∀ w, Calls Try.prog 10 #[l[k].2.1] w fun e w' => e = .returned (.bool false) ∧ w' = w) := fun w => by
              have e : decide (0 ≤ l[k].2.1 ∧ l[k].2.1 ≤ 10000) = false := by simp only [decide_eq_false_iff_not]; exact hf
              rw [← e]; exact fuelled_any _ w
            have FIN : Hid (∀ w', Chg (fun _ => False) wr w' → Rel (cxO img) D R ∧ IntsV w' 0 (.slice sa (layR (mksP img) R).length sc) (layR (mksP img) R) ∧ R.heap = h ∧ Chg (fun _ => False) w w') := fun w' kk => ⟨hD, own_chg hs kk (fun _ _ q => q), hh, kw.trans kk⟩
            generalize l[k].1.length = inl at *
            generalize l[k].2.1 = f at *
            generalize l[k].2.2.1 = p at *
            generalize l[k].2.2.2 = q at *
            generalize hsn : (layR (mksP img) R).length = sn at *
            clear hsn hD hs hR kw hf hh
            go_wp2_with fail
            refine (HFU.out _).mono ?_
            rintro e w3 ⟨rfl, hw3⟩
            have kB : Chg (fun _ => False) wr w3 := by
              rw [hw3]
              exact (Chg.refl _ _).alloc _
            have KB := hid kB
            clear kB hw3 i0 i1 i2 i3 HFU
            go_wp2
            obtain ⟨z1, z2, z3, z4⟩ := FIN.out _ KB.out
            exact ⟨⟨k + 1, D, R, by simp, by omega, z1, z2, rfl, z3, z4⟩, by simp [intOf]; omega⟩
        · have hlt' : ¬ (k : Int) < (l.length : Int) := by omega
          have KW := hid kw
          clear hD hs kw
          go_wp2_with fail
          refine (num_any 0 _).mono ?_
          rintro e w4 ⟨rfl, hw4⟩
          have hw4 := hw4.symm
          subst hw4
          go_wp2
          go_ret
          exact ⟨rfl, KW.out⟩
  · have hz' : ((opF img).1 == 0) = false := by simp [hz]
    rw [hz'] at HF
    have HZ := hid hz
    have hz1 : ((opF img).1 != 0) = true := by simp [hz]
    clear hz hz'
    go_enter Try.func3, Try.ntmps3
    go_wp2_with fail
    refine (HF.out _).mono ?_
    rintro e w1 ⟨rfl, k1⟩
    go_wp2_with fail
    refine (HS.out _).mono ?_
    rintro e w2 ⟨sa, sn, sc, er, pl, rfl, k2, hE, _, _⟩
    obtain ⟨rfl, rfl, hn⟩ := hE HZ.out
    simp only [Value.slice.injEq] at hn
    obtain ⟨rfl, rfl, rfl⟩ := hn
    have K2 : Hid (Chg (fun _ => False) w w2) := k1.trans k2
    have e47 := fun wx : World => Lib.run_eql_slice_nil (P := Try.prog) wx 24 3 none 0 0 0 0 Try.underlying24
    clear k1 k2 hE HS
    have HRG : Hid (∀ w, Calls Try.prog 8 #[h, d] w fun e w' => e = .returned (.bool (rgB h d)) ∧ w' = w) := fun w => ranged_any h d w
    generalize rgB h d = rb at *
    generalize (opF img).1 = er0 at *
    first
      | (go_wp2_with fail
         refine (num_any er0 _).mono ?_)
      | (refine (HRG.out _).mono ?_
         rintro e w3 ⟨rfl, hw3⟩
         have hw3 := hw3.symm
         subst hw3
         go_wp2_with fail
         refine (num_any er0 _).mono ?_)
    rintro e w4 ⟨rfl, hw4⟩
    have hw4 := hw4.symm
    subst hw4
    go_wp2
    go_ret
    exact ⟨by simp, K2.out⟩
end Go.Proofs.Ytnfnbcbadakofab
