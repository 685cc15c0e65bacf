import Derived.Test.YtnfnbcbadakofabLft
import Derived.Test.YtnfnbcbadakofabPks
import Derived.Test.YtnfnbcbadakofabSfp
import Derived.Test.YtnfnbcbadakofabXtr
namespace Go.Proofs.Ytnfnbcbadakofab
open Go.RowKit
set_option maxHeartbeats 4000000
set_option maxRecDepth 100000

theorem wp_appB {ops : Array Oper} {rest : List Oper} {o : Oper} {a : Act} {Q : Exit → Act → World → Prop} {w : World} (hgd : o.guard = none) (s x : Operand)
    (ho : o.op = .call { callee := .builtin .append, args := #[s, x], argTypes := #[24, 24] }) (base : Nat) (v u : Value) (l l' : List Int) (hs : a.eval s = v) (hx : a.eval x = u) (hown : IntsV w base v l) (hu : RdA w u l')
    (hlen : l.length + l'.length ≤ 17592186044416) (hbase : base ≤ w.heap.size)
    (h : ∀ x n c w', n = l.length + l'.length → IntsV w' base (.slice x n c) (l ++ l') → Chg (fun j => some j = v.ownBlock) w w' → wpList Try.prog ops Q rest (a.put o.dst (.slice x n c)) w') : wpList Try.prog ops Q (o :: rest) a w := by
  obtain ⟨i, hi1, hi2, hi3, hi4⟩ := info3
  rcases hu with ⟨rfl, rfl⟩ | ⟨ad, c, rfl, hle, hcap, hc⟩
  · refine wpList_append_own_none hgd s x 24 ho base 3 i 1 Try.underlying24 hi1 v _ _ hs hown hx ?_
    obtain ⟨b, c, hv⟩ := hown.slice
    have := h b l.length c w (by simp) (by rw [List.append_nil]; rw [hv] at hown; exact hown) (Chg.refl _ w)
    rw [hv]; exact this
  · have hnews : ∀ j u, (ints l')[j]? = some u → w.cell? (ad.add j) = some u := by
      intro j u hu
      have hj : j < l'.length := by
        rcases Nat.lt_or_ge j l'.length with h | h
        · exact h
        · rw [List.getElem?_eq_none (by simpa [ints] using h)] at hu; cases hu
      rw [hc j hj]
      simp [ints, List.getElem?_eq_getElem hj] at hu
      rw [List.getD_eq_getElem?_getD, List.getElem?_eq_getElem hj]
      simpa using hu
    refine wpList_append_own _ hgd s x 24 ho base 3 i (.int .i64 0) 1 8 Try.underlying24 hi1 hi2 hi3 hi4 rfl (by decide) v _ _ hs hown ad l'.length c (ints l') hx (by simp [ints]) hnews (fun u hu => by simp only [ints, List.mem_map] at hu; obtain ⟨y, _, rfl⟩ := hu; rfl) (by unfold maxLen; omega) (by omega) hbase ?_
    intro v' w' hown' hgrow _
    have hI : IntsV w' base v' (l ++ l') := by unfold IntsV; simpa [ints] using hown'
    obtain ⟨b, c', hv⟩ := hI.slice
    rw [hv] at hI ⊢
    exact h b _ c' w' (by simp) hI (chg_of_grown hgrow |>.mono (fun j _ e => e))

/-- append(l, nil...) -/
theorem wp_appN {ops : Array Oper} {rest : List Oper} {o : Oper} {a : Act} {Q : Exit → Act → World → Prop} {w : World} (hgd : o.guard = none) (s x : Operand)
    (ho : o.op = .call { callee := .builtin .append, args := #[s, x], argTypes := #[24, 24] }) (base : Nat) (v : Value) (l : List Int) (hs : a.eval s = v) (hx : a.eval x = .slice none 0 0) (hown : IntsV w base v l)
    (h : wpList Try.prog ops Q rest (a.put o.dst v) w) : wpList Try.prog ops Q (o :: rest) a w := by
  obtain ⟨i, hi1, hi2, hi3, hi4⟩ := info3
  exact wpList_append_own_none hgd s x 24 ho base 3 i 1 Try.underlying24 hi1 v _ _ hs hown hx h

theorem ljoinA (v : Value) (l : List Int) (w : World) (h : RdA w v l) (hl : l.length ≤ 17592186044416) : Calls Try.prog 17 #[v, .slice none 0 0] w fun e w' => ∃ u, e = .returned u ∧ IntsV w' w.heap.size u l ∧ Chg (fun _ => False) w w' := by
  obtain ⟨a, c, rfl⟩ := h.slice
  have H1 := hid h
  clear h
  go_enter Try.func17, Try.ntmps17
  go_wp2_with (at_builtin; refine wp_appB rfl _ _ rfl w.heap.size (.slice none 0 0) (.slice a l.length c) [] l rfl rfl ?h1 ?h2 ?h3 ?h4 ?_)
  case h1 => exact World.ownsRow_nil _ _ _ _
  case h2 => exact H1.out
  case h3 => simp; omega
  case h4 => exact Nat.le_refl _
  intro a3 n3 c3 w3 hn3 hI3 hch3
  have k3 : Chg (fun _ => False) w w3 := hch3.mono (fun _ _ q => by cases q)
  have H3 : Hid (IntsV w3 w.heap.size (.slice a3 n3 c3) l) := hI3
  clear hn3 hI3 hch3
  go_wp2_with (at_builtin; refine wp_appN rfl _ _ rfl w.heap.size (.slice a3 n3 c3) l rfl rfl H3.out ?_)
  go_wp2
  go_ret
  exact ⟨_, rfl, H3.out, k3⟩

theorem same_rc (a1 a2 : Option Addr) (g1 g2 : Addr) (c1 c2 : Nat) (l : List Int) (w : World) (hl : l.length ≤ 17592186044416) (ha : 0 < l.length → a1 = some g1 ∧ a2 = some g2)
    (h1 : ∀ j, j < l.length → w.cell? (g1.add j) = some (.int .i64 (l.getD j 0))) (h2 : ∀ j, j < l.length → w.cell? (g2.add j) = some (.int .i64 (l.getD j 0))) :
    Calls Try.prog 18 #[.slice a1 l.length c1, .slice a2 l.length c2] w fun e w' => e = .returned (.bool true) ∧ ∃ n, w' = w.drewN n := by
  go_enter Try.func18, Try.ntmps18
  go_wp2
  go_loopw [5] (fun i wr => ∃ k : Nat, k ≤ l.length ∧ i = .int .i64 k ∧ ∃ n, wr = w.drewN n) (fun i _ => l.length - (intOf i).toNat)
  case atStart => exact ⟨0, Nat.zero_le _, rfl, 0, rfl⟩
  case round =>
    obtain ⟨k, hk, rfl, n, rfl⟩ := hrel
    by_cases hlt : k < l.length
    · obtain ⟨rfl, rfl⟩ := ha (by omega)
      have y1 := h1 k hlt
      have y2 := h2 k hlt
      have hlt' : (k : Int) < (l.length : Int) := by omega
      generalize l.getD k 0 = x at *
      clear h1 h2 ha
      go_wp2
      go_quiet (fail)
      go_wp2
      exact ⟨⟨k + 1, by omega, rfl, _, rfl⟩, by simp [intOf]; omega⟩
    · go_wp2
      go_ret
      exact ⟨rfl, n, rfl⟩

theorem same_rd (a1 a2 : Option Addr) (c1 c2 : Nat) (l : List Int) (w : World) (hl : l.length ≤ 17592186044416) (h1 : RdA w (.slice a1 l.length c1) l) (h2 : RdA w (.slice a2 l.length c2) l) :
    Calls Try.prog 18 #[.slice a1 l.length c1, .slice a2 l.length c2] w fun e w' => e = .returned (.bool true) ∧ ∃ n, w' = w.drewN n := by
  by_cases h0 : 0 < l.length
  · rcases h1 with ⟨_, rfl⟩ | ⟨g1, d1, e1, _, _, k1⟩
    · simp at h0
    · rcases h2 with ⟨_, rfl⟩ | ⟨g2, d2, e2, _, _, k2⟩
      · simp at h0
      · simp only [Value.slice.injEq] at e1 e2
        exact same_rc _ _ g1 g2 c1 c2 l w hl (fun _ => ⟨e1.1, e2.1⟩) k1 k2
  · exact same_rc a1 a2 ⟨0, 0, none⟩ ⟨0, 0, none⟩ c1 c2 l w hl (fun h => absurd h h0) (fun j hj => by omega) (fun j hj => by omega)

theorem leaves_core (img : ByteArray) (h d : Int) (ia : Option Addr) (ic : Nat) (inp : List Int) (fuel : Int) (w : World) (hi : RdA w (.slice ia inp.length ic) inp) (hil : inp.length ≤ 17592186044416)
    (SL XL XO PL : List Int) (us st er nl : Int) (hSL : 0 < SL.length ∧ SL.length ≤ 100000) (hXL : XL.length ≤ 100000) (hXO : XO.length ≤ 100000) (hPL : PL.length ≤ 100000)
    (HS : Hid (Calls Try.prog 7 #[.string img, h, d] w fun e w' => ∃ a c, e = .returned (.tuple #[.slice a SL.length c, oO, oO]) ∧ IntsV w' w.heap.size (.slice a SL.length c) SL ∧ Chg (fun _ => False) w w'))
    (HG : Hid (∀ (w' : World) (a b : Option Addr) (c d : Nat), IntsV w' 0 (.slice a SL.length c) SL → RdA w' (.slice b inp.length d) inp → Calls Try.prog 11 #[.string img, .slice a SL.length c, .slice b inp.length d, fuel] w' fun e w'' => ∃ sv' ov', e = .returned (.tuple #[.agg #[sv', ov', us, st], er]) ∧ IntsV w'' w'.heap.size sv' XL ∧ IntsV w'' w'.heap.size ov' XO ∧ Sep ov' sv' ∧ Chg (fun _ => False) w' w''))
    (HP : Hid (∀ (w' : World) (a : Option Addr) (c : Nat), IntsV w' 0 (.slice a SL.length c) SL → Calls Try.prog 15 #[.string img, .slice a SL.length c] w' fun e w'' => ∃ u, e = .returned (.tuple #[u, oO]) ∧ IntsV w'' w'.heap.size u PL ∧ Chg (fun _ => False) w' w''))
    (HL : Hid (∀ (w' : World) (a : Option Addr) (c : Nat), IntsV w' 0 (.slice a SL.length c) SL → Calls Try.prog 12 #[.string img, .slice a SL.length c] w' fun e w'' => e = .returned (.tuple #[nl, oO]) ∧ Chg (fun _ => False) w' w'')) :
    Calls Try.prog 5 #[.string img, h, d, .slice ia inp.length ic, fuel] w fun e w' => e = .returned (.bool true) ∧ Chg (fun _ => False) w w' := by
  have HI := hid hi
  obtain ⟨hs0, hs1⟩ := hSL
  have hs0' : (0 : Int) < (SL.length : Int) := by omega
  clear hi
  go_enter Try.func5, Try.ntmps5
  go_wp2_with fail
  refine HS.out.mono ?_
  rintro e w1 ⟨sa, sc, rfl, hS1, k1⟩
  have S1 := hid hS1
  have K1 := hid k1
  clear hS1 k1 HS
  go_wp2_with fail
  refine (num_any 0 _).mono ?_
  rintro e w2 ⟨rfl, hw2⟩
  have hw2 := hw2.symm
  subst hw2
  go_wp2_with fail
  refine (ljoinA _ SL _ S1.out.rdA (by omega)).mono ?_
  rintro e w2 ⟨u2, rfl, hu2, k2⟩
  obtain ⟨oa, oc, rfl⟩ := hu2.slice
  have S2 : Hid (IntsV w2 0 (.slice sa SL.length sc) SL) := own_mono (own_chg S1.out k2 (fun _ _ q => q)) (Nat.zero_le _)
  have O2 := hid hu2
  have K2 : Hid (Chg (fun _ => False) w w2) := K1.out.trans k2
  clear hu2 k2 S1 K1
  go_wp2_with fail
  refine (ljoinA _ inp _ (HI.out.new K2.out) hil).mono ?_
  rintro e w3 ⟨u3, rfl, hu3, k3⟩
  obtain ⟨la, lc, rfl⟩ := hu3.slice
  have S3 : Hid (IntsV w3 0 (.slice sa SL.length sc) SL) := own_chg S2.out k3 (fun _ _ q => q)
  have O3 : Hid (RdA w3 (.slice oa SL.length oc) SL) := O2.out.rdA.new k3
  have L3 : Hid (RdA w3 (.slice la inp.length lc) inp) := hu3.rdA
  have K3 : Hid (Chg (fun _ => False) w w3) := K2.out.trans k3
  clear hu3 k3 S2 O2 K2
  go_wp2_with fail
  refine (HG.out _ _ _ _ _ S3.out L3.out).mono ?_
  rintro e w4 ⟨xv, xo, rfl, hx4, ho4, _, k4⟩
  obtain ⟨xa, xc, rfl⟩ := hx4.slice
  obtain ⟨ya, yc, rfl⟩ := ho4.slice
  have kX : Chg (fun _ => False) w4 (w4.alloc (Obj.cells #[.slice xa XL.length xc, .slice ya XO.length yc, us, st] 34)) := (Chg.refl _ _).alloc _
  have nX := Blk.new w4 #[.slice xa XL.length xc, .slice ya XO.length yc, .int .i64 us, .int .i64 st] 34
  have K5 : Hid (Chg (fun _ => False) w3 (w4.alloc (Obj.cells #[.slice xa XL.length xc, .slice ya XO.length yc, us, st] 34))) := k4.trans kX
  have X5 : Hid (RdA (w4.alloc (Obj.cells #[.slice xa XL.length xc, .slice ya XO.length yc, us, st] 34)) (.slice xa XL.length xc) XL) := hx4.rdA.new kX
  have Y5 : Hid (RdA (w4.alloc (Obj.cells #[.slice xa XL.length xc, .slice ya XO.length yc, us, st] 34)) (.slice ya XO.length yc) XO) := ho4.rdA.new kX
  have NX := hid nX
  clear hx4 ho4 k4 kX nX
  go_wp2_with fail
  refine (HP.out _ _ _ (own_chg S3.out K5.out (fun _ _ q => q))).mono ?_
  rintro e w6 ⟨p6, rfl, hp6, k6⟩
  obtain ⟨pa, pc, rfl⟩ := hp6.slice
  have K6 : Hid (Chg (fun _ => False) w3 w6) := K5.out.trans k6
  have X6 : Hid (RdA w6 (.slice xa XL.length xc) XL) := X5.out.new k6
  have Y6 : Hid (RdA w6 (.slice ya XO.length yc) XO) := Y5.out.new k6
  have P6 : Hid (RdA w6 (.slice pa PL.length pc) PL) := hp6.rdA
  have N6 : Hid (Blk w6 w4.heap.size #[.slice xa XL.length xc, .slice ya XO.length yc, us, st] 34) := NX.out.chg k6 (fun q => q)
  clear hp6 k6 K5 X5 Y5 NX
  generalize w4.heap.size = xb at *
  go_wp2_with fail
  refine (HL.out _ _ _ (own_chg S3.out K6.out (fun _ _ q => q))).mono ?_
  rintro e w7 ⟨rfl, k7⟩
  have K7 : Hid (Chg (fun _ => False) w3 w7) := K6.out.trans k7
  have X7 : Hid (RdA w7 (.slice xa XL.length xc) XL) := X6.out.new k7
  have Y7 : Hid (RdA w7 (.slice ya XO.length yc) XO) := Y6.out.new k7
  have P7 : Hid (RdA w7 (.slice pa PL.length pc) PL) := P6.out.new k7
  have N7 : Hid (Blk w7 xb #[.slice xa XL.length xc, .slice ya XO.length yc, us, st] 34) := N6.out.chg k7 (fun q => q)
  clear k7 K6 X6 Y6 P6 N6
  go_wp2_with fail
  refine (HG.out _ _ _ _ _ (own_chg S3.out K7.out (fun _ _ q => q)) (L3.out.new K7.out)).mono ?_
  rintro e w8 ⟨zv, zo, rfl, hz8, ho8, _, k8⟩
  obtain ⟨za, zc, rfl⟩ := hz8.slice
  obtain ⟨ta, tc, rfl⟩ := ho8.slice
  have kZ : Chg (fun _ => False) w8 (w8.alloc (Obj.cells #[.slice za XL.length zc, .slice ta XO.length tc, us, st] 34)) := (Chg.refl _ _).alloc _
  have nZ := Blk.new w8 #[.slice za XL.length zc, .slice ta XO.length tc, .int .i64 us, .int .i64 st] 34
  have k9 : Chg (fun _ => False) w7 (w8.alloc (Obj.cells #[.slice za XL.length zc, .slice ta XO.length tc, us, st] 34)) := k8.trans kZ
  have K9 : Hid (Chg (fun _ => False) w3 (w8.alloc (Obj.cells #[.slice za XL.length zc, .slice ta XO.length tc, us, st] 34))) := K7.out.trans k9
  have X9 : Hid (RdA (w8.alloc (Obj.cells #[.slice za XL.length zc, .slice ta XO.length tc, us, st] 34)) (.slice xa XL.length xc) XL) := X7.out.new k9
  have Y9 : Hid (RdA (w8.alloc (Obj.cells #[.slice za XL.length zc, .slice ta XO.length tc, us, st] 34)) (.slice ya XO.length yc) XO) := Y7.out.new k9
  have P9 : Hid (RdA (w8.alloc (Obj.cells #[.slice za XL.length zc, .slice ta XO.length tc, us, st] 34)) (.slice pa PL.length pc) PL) := P7.out.new k9
  have N9 : Hid (Blk (w8.alloc (Obj.cells #[.slice za XL.length zc, .slice ta XO.length tc, us, st] 34)) xb #[.slice xa XL.length xc, .slice ya XO.length yc, us, st] 34) := N7.out.chg k9 (fun q => q)
  have Z9 : Hid (RdA (w8.alloc (Obj.cells #[.slice za XL.length zc, .slice ta XO.length tc, us, st] 34)) (.slice za XL.length zc) XL) := hz8.rdA.new kZ
  have T9 : Hid (RdA (w8.alloc (Obj.cells #[.slice za XL.length zc, .slice ta XO.length tc, us, st] 34)) (.slice ta XO.length tc) XO) := ho8.rdA.new kZ
  have NZ := hid nZ
  clear hz8 ho8 k8 kZ nZ k9 K7 X7 Y7 P7 N7
  go_wp2_with fail
  refine (HP.out _ _ _ (own_chg S3.out K9.out (fun _ _ q => q))).mono ?_
  rintro e w10 ⟨q10, rfl, hq10, k10⟩
  obtain ⟨qa, qc, rfl⟩ := hq10.slice
  have KA : Hid (Chg (fun _ => False) w3 w10) := K9.out.trans k10
  have XA : Hid (RdA w10 (.slice xa XL.length xc) XL) := X9.out.new k10
  have YA : Hid (RdA w10 (.slice ya XO.length yc) XO) := Y9.out.new k10
  have PA : Hid (RdA w10 (.slice pa PL.length pc) PL) := P9.out.new k10
  have ZA : Hid (RdA w10 (.slice za XL.length zc) XL) := Z9.out.new k10
  have TA : Hid (RdA w10 (.slice ta XO.length tc) XO) := T9.out.new k10
  have QA : Hid (RdA w10 (.slice qa PL.length qc) PL) := hq10.rdA
  have NA : Hid (Blk w10 xb #[.slice xa XL.length xc, .slice ya XO.length yc, us, st] 34) := N9.out.chg k10 (fun q => q)
  have MA : Hid (Blk w10 w8.heap.size #[.slice za XL.length zc, .slice ta XO.length tc, us, st] 34) := NZ.out.chg k10 (fun q => q)
  clear hq10 k10 K9 X9 Y9 P9 Z9 T9 N9 NZ
  generalize w8.heap.size = zb at *
  go_wp2_with fail
  refine (HL.out _ _ _ (own_chg S3.out KA.out (fun _ _ q => q))).mono ?_
  rintro e w11 ⟨rfl, k11⟩
  have KB : Hid (Chg (fun _ => False) w3 w11) := KA.out.trans k11
  have XB : Hid (RdA w11 (.slice xa XL.length xc) XL) := XA.out.new k11
  have YB : Hid (RdA w11 (.slice ya XO.length yc) XO) := YA.out.new k11
  have PB : Hid (RdA w11 (.slice pa PL.length pc) PL) := PA.out.new k11
  have ZB : Hid (RdA w11 (.slice za XL.length zc) XL) := ZA.out.new k11
  have TB : Hid (RdA w11 (.slice ta XO.length tc) XO) := TA.out.new k11
  have QB : Hid (RdA w11 (.slice qa PL.length qc) PL) := QA.out.new k11
  have NB : Hid (Blk w11 xb #[.slice xa XL.length xc, .slice ya XO.length yc, us, st] 34) := NA.out.chg k11 (fun q => q)
  have MB : Hid (Blk w11 zb #[.slice za XL.length zc, .slice ta XO.length tc, us, st] 34) := MA.out.chg k11 (fun q => q)
  have IB : Hid (RdA w11 (.slice ia inp.length ic) inp) := HI.out.new (K3.out.trans KB.out)
  have OB : Hid (RdA w11 (.slice oa SL.length oc) SL) := O3.out.new KB.out
  have SB : Hid (IntsV w11 0 (.slice sa SL.length sc) SL) := own_chg S3.out KB.out (fun _ _ q => q)
  have LB : Hid (RdA w11 (.slice la inp.length lc) inp) := L3.out.new KB.out
  have KC : Hid (Chg (fun _ => False) w w11) := K3.out.trans KB.out
  clear k11 KA XA YA PA ZA TA QA NA MA KB S3 O3 L3 K3
  go_wp2_with fail
  refine (same_rd _ _ _ _ SL _ (by omega) SB.out.rdA OB.out).mono ?_
  rintro e w12 ⟨rfl, m12, hw12⟩
  have d1 : Chg (fun _ => False) w11 w12 := by rw [hw12]; exact (Chg.refl _ _).drewN _
  replace XB := hid (XB.out.new d1)
  replace YB := hid (YB.out.new d1)
  replace PB := hid (PB.out.new d1)
  replace ZB := hid (ZB.out.new d1)
  replace TB := hid (TB.out.new d1)
  replace QB := hid (QB.out.new d1)
  replace IB := hid (IB.out.new d1)
  replace LB := hid (LB.out.new d1)
  replace NB := hid (NB.out.chg d1 (fun q => q))
  replace MB := hid (MB.out.chg d1 (fun q => q))
  replace SB : Hid (IntsV w12 0 (.slice sa SL.length sc) SL) := own_chg SB.out d1 (fun _ _ q => q)
  replace KC := hid (KC.out.trans d1)
  clear OB d1 hw12
  go_wp2_with fail
  refine (same_rd _ _ _ _ inp _ hil LB.out IB.out).mono ?_
  rintro e w13 ⟨rfl, m13, hw13⟩
  have d1 : Chg (fun _ => False) w12 w13 := by rw [hw13]; exact (Chg.refl _ _).drewN _
  replace XB := hid (XB.out.new d1)
  replace YB := hid (YB.out.new d1)
  replace PB := hid (PB.out.new d1)
  replace ZB := hid (ZB.out.new d1)
  replace TB := hid (TB.out.new d1)
  replace QB := hid (QB.out.new d1)
  replace LB := hid (LB.out.new d1)
  replace NB := hid (NB.out.chg d1 (fun q => q))
  replace MB := hid (MB.out.chg d1 (fun q => q))
  replace SB : Hid (IntsV w13 0 (.slice sa SL.length sc) SL) := own_chg SB.out d1 (fun _ _ q => q)
  replace KC := hid (KC.out.trans d1)
  clear IB d1 hw13
  obtain ⟨x0, x1, _, _, _, _, _, _⟩ := cells4 NB.out
  obtain ⟨z0, z1, _, _, _, _, _, _⟩ := cells4 MB.out
  go_wp2_with fail
  refine (same_rd _ _ _ _ XO _ (by omega) YB.out TB.out).mono ?_
  rintro e w14 ⟨rfl, m14, hw14⟩
  have d1 : Chg (fun _ => False) w13 w14 := by rw [hw14]; exact (Chg.refl _ _).drewN _
  replace XB := hid (XB.out.new d1)
  replace PB := hid (PB.out.new d1)
  replace ZB := hid (ZB.out.new d1)
  replace QB := hid (QB.out.new d1)
  replace LB := hid (LB.out.new d1)
  replace NB := hid (NB.out.chg d1 (fun q => q))
  replace MB := hid (MB.out.chg d1 (fun q => q))
  replace SB : Hid (IntsV w14 0 (.slice sa SL.length sc) SL) := own_chg SB.out d1 (fun _ _ q => q)
  replace KC := hid (KC.out.trans d1)
  clear YB TB d1 hw14 x0 x1 z0 z1
  obtain ⟨x0, x1, _, _, _, _, _, _⟩ := cells4 NB.out
  obtain ⟨z0, z1, _, _, _, _, _, _⟩ := cells4 MB.out
  go_wp2_with fail
  refine (same_rd _ _ _ _ XL _ (by omega) XB.out ZB.out).mono ?_
  rintro e w15 ⟨rfl, m15, hw15⟩
  have d1 : Chg (fun _ => False) w14 w15 := by rw [hw15]; exact (Chg.refl _ _).drewN _
  replace PB := hid (PB.out.new d1)
  replace QB := hid (QB.out.new d1)
  replace LB := hid (LB.out.new d1)
  replace NB := hid (NB.out.chg d1 (fun q => q))
  replace MB := hid (MB.out.chg d1 (fun q => q))
  replace SB : Hid (IntsV w15 0 (.slice sa SL.length sc) SL) := own_chg SB.out d1 (fun _ _ q => q)
  replace KC := hid (KC.out.trans d1)
  clear XB ZB d1 hw15 x0 x1 z0 z1
  go_wp2_with fail
  refine (same_rd _ _ _ _ PL _ (by omega) PB.out QB.out).mono ?_
  rintro e w16 ⟨rfl, m16, hw16⟩
  have d1 : Chg (fun _ => False) w15 w16 := by rw [hw16]; exact (Chg.refl _ _).drewN _
  replace LB := hid (LB.out.new d1)
  replace NB := hid (NB.out.chg d1 (fun q => q))
  replace MB := hid (MB.out.chg d1 (fun q => q))
  replace SB : Hid (IntsV w16 0 (.slice sa SL.length sc) SL) := own_chg SB.out d1 (fun _ _ q => q)
  replace KC := hid (KC.out.trans d1)
  clear PB QB d1 hw16
  go_wp2_with fail
  refine (left_core img sa la SL.length sc inp.length lc fuel w16 XL XO PL us st er hXL hXO hPL (fun w' kk => HG.out _ _ _ _ _ (own_chg SB.out kk (fun _ _ q => q)) (LB.out.new kk)) (fun w' kk => HP.out _ _ _ (own_chg SB.out kk (fun _ _ q => q)))).mono ?_
  rintro e w17 ⟨rfl, k17⟩
  replace KC := hid (KC.out.trans k17)
  obtain ⟨_, _, x2, x3, _, _, _, _⟩ := cells4 (NB.out.chg k17 (fun q => q))
  obtain ⟨_, _, z2, z3, _, _, _, _⟩ := cells4 (MB.out.chg k17 (fun q => q))
  clear NB MB SB LB k17 HG HP HL
  go_wp2_with fail
  refine (num_any er _).mono ?_
  rintro e w18 ⟨rfl, hw18⟩
  have hw18 := hw18.symm
  subst hw18
  go_wp2_with fail
  refine (num_any er _).mono ?_
  rintro e w18 ⟨rfl, hw18⟩
  have hw18 := hw18.symm
  subst hw18
  go_wp2
  go_ret
  exact ⟨by simp, KC.out⟩
end Go.Proofs.Ytnfnbcbadakofab
