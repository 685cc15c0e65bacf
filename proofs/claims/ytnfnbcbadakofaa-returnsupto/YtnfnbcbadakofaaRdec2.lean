import Derived.Test.YtnfnbcbadakofaaRdec
namespace Go.Proofs.Ytnfnbcbadakofaa
open Go.RowKit

set_option maxHeartbeats 2000000 in
set_option maxRecDepth 100000 in
theorem rdecode_core (b : ByteArray) (w : World) (hb8 : b.size ≤ 800)
    (r0 r2 : Int × (Nat × Bool)) (r1 : List (List Int) × (Nat × Bool)) (H0 : Hid (nx (bl b) 0 6 (0, false) = r0)) (H1 : Hid (nxT (bl b) r0.1 r0.1.toNat r0.2 = r1)) (H2 : Hid (nx (bl b) 1 6 r1.2 = r2)) (h0 : 0 ≤ r0.1 ∧ r0.1 ≤ 6) (h2 : 0 ≤ r2.1 ∧ r2.1 ≤ 6)
    (hn : r1.1.length ≤ 10000) (hls : ∀ j, (r1.1.getD j []).length ≤ 10000)
    (R : Int × Int × Pg) (HR : Hid (R = if (nxFs (bl b) r1.1 r2.1 r2.1.toNat r2.2).2.2 = true ∨ (nxFs (bl b) r1.1 r2.1 r2.1.toNat r2.2).2.1 < b.size then (2, ((nxFs (bl b) r1.1 r2.1 r2.1.toNat r2.2).2.1 : Int), ⟨[], []⟩) else (0, 0, ⟨r1.1, (nxFs (bl b) r1.1 r2.1 r2.1.toNat r2.2).1⟩))) :
    Calls Try.prog 18 #[.string b] w fun e w' =>
      ∃ tv fv, e = .returned (.tuple #[.agg #[tv, fv], .int .i64 R.1, .int .i64 R.2.1]) ∧ TypesV w' w.heap.size tv R.2.2.types ∧ FuncsV 92 99 w' w.heap.size fv R.2.2.funcs ∧ Chg (fun _ => False) w w' := by
  obtain ⟨i, hi1, hi2, hi3, hi4⟩ := info47
  have Hi1 : Hid (Try.prog.info? 47 = some i) := hi1
  have Hi2 : Hid (i.zero = some (.slice none 0 0)) := hi2
  have Hi3 : Hid (i.size = 1) := hi3
  have Hi4 : Hid (i.bytes = 24) := hi4
  clear hi1 hi2 hi3 hi4
  have hl : b.size ≤ 10000 := by omega
  have hb8' : (b.size : Int) ≤ 800 := by omega
  go_enter Try.func18, Try.ntmps18
  go_wp2_with fail
  have d0 : DS w (((w.alloc (Obj.cells #[.slice none 0 0, .slice none 0 0] 28)).alloc (Obj.cells #[.string b, .int .i64 0, .bool true] 87)).alloc (Obj.cells #[.slice none 0 0, .slice none 0 0] 28)) b (0, false) #[.slice none 0 0, .slice none 0 0] :=
    ⟨(Blk.new' (by simp) _ 87).alloc _, ((Blk.new w _ 28).alloc _).alloc _, Blk.new' (by simp) _ 28, (((Chg.refl _ w).alloc _).alloc _).alloc _⟩
  refine (next_any _ b _ _ _ _ d0.rr hl).mono ?_
  rw [H0.out]
  rintro e w1 ⟨rfl, hrs, hch⟩
  have p1 := d0.step hch hrs
  clear d0 hrs hch hb8'
  go_wp2_with fail
  go_loopw [8] (fun i wr => ∃ k : Nat, k ≤ r0.1.toNat ∧ i = .int .i64 k ∧ ∃ tv, DS w wr b (nxT (bl b) r0.1 k r0.2).2 #[tv, .slice none 0 0] ∧ TypesV wr w.heap.size tv (nxT (bl b) r0.1 k r0.2).1) (fun i _ => r0.1.toNat - (intOf i).toNat)
  case atStart => exact ⟨0, Nat.zero_le _, rfl, _, p1, TypesV.nil _ _⟩
  case round =>
    clear p1
    obtain ⟨k, hk, rfl, tv, pA, hty⟩ := hrel
    by_cases hlt : (k : Int) < r0.1
    · go_wp2_with fail
      refine (next_any _ b _ _ _ _ pA.rr hl).mono ?_
      rintro e w2 ⟨rfl, hrs, hch⟩
      have hc5 := nx_rng (bl b) 0 5 (nxT (bl b) r0.1 k r0.2).2 (by decide)
      generalize hC : nx (bl b) 0 5 (nxT (bl b) r0.1 k r0.2).2 = C at *
      have HC : Hid (nx (bl b) 0 5 (nxT (bl b) r0.1 k r0.2).2 = C) := hC
      clear hC
      have pB := pA.step hch hrs
      have hty2 := hty.rr pA.rr hch
      clear pA hty hrs hch
      go_wp2_with fail
      refine (nextTypes_any _ b _ _ _ _ pB.rr hl (by omega)).mono ?_
      rintro e w3 ⟨lv, rfl, hlv0, hrs, hch⟩
      generalize hL : nxL (bl b) r0.1 C.1.toNat C.2 = L at *
      have HL : Hid (nxL (bl b) r0.1 C.1.toNat C.2 = L) := hL
      clear hL
      have pC := pB.step hch hrs
      have hty3 := hty2.rr pB.rr hch
      have hlv : IntsV w3 w.heap.size lv L.1 := own_mono hlv0 pB.ch.size
      clear pB hty2 hlv0 hrs hch
      obtain ⟨vs, hvs, hvk⟩ := hty3
      have y0 : w3.cell? ⟨w.heap.size + 2, 0, none⟩ = some tv := pC.pb.cell 0
      have z0 := pC.pb.frozen 0
      have hlt3 := pC.pb.lt
      have hsz3 := pC.ch.size
      obtain ⟨la, lc, rfl⟩ := hlv.slice
      have htl : ∃ ta tc, tv = .slice ta (nxT (bl b) r0.1 k r0.2).1.length tc := by
        rcases hvs.2 with ⟨h1, h2⟩ | ⟨g, cap, cur, rfl, _⟩
        · exact ⟨none, 0, by rw [h1, h2]⟩
        · exact ⟨_, _, rfl⟩
      obtain ⟨ta, tc, rfl⟩ := htl
      go_wp2_with (at_builtin; refine wpList_append_lies _ rfl _ _ 25 rfl w.heap.size 47 i (.slice none 0 0) 1 24 Try.underlying25 Hi1.out Hi2.out Hi3.out Hi4.out rfl (by decide) _ _ _ rfl (World.ownsRow.alloc hvs _) ⟨w3.heap.size, 0, none⟩ 1 1 [.slice la L.1.length lc] rfl rfl ?c1 ?c2 (by decide) ?c3 ?c4 ?c5 _ rfl ?_)
      case c1 => exact cell_one_new _ _ _
      case c2 => intro u hu; simp at hu; subst hu; rfl
      case c3 => rw [nxT_len]; unfold maxLen; omega
      case c4 => rw [nxT_len]; omega
      case c5 => simp; omega
      · intro g cap2 w4 hown hgrow hat hlt4
        have hg3 : Chg (fun j => some j = (Value.slice ta (nxT (bl b) r0.1 k r0.2).1.length tc).ownBlock) w3 w4 := (((Chg.refl _ w3).alloc _).grown hgrow (fun j hj => .inl hj.symm))
        have pD := pC.grow (by decide) (by decide) hvs hg3
        have hty4 := TypesV.snoc hvs hvk rfl hown hg3 hlv
        clear hgrow hg3 hat y0 z0
        have y0 : w4.cell? ⟨w.heap.size + 2, 0, none⟩ = some (.slice ta (nxT (bl b) r0.1 k r0.2).1.length tc) := pD.pb.cell 0
        have z0 := pD.pb.frozen 0
        go_wp2
        have e1 : nxT (bl b) r0.1 (k + 1) r0.2 = ((nxT (bl b) r0.1 k r0.2).1 ++ [L.1], L.2) := by rw [← HL.out, ← HC.out]; rfl
        exact ⟨⟨k + 1, by omega, rfl, _, by rw [e1]; exact pD.setP 0 _, by rw [e1]; exact hty4.set pD.pb (by decide) (by decide) 0 _⟩, by simp [intOf]; omega⟩
    · have e1 : r0.1.toNat = k := by omega
      rw [e1] at H1
      rw [H1.out] at pA hty
      clear Hi1 Hi2 Hi3 Hi4
      obtain ⟨i, hi1, hi2, hi3, hi4⟩ := info67
      have Hi1 : Hid (Try.prog.info? 92 = some i) := hi1
      have Hi2 : Hid (i.zero = some (.agg #[.int .i64 0, .slice none 0 0, .int .i64 0, .slice none 0 0])) := hi2
      have Hi3 : Hid (i.size = 4) := hi3
      have Hi4 : Hid (i.bytes = 64) := hi4
      clear hi1 hi2 hi3 hi4 e1
      go_wp2_with fail
      refine (next_any _ b _ _ _ _ pA.rr hl).mono ?_
      rw [H2.out]
      rintro e w2 ⟨rfl, hrs, hch⟩
      have pB := pA.step hch hrs
      have hty2 := hty.rr pA.rr hch
      clear pA hty hrs hch
      go_wp2_with fail
      clear hlt hk
      go_loopw [12] (fun i wr => ∃ k : Nat, k ≤ r2.1.toNat ∧ i = .int .i64 k ∧ ∃ fv, DS w wr b (nxFs (bl b) r1.1 r2.1 k r2.2).2 #[tv, fv] ∧ TypesV wr w.heap.size tv r1.1 ∧ FuncsV 92 99 wr w.heap.size fv (nxFs (bl b) r1.1 r2.1 k r2.2).1) (fun i _ => r2.1.toNat - (intOf i).toNat)
      case atStart => exact ⟨0, Nat.zero_le _, rfl, _, pB, hty2, FuncsV.nil _ _ _ _⟩
      case round =>
        clear pB hty2
        obtain ⟨k2, hk, rfl, fv, pA, hty, hfv⟩ := hrel
        obtain ⟨ta, tc, rfl⟩ := hty.slice
        obtain ⟨fa, fc, rfl⟩ := hfv.slice
        have hCl := nxFs_len (bl b) r1.1 r2.1 k2 r2.2
        have y0 : wr.cell? ⟨w.heap.size + 2, 0, none⟩ = some (.slice ta r1.1.length tc) := pA.pb.cell 0
        have y1 : wr.cell? ⟨w.heap.size + 2, 1, none⟩ = some (.slice fa (nxFs (bl b) r1.1 r2.1 k2 r2.2).1.length fc) := pA.pb.cell 1
        have y2 : wr.cell? ⟨w.heap.size + 1, 2, none⟩ = some (.bool (!(nxFs (bl b) r1.1 r2.1 k2 r2.2).2.2)) := pA.rr.cell 2
        by_cases hgo : (k2 : Int) < r2.1 ∧ (nxFs (bl b) r1.1 r2.1 k2 r2.2).2.2 = false
        · obtain ⟨hlt, hst0⟩ := hgo
          have hkb : k2 ≤ 6 := by omega
          generalize hC : nxFs (bl b) r1.1 r2.1 k2 r2.2 = C at *
          have HC : Hid (nxFs (bl b) r1.1 r2.1 k2 r2.2 = C) := hC
          clear hC
          rw [hst0] at y2
          have Hst0 : Hid (C.2.2 = false) := hst0
          clear hst0
          go_wp2_with fail
          clear y0 y1 y2
          refine (rfun_any _ b _ _ _ r1.1 r2.1 _ _ w.heap.size pA.rr hl hty ⟨_, _, _, rfl⟩ hn hls h2.1 (by omega)).mono ?_
          rintro e w3 ⟨lv, cv, rfl, hlv0, hcv0, hrs, hch⟩
          have ek : ((k2 : Int) == 0) = (k2 == 0) := by rcases k2 with _ | k2 <;> simp; omega
          rw [ek] at hlv0 hcv0 hrs
          rw [ek]
          generalize hF : nxF (bl b) r1.1 r2.1 (k2 == 0) C.2 = F at *
          have HF : Hid (nxF (bl b) r1.1 r2.1 (k2 == 0) C.2 = F) := hF
          clear hF ek
          have pB := pA.step hch hrs
          have hty2 := hty.rr pA.rr hch
          have hfv2 := hfv.rr (by decide) (by decide) pA.rr hch
          have hlv : IntsV w3 w.heap.size lv F.1.locals := own_mono hlv0 pA.ch.size
          have hcv : InsV 99 w3 w.heap.size cv F.1.code := own_mono hcv0 pA.ch.size
          clear pA hty hfv hlv0 hcv0 hrs hch
          obtain ⟨la, lc, rfl⟩ := hlv.slice
          obtain ⟨ca, cc, rfl⟩ := hcv.slice
          obtain ⟨xs, hx0, hxs, hxk⟩ := hfv2
          have hxl : Hid (xs.length = C.1.length) := by have := congrArg List.length hx0; simp only [List.length_map] at this; exact this
          have HX0 : Hid (xs.map (·.1) = C.1) := hx0
          clear hx0
          have y0 : w3.cell? ⟨w.heap.size + 2, 1, none⟩ = some (.slice fa C.1.length fc) := pB.pb.cell 1
          have z0 := pB.pb.frozen 1
          have hlt3 := pB.pb.lt
          have hsz3 := pB.ch.size
          have hxs0 := hxs
          rw [hxl.out] at hxs
          go_wp2_with (at_builtin; refine wpList_append_lies _ rfl _ _ 26 rfl w.heap.size 92 i (.agg #[.int .i64 0, .slice none 0 0, .int .i64 0, .slice none 0 0]) 4 64 Try.underlying26 Hi1.out Hi2.out Hi3.out Hi4.out rfl (by decide) _ _ _ rfl (World.ownsRow.alloc (World.ownsRow.alloc hxs _) _) ⟨w3.heap.size + 1, 0, none⟩ 1 1 [.int .i64 F.1.args, .slice la F.1.locals.length lc, .int .i64 F.1.result, .slice ca F.1.code.length cc] rfl rfl ?c1 ?c2 (by decide) ?c3 ?c4 ?c5 _ rfl ?_)
          case c1 => exact World.news_of_block (B := w3.heap.size + 1) (cs := #[.int .i64 F.1.args, .slice la F.1.locals.length lc, .int .i64 F.1.result, .slice ca F.1.code.length cc]) (Blk.new' (by simp) _ 92)
          case c2 => intro u hu; simp at hu; rcases hu with rfl | rfl | rfl | rfl <;> rfl
          case c3 => unfold maxLen; omega
          case c4 => omega
          case c5 => simp; omega
          · intro g cap2 w4 hown hgrow hat hlt4
            have hg3 : Chg (fun j => some j = (Value.slice fa C.1.length fc).ownBlock) w3 w4 := ((((Chg.refl _ w3).alloc _).alloc _).grown hgrow (fun j hj => .inl hj.symm))
            have pD := pB.grow (by decide) (by decide) hxs hg3
            have ne : ∀ g cs e, Blk w3 g cs e → e ≠ 92 → ¬ some g = (Value.slice fa C.1.length fc).ownBlock := fun g cs e hb he hg => by
              obtain ⟨cs', hb'⟩ := own_blk hxs hg.symm
              exact hb.ne hb' he rfl
            have hty4 := hty2.chg hg3 (fun g cs hb => ne g cs 3 hb (by decide)) (fun g cs hb => ne g cs 47 hb (by decide))
            have hfv4 := FuncsV.snoc (by decide) (by decide) hxs0 hxk (by rw [hxl.out]) hown hg3 hlv hcv
            clear hgrow hg3 hat y0 z0 ne
            have y0 : w4.cell? ⟨w.heap.size + 2, 1, none⟩ = some (.slice fa C.1.length fc) := pD.pb.cell 1
            have z0 := pD.pb.frozen 1
            go_wp2
            have e1 : nxFs (bl b) r1.1 r2.1 (k2 + 1) r2.2 = (C.1 ++ [F.1], F.2) := by
              rw [nxFs]; simp only []; rw [HC.out, if_neg (by simp [Hst0.out]), HF.out]
            rw [HX0.out] at hfv4
            refine ⟨⟨k2 + 1, by omega, rfl, _, by rw [e1]; exact pD.setP 1 _, hty4.set pD.pb (by decide) (by decide) 1 _, by rw [e1]; exact hfv4.set pD.pb (by decide) (by decide) (by decide) 1 _⟩, by simp [intOf]; omega⟩
        · have hC2 : nxFs (bl b) r1.1 r2.1 r2.1.toNat r2.2 = nxFs (bl b) r1.1 r2.1 k2 r2.2 := by
            by_cases hlt : (k2 : Int) < r2.1
            · have hst : (nxFs (bl b) r1.1 r2.1 k2 r2.2).2.2 = true := by
                cases hb : (nxFs (bl b) r1.1 r2.1 k2 r2.2).2.2 with
                | true => rfl
                | false => exact absurd ⟨hlt, hb⟩ hgo
              have := nxFs_stop (bl b) r1.1 r2.1 k2 (r2.1.toNat - k2) r2.2 hst
              rwa [show k2 + (r2.1.toNat - k2) = r2.1.toNat by omega] at this
            · have : r2.1.toNat = k2 := by omega
              rw [this]
          have hgo' : r2.1 ≤ (k2 : Int) ∨ ((k2 : Int) < r2.1 ∧ (nxFs (bl b) r1.1 r2.1 k2 r2.2).2.2 = true) := by
            by_cases hlt : (k2 : Int) < r2.1
            · right
              refine ⟨hlt, ?_⟩
              cases hb : (nxFs (bl b) r1.1 r2.1 k2 r2.2).2.2 with
              | true => rfl
              | false => exact absurd ⟨hlt, hb⟩ hgo
            · left; omega
          have HR' : Hid _ := HR.out
          rw [hC2] at HR'
          clear hgo hC2 HR
          generalize nxFs (bl b) r1.1 r2.1 k2 r2.2 = C at *
          obtain ⟨fs, pat, pst⟩ := C
          have x1 : wr.cell? ⟨w.heap.size + 1, 1, none⟩ = some (.int .i64 pat) := pA.rr.cell 1
          have x0 : wr.cell? ⟨w.heap.size + 1, 0, none⟩ = some (.string b) := pA.rr.cell 0
          have q0 : wr.cell? ⟨w.heap.size, 0, none⟩ = some (.slice none 0 0) := pA.ob.cell 0
          have q1 : wr.cell? ⟨w.heap.size, 1, none⟩ = some (.slice none 0 0) := pA.ob.cell 1
          have z0 := pA.ob.frozen 0
          have z1 := pA.ob.frozen 1
          cases pst with
          | true =>
            have hR : Hid (R = (2, (pat : Int), ⟨[], []⟩)) := by rw [HR'.out]; simp [Hid]
            clear HR'
            rcases hgo' with hgo' | ⟨hgo', hst⟩
            all_goals
              go_wp2
              go_region
              go_wp2
              have b3 := (pA.ob.set 0 (.slice none 0 0)).set 1 (.slice none 0 0)
              have hch4 := chg_set2 wr w.heap.size (.slice none 0 0) (.slice none 0 0)
              have b4 := b3.drew
              have hch5 := hch4.drew
              generalize ((wr.setCell ⟨w.heap.size, 0, none⟩ (.slice none 0 0)).setCell ⟨w.heap.size, 1, none⟩ (.slice none 0 0)).drew = wf at *
              have hD : Chg (fun _ => False) w wf := pA.ch.trans' hch5 (fun i hi e => by omega)
              have hA := hty.chg hch5 (fun g cs hb e => hb.ne pA.ob (by decide) e) (fun g cs hb e => hb.ne pA.ob (by decide) e)
              have hB := hfv.chg hch5 (fun g cs hb e => hb.ne pA.ob (by decide) e) (fun g cs hb e => hb.ne pA.ob (by decide) e) (fun g cs hb e => hb.ne pA.ob (by decide) e)
              have t0 : wf.cell? ⟨w.heap.size, 0, none⟩ = some (.slice none 0 0) := b4.cell 0
              have t1 : wf.cell? ⟨w.heap.size, 1, none⟩ = some (.slice none 0 0) := b4.cell 1
              rw [hR.out]
              exact bodyPost_ret (v := .tuple #[.agg #[(.slice none 0 0), (.slice none 0 0)], (.int .i64 2), (.int .i64 pat)]) (by simp [results, Try.results18, go_sem, t0, t1]) rfl ⟨_, _, rfl, TypesV.nil _ _, FuncsV.nil _ _ _ _, hD⟩
          | false =>
            have hgo2 : r2.1 ≤ (k2 : Int) := by
              rcases hgo' with h | h
              · exact h
              · exact absurd h.2 (by simp)
            clear hgo'
            by_cases hat : pat < b.size
            · have hR : Hid (R = (2, (pat : Int), ⟨[], []⟩)) := by rw [HR'.out]; simp [Hid, hat]
              clear HR'
              have hat' : (pat : Int) < (b.size : Int) := by omega
              go_wp2
              go_region
              go_wp2
              have b3 := (pA.ob.set 0 (.slice none 0 0)).set 1 (.slice none 0 0)
              have hch4 := chg_set2 wr w.heap.size (.slice none 0 0) (.slice none 0 0)
              have b4 := b3.drew
              have hch5 := hch4.drew
              generalize ((wr.setCell ⟨w.heap.size, 0, none⟩ (.slice none 0 0)).setCell ⟨w.heap.size, 1, none⟩ (.slice none 0 0)).drew = wf at *
              have hD : Chg (fun _ => False) w wf := pA.ch.trans' hch5 (fun i hi e => by omega)
              have hA := hty.chg hch5 (fun g cs hb e => hb.ne pA.ob (by decide) e) (fun g cs hb e => hb.ne pA.ob (by decide) e)
              have hB := hfv.chg hch5 (fun g cs hb e => hb.ne pA.ob (by decide) e) (fun g cs hb e => hb.ne pA.ob (by decide) e) (fun g cs hb e => hb.ne pA.ob (by decide) e)
              have t0 : wf.cell? ⟨w.heap.size, 0, none⟩ = some (.slice none 0 0) := b4.cell 0
              have t1 : wf.cell? ⟨w.heap.size, 1, none⟩ = some (.slice none 0 0) := b4.cell 1
              rw [hR.out]
              exact bodyPost_ret (v := .tuple #[.agg #[(.slice none 0 0), (.slice none 0 0)], (.int .i64 2), (.int .i64 pat)]) (by simp [results, Try.results18, go_sem, t0, t1]) rfl ⟨_, _, rfl, TypesV.nil _ _, FuncsV.nil _ _ _ _, hD⟩
            · have hR : Hid (R = (0, 0, ⟨r1.1, fs⟩)) := by rw [HR'.out]; simp [Hid, hat]
              clear HR'
              have hat' : (b.size : Int) ≤ (pat : Int) := by omega
              go_wp2
              have b3 := (pA.ob.set 0 (.slice ta r1.1.length tc)).set 1 (.slice fa fs.length fc)
              have hch4 := chg_set2 wr w.heap.size (.slice ta r1.1.length tc) (.slice fa fs.length fc)
              have b4 := b3
              have hch5 := hch4
              generalize ((wr.setCell ⟨w.heap.size, 0, none⟩ (.slice ta r1.1.length tc)).setCell ⟨w.heap.size, 1, none⟩ (.slice fa fs.length fc)) = wf at *
              have hD : Chg (fun _ => False) w wf := pA.ch.trans' hch5 (fun i hi e => by omega)
              have hA := hty.chg hch5 (fun g cs hb e => hb.ne pA.ob (by decide) e) (fun g cs hb e => hb.ne pA.ob (by decide) e)
              have hB := hfv.chg hch5 (fun g cs hb e => hb.ne pA.ob (by decide) e) (fun g cs hb e => hb.ne pA.ob (by decide) e) (fun g cs hb e => hb.ne pA.ob (by decide) e)
              have t0 : wf.cell? ⟨w.heap.size, 0, none⟩ = some (.slice ta r1.1.length tc) := b4.cell 0
              have t1 : wf.cell? ⟨w.heap.size, 1, none⟩ = some (.slice fa fs.length fc) := b4.cell 1
              rw [hR.out]
              exact bodyPost_ret (v := .tuple #[.agg #[(.slice ta r1.1.length tc), (.slice fa fs.length fc)], (.int .i64 0), (.int .i64 0)]) (by simp [results, Try.results18, go_sem, t0, t1]) rfl ⟨_, _, rfl, hA, hB, hD⟩

def nxP (b : ByteArray) : Int × Int × Pg :=
  let ns := bl b
  let r0 := nx ns 0 6 (0, false)
  let r1 := nxT ns r0.1 r0.1.toNat r0.2
  let r2 := nx ns 1 6 r1.2
  let r3 := nxFs ns r1.1 r2.1 r2.1.toNat r2.2
  if r3.2.2 = true ∨ r3.2.1 < b.size then (2, (r3.2.1 : Int), ⟨[], []⟩) else (0, 0, ⟨r1.1, r3.1⟩)
def nxD (b : ByteArray) : Int × Int × Pg := if 800 < b.size then (1, 0, ⟨[], []⟩) else nxP b

set_option maxHeartbeats 400000 in
set_option maxRecDepth 100000 in
theorem rdecode_any (b : ByteArray) (w : World) :
    Calls Try.prog 18 #[.string b] w fun e w' =>
      ∃ tv fv, e = .returned (.tuple #[.agg #[tv, fv], .int .i64 (nxD b).1, .int .i64 (nxD b).2.1]) ∧ TypesV w' w.heap.size tv (nxD b).2.2.types ∧ FuncsV 92 99 w' w.heap.size fv (nxD b).2.2.funcs ∧ Chg (fun _ => False) w w' := by
  by_cases h8 : 800 < b.size
  · have ho : nxD b = (1, 0, ⟨[], []⟩) := by unfold nxD; rw [if_pos h8]
    rw [ho]
    clear ho
    go_enter Try.func18, Try.ntmps18
    go_wp2
    exact bodyPost_ret (v := .tuple #[.agg #[.slice none 0 0, .slice none 0 0], .int .i64 1, .int .i64 0]) (by simp [results, Try.results18, go_sem]) rfl ⟨_, _, rfl, TypesV.nil _ _, FuncsV.nil _ _ _ _, fin_new0 _⟩
  · have ho : nxD b = nxP b := by unfold nxD; rw [if_neg h8]
    rw [ho]
    refine rdecode_core b w (by omega) _ _ _ rfl rfl rfl (nx_rng _ _ _ _ (by decide)) ?_ ?_ ?_ _ rfl
    · have := nx_rng (bl b) 1 6 (nxT (bl b) (nx (bl b) 0 6 (0, false)).1 (nx (bl b) 0 6 (0, false)).1.toNat (nx (bl b) 0 6 (0, false)).2).2 (by decide)
      omega
    · rw [nxT_len]; have := nx_rng (bl b) 0 6 (0, false) (by decide); omega
    · intro j; have := nxT_small (bl b) (nx (bl b) 0 6 (0, false)).1 (nx (bl b) 0 6 (0, false)).1.toNat (nx (bl b) 0 6 (0, false)).2 j; omega
end Go.Proofs.Ytnfnbcbadakofaa
