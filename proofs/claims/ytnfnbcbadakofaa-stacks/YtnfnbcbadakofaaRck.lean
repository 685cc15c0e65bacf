import Derived.Test.YtnfnbcbadakofaaOfit
import Derived.Test.YtnfnbcbadakofaaRfit
namespace Go.Proofs.Ytnfnbcbadakofaa
open Go.RowKit

/-- both fits come to one -/
theorem fitF_rnds {p : Pg} (h : PgWf p) {f : Fn} (hf : f ∈ p.funcs) :
    ((fitF p f).2.2 = true → rnds f.code.length (aftC p.types p.funcs f) (wayC f) (f.code.length + 1) ((List.replicate f.code.length none).set 0 (some [])) = none) ∧
    ((fitF p f).2.2 = false → rnds f.code.length (aftC p.types p.funcs f) (wayC f) (f.code.length + 1) ((List.replicate f.code.length none).set 0 (some [])) = some (fitF p f).1) := by
  obtain ⟨b, hb⟩ := h.fn hf
  exact fit_same (h.way hf) (by have := hb.c1; omega)

/-- where the document's Check stands -/
structure CS (w wk : World) (pb : Nat) (tv fv : Value) : Prop where
  rb : Blk wk w.heap.size #[.slice none 0 0, .slice none 0 0] 28
  bx : Blk wk pb #[tv, fv] 28
  lt : w.heap.size < pb
  ch : Chg (fun _ => False) w wk
theorem CS.new {w wk wk' : World} {pb : Nat} {tv fv : Value} (h : CS w wk pb tv fv) (k : Chg (fun _ => False) wk wk') : CS w wk' pb tv fv := ⟨h.rb.chg k (fun e => e), h.bx.chg k (fun e => e), h.lt, h.ch.trans k⟩

set_option maxHeartbeats 4000000 in
set_option maxRecDepth 100000 in
theorem rcheck_core (s : ByteArray) (w : World) (R : Int × Int × Pg) (HR : Hid (opn s = R)) (hwf : R.1 = 0 → PgWf R.2.2) (A : Nat ⊕ List Spots) (HA : Hid (fitAll R.2.2 R.2.2.funcs 0 [] = A)) (O : Int × Int × Pg × List Spots)
    (HO1 : Hid (R.1 ≠ 0 → O = (R.1, R.2.1, ⟨[], []⟩, []))) (HO2 : Hid (R.1 = 0 → ∀ k : Nat, A = .inl k → O = (3, (k : Int), ⟨[], []⟩, []))) (HO3 : Hid (R.1 = 0 → ∀ sps, A = .inr sps → O = (0, 0, R.2.2, sps))) :
    Calls Try.prog 15 #[.string s] w fun e w' => ∃ tv fv, e = .returned (.tuple #[.agg #[tv, fv], .int .i64 O.1, .int .i64 O.2.1]) ∧ TypesV w' w.heap.size tv O.2.2.1.types ∧ FuncsV 92 99 w' w.heap.size fv O.2.2.1.funcs ∧ Chg (fun _ => False) w w' := by
  have HW : Hid (R.1 = 0 → PgWf R.2.2) := hwf
  clear hwf
  have hrd := fun w => rdecode_any s w
  rw [← opn_nxD s, HR.out] at hrd
  have HRD : Hid _ := hrd
  clear hrd
  go_enter Try.func15, Try.ntmps15
  go_wp2_with fail
  have ka : Chg (fun _ => False) w (w.alloc (Obj.cells #[.slice none 0 0, .slice none 0 0] 28)) := (Chg.refl _ w).alloc _
  have bo := Blk.new w #[.slice none 0 0, .slice none 0 0] 28
  refine (HRD.out _).mono ?_
  rintro e w1 ⟨tv, fv, rfl, hty, hfv, hch⟩
  have bo1 := bo.chg hch (fun e => e)
  have k1 := ka.trans hch
  have hty1 : TypesV w1 w.heap.size tv R.2.2.types := hty.mono ka.size
  have hfv1 : FuncsV 92 99 w1 w.heap.size fv R.2.2.funcs := hfv.mono ka.size
  clear bo ka hch hty hfv HRD
  obtain ⟨ta, tc, rfl⟩ := hty1.slice
  obtain ⟨fa, fc, rfl⟩ := hfv1.slice
  have hlt1 := bo1.lt
  by_cases hz : R.1 = 0
  · have hw := HW.out hz
    have HO2' : Hid (∀ k : Nat, A = .inl k → O = (3, (k : Int), ⟨[], []⟩, [])) := HO2.out hz
    have HO3' : Hid (∀ sps, A = .inr sps → O = (0, 0, R.2.2, sps)) := HO3.out hz
    have hz' : (R.1 != 0) = false := by simp [hz]
    have kc : Chg (fun _ => False) w1 (w1.alloc (Obj.cells #[.slice ta R.2.2.types.length tc, .slice fa R.2.2.funcs.length fc] 28)) := (Chg.refl _ w1).alloc _
    have cs0 : CS w (w1.alloc (Obj.cells #[.slice ta R.2.2.types.length tc, .slice fa R.2.2.funcs.length fc] 28)) w1.heap.size (.slice ta R.2.2.types.length tc) (.slice fa R.2.2.funcs.length fc) := ⟨bo1.chg kc (fun e => e), Blk.new w1 _ 28, hlt1, k1.trans kc⟩
    have hty2 := hty1.new kc
    have hfv2 := hfv1.chg kc (fun _ _ _ e => e) (fun _ _ _ e => e) (fun _ _ _ e => e)
    clear kc bo1 k1 hty1 hfv1 HO1 HO2 HO3 HR HW
    have HZ : Hid (R.1 = 0) := hz
    clear hz
    go_wp2_with fail
    generalize w1.alloc (Obj.cells #[.slice ta R.2.2.types.length tc, .slice fa R.2.2.funcs.length fc] 28) = w2 at *
    generalize w1.heap.size = pb at *
    generalize R.2.2 = p at *
    clear HZ hz'
    go_loopw [8] (fun iv wr => ∃ (k : Nat) (acc : List Spots), k ≤ p.funcs.length ∧ iv = .int .i64 (k : Int) ∧ CS w wr pb (.slice ta p.types.length tc) (.slice fa p.funcs.length fc) ∧ TypesV wr w.heap.size (.slice ta p.types.length tc) p.types ∧ FuncsV 92 99 wr w.heap.size (.slice fa p.funcs.length fc) p.funcs ∧ fitAll p (p.funcs.drop k) k acc = A) (fun iv _ => p.funcs.length - (intOf iv).toNat)
    case atStart => exact ⟨0, [], Nat.zero_le _, rfl, cs0, hty2, hfv2, HA.out⟩
    case round =>
      clear cs0 hty2 hfv2 HA hlt1
      obtain ⟨k, acc, hk, rfl, cs, hty, hfv, hfa⟩ := hrel
      have p0 : wr.cell? ⟨pb, 0, none⟩ = some (.slice ta p.types.length tc) := cs.bx.cell 0
      have p1 : wr.cell? ⟨pb, 1, none⟩ = some (.slice fa p.funcs.length fc) := cs.bx.cell 1
      have hf6 := hw.f6
      by_cases hlt : k < p.funcs.length
      · have hlt' : (k : Int) < (p.funcs.length : Int) := by omega
        obtain ⟨st1, st2⟩ := fitAll_step hlt hfa
        have ST1 : Hid _ := st1
        have ST2 : Hid _ := st2
        clear st1 st2 hfa
        have hmem : p.funcs[k] ∈ p.funcs := List.getElem_mem hlt
        obtain ⟨bb, hfo⟩ := hw.fn hmem
        have hc1 := hfo.c1
        have hc64 := hfo.c64
        have hsz := cs.ch.size
        obtain ⟨g1, g2⟩ := fitF_rnds hw hmem
        have G1 : Hid _ := g1
        have G2 : Hid _ := g2
        clear g1 g2 hfo
        go_wp2_with fail
        refine (fit_core wr w.heap.size ta fa tc fc p.types p.funcs k hlt hsz hty hfv (by have := hw.t6; omega) p.funcs[k] rfl (by omega) (by omega) hw.args (fun j hj => hw.code hmem _ (List.getElem_mem hj)) _ rfl).mono ?_
        rintro e w5 ⟨pv, b, rfl, hch, h0, h1⟩
        have cs5 := cs.new hch
        have hty5 := hty.new hch
        have hfv5 := hfv.chg hch (fun _ _ _ e => e) (fun _ _ _ e => e) (fun _ _ _ e => e)
        clear cs hty hfv hch p0 p1
        have o0 : w5.cell? ⟨w.heap.size, 0, none⟩ = some (.slice none 0 0) := cs5.rb.cell 0
        have o1 : w5.cell? ⟨w.heap.size, 1, none⟩ = some (.slice none 0 0) := cs5.rb.cell 1
        have z0 := cs5.rb.frozen 0
        have z1 := cs5.rb.frozen 1
        rcases hF : (fitF p p.funcs[k]).2.2
        · obtain ⟨hb, _⟩ := h1 _ (G2.out hF)
          subst hb
          have HN : Hid _ := ST2.out hF
          clear h0 h1 ST1 ST2 G1 G2 hF o0 o1 z0 z1
          go_wp2
          exact ⟨⟨k + 1, _, by omega, rfl, cs5, hty5, hfv5, HN.out⟩, by simp [intOf]; omega⟩
        · have hb := h0 (G1.out hF)
          subst hb
          have HO : Hid _ := HO2'.out k (ST1.out hF)
          clear h0 h1 ST1 ST2 G1 G2 hF
          go_wp2
          have b3 := (cs5.rb.set 0 (.slice none 0 0)).set 1 (.slice none 0 0)
          have hk := chg_set2 w5 w.heap.size (.slice none 0 0) (.slice none 0 0)
          have hD := cs5.ch.trans' hk (fun i hi e => by omega)
          generalize (w5.setCell ⟨w.heap.size, 0, none⟩ (.slice none 0 0)).setCell ⟨w.heap.size, 1, none⟩ (.slice none 0 0) = wf at *
          have q0 : wf.cell? ⟨w.heap.size, 0, none⟩ = some (.slice none 0 0) := b3.cell 0
          have q1 : wf.cell? ⟨w.heap.size, 1, none⟩ = some (.slice none 0 0) := b3.cell 1
          have hO := HO.out
          subst hO
          exact bodyPost_ret (v := .tuple #[.agg #[.slice none 0 0, .slice none 0 0], .int .i64 3, .int .i64 (k : Int)]) (by simp [results, Try.results15, go_sem, q0, q1]) rfl ⟨_, _, rfl, TypesV.nil _ _, FuncsV.nil _ _ _ _, hD⟩
      · have hkk : k = p.funcs.length := by omega
        have HO : Hid (O = (0, 0, p, acc)) := HO3'.out acc (by rw [hkk, List.drop_length] at hfa; exact hfa.symm)
        have hlt' : (p.funcs.length : Int) ≤ (k : Int) := by omega
        clear hfa hkk
        have o0 : wr.cell? ⟨w.heap.size, 0, none⟩ = some (.slice none 0 0) := cs.rb.cell 0
        have o1 : wr.cell? ⟨w.heap.size, 1, none⟩ = some (.slice none 0 0) := cs.rb.cell 1
        have z0 := cs.rb.frozen 0
        have z1 := cs.rb.frozen 1
        have hltp := cs.lt
        go_wp2
        have b3 := (cs.rb.set 0 (.slice ta p.types.length tc)).set 1 (.slice fa p.funcs.length fc)
        have hk := chg_set2 wr w.heap.size (.slice ta p.types.length tc) (.slice fa p.funcs.length fc)
        have hD := cs.ch.trans' hk (fun i hi e => by omega)
        have hA := hty.chg hk (fun g cs' hb e => hb.ne cs.rb (by decide) e) (fun g cs' hb e => hb.ne cs.rb (by decide) e)
        have hB := hfv.chg hk (fun g cs' hb e => hb.ne cs.rb (by decide) e) (fun g cs' hb e => hb.ne cs.rb (by decide) e) (fun g cs' hb e => hb.ne cs.rb (by decide) e)
        generalize (wr.setCell ⟨w.heap.size, 0, none⟩ (.slice ta p.types.length tc)).setCell ⟨w.heap.size, 1, none⟩ (.slice fa p.funcs.length fc) = wf at *
        have q0 : wf.cell? ⟨w.heap.size, 0, none⟩ = some (.slice ta p.types.length tc) := b3.cell 0
        have q1 : wf.cell? ⟨w.heap.size, 1, none⟩ = some (.slice fa p.funcs.length fc) := b3.cell 1
        have hO := HO.out
        subst hO
        exact bodyPost_ret (v := .tuple #[.agg #[.slice ta p.types.length tc, .slice fa p.funcs.length fc], .int .i64 0, .int .i64 0]) (by simp [results, Try.results15, go_sem, q0, q1]) rfl ⟨_, _, rfl, hA, hB, hD⟩
  · have hz' : (R.1 != 0) = true := by simp [hz]
    have HO : Hid _ := HO1.out hz
    have o0 : w1.cell? ⟨w.heap.size, 0, none⟩ = some (.slice none 0 0) := bo1.cell 0
    have o1 : w1.cell? ⟨w.heap.size, 1, none⟩ = some (.slice none 0 0) := bo1.cell 1
    have z0 := bo1.frozen 0
    have z1 := bo1.frozen 1
    clear hz
    go_wp2
    have b3 := ((bo1.set 0 (.slice none 0 0)).set 1 (.slice none 0 0)).alloc (Obj.cells #[.slice ta R.2.2.types.length tc, .slice fa R.2.2.funcs.length fc] 28)
    have hk := (chg_set2 w1 w.heap.size (.slice none 0 0) (.slice none 0 0)).alloc (Obj.cells #[.slice ta R.2.2.types.length tc, .slice fa R.2.2.funcs.length fc] 28)
    have hD := k1.trans' hk (fun i hi e => by omega)
    generalize ((w1.setCell ⟨w.heap.size, 0, none⟩ (.slice none 0 0)).setCell ⟨w.heap.size, 1, none⟩ (.slice none 0 0)).alloc (Obj.cells #[.slice ta R.2.2.types.length tc, .slice fa R.2.2.funcs.length fc] 28) = wf at *
    have q0 : wf.cell? ⟨w.heap.size, 0, none⟩ = some (.slice none 0 0) := b3.cell 0
    have q1 : wf.cell? ⟨w.heap.size, 1, none⟩ = some (.slice none 0 0) := b3.cell 1
    have hO := HO.out
    subst hO
    exact bodyPost_ret (v := .tuple #[.agg #[.slice none 0 0, .slice none 0 0], .int .i64 R.1, .int .i64 R.2.1]) (by simp [results, Try.results15, go_sem, q0, q1]) rfl ⟨_, _, rfl, TypesV.nil _ _, FuncsV.nil _ _ _ _, hD⟩
end Go.Proofs.Ytnfnbcbadakofaa
