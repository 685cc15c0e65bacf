import Derived.Test.YtnfnbcbadakofaaRspr2
import Derived.Deep.OwnRows
namespace Go.Proofs.Ytnfnbcbadakofaa
open Go.RowKit

theorem mkInfo4 : (Try.prog.info? 4).map (fun i => (i.zero, i.size, i.bytes)) = some (some (.bool false), 1, 1) := by kernel_rfl
theorem mkInfo47 : (Try.prog.info? 47).map (fun i => (i.zero, i.size, i.bytes)) = some (some (.slice none 0 0), 1, 24) := by kernel_rfl

theorem made_list (z : Value) (n : Nat) : (madeCells #[z] n).toList = List.replicate n z := by
  apply List.ext_getElem?
  intro i
  rw [Array.getElem?_toList]
  rcases Nat.lt_or_ge i n with h | h
  · simp [madeCells, h, Nat.mod_one]
  · rw [Array.getElem?_eq_none (by rw [size_madeCells]; exact h), List.getElem?_eq_none (by simpa using h)]

theorem own_made {W : World} {e : TypeId} {z : Value} {n b base : Nat} (hz : Blk W b (madeCells #[z] n) e) (hb : base ≤ b) (hn : n ≤ maxLen) : W.ownsRow base e 1 (.slice (some ⟨b, 0, none⟩) n n) n (List.replicate n z) :=
  ⟨by simp, .inr ⟨b, n, _, rfl, hb, hz, Nat.le_refl _, hn, by rw [size_madeCells, Nat.mul_one], by rw [Nat.mul_one, made_list]; simp⟩⟩

/-- the Stacks that Fit begins with -/
theorem SS.start {w0 W : World} {b0 sb gh go n : Nat} (hn : 0 < n) (hm : n ≤ maxLen) (k : Chg (fun _ => False) w0 W) (b1 : Blk W gh (madeCells #[.bool false] n) 4) (b2 : Blk W go (madeCells #[.slice none 0 0] n) 47) (b3 : Blk W sb #[.slice (some ⟨gh, 0, none⟩) n n, .slice (some ⟨go, 0, none⟩) n n] 112) (h1 : w0.heap.size ≤ gh) (h2 : w0.heap.size ≤ go) (h3 : w0.heap.size ≤ sb) :
    SS w0 (W.setCell ⟨gh, 0, none⟩ (.bool true)) b0 sb gh go n n ((List.replicate n (none, .slice none 0 0)).set 0 (some [], .slice none 0 0)) := by
  have o1 := own_made b1 h1 hm
  have o2 := own_made b2 h2 hm
  have hl : ((List.replicate n ((none : Option (List Int)), Value.slice none 0 0)).set 0 (some [], .slice none 0 0)).length = n := by simp
  refine ⟨by rw [hl]; exact b3.setOther _ _ (b3.ne b1 (by decide)), ?_, ?_, fun x m l hx => ?_, k.setCell _ _ (.inr h1), h3⟩
  · rw [hl, List.map_set, List.map_replicate]
    exact own_setIn o1 0 (by omega) (.bool true)
  · rw [hl, List.map_set, List.map_replicate]
    have e : (List.replicate n (Value.slice none 0 0)).set 0 (.slice none 0 0) = List.replicate n (.slice none 0 0) := by
      apply List.ext_getElem?
      intro i
      rw [List.getElem?_set]
      split
      · subst_vars; simp [List.getElem?_replicate]
      · rfl
    simp only [e]
    exact own_set o2 ⟨gh, 0, none⟩ (.bool true) (own_ne o2 b1 (by decide))
  · rcases List.mem_or_eq_of_mem_set m with m | rfl
    · rw [List.mem_replicate] at m; rw [m.2] at hx; cases hx
    · simp only [Option.some.injEq] at hx; subst hx; exact World.ownsRow_nil _ _ _ _

theorem SS.base {w W w' : World} {b0 sb gh go ch co : Nat} {xs : List (Option (List Int) × Value)} (h : SS W w' b0 sb gh go ch co xs) (k : Chg (fun _ => False) w W) : SS w w' b0 sb gh go ch co xs :=
  ⟨h.box, own_mono h.has k.size, own_mono h.of k.size, h.stk, k.trans h.ch, Nat.le_trans k.size h.sb⟩

theorem put_len {n : Nat} {t : List Int} (ks : List Int) : ∀ {sp sp' : Spots}, put n t sp ks = some sp' → sp'.length = sp.length := by
  induction ks with
  | nil => intro sp sp' h; simp only [put, Option.some.injEq] at h; rw [h]
  | cons k ks ih =>
    intro sp sp' h
    unfold put at h
    by_cases hn : (n : Int) ≤ k
    · rw [if_pos hn] at h; cases h
    rw [if_neg hn] at h
    rcases hg : sp.getD k.toNat none with _ | u
    · rw [hg] at h; have := ih h; simpa using this
    · rw [hg] at h
      by_cases hut : (u == t) = true
      · simp only [hut, if_true] at h; have := ih h; simpa using this
      · simp only [hut] at h; simp at h

theorem rnd_len {n : Nat} {aft : Nat → List Int → Option (List Int)} {wy : Nat → List Int} (c : Nat) : ∀ (i : Nat) {sp sp' : Spots}, rnd n aft wy c i sp = some sp' → sp'.length = sp.length := by
  induction c with
  | zero => intro i sp sp' h; simp only [rnd, Option.some.injEq] at h; rw [h]
  | succ c ih =>
    intro i sp sp' h
    unfold rnd at h
    rcases hg : sp.getD i none with _ | s
    · rw [hg] at h; exact ih (i + 1) h
    · rw [hg] at h
      rcases ha : aft i s with _ | t
      · simp only [ha] at h; cases h
      · simp only [ha] at h
        rcases hp : put n t sp (wy i) with _ | sp1
        · simp only [hp] at h; cases h
        · simp only [hp] at h
          rw [ih (i + 1) h, put_len _ hp]

def FtPost (w0 w' : World) (b0 : Nat) (pv : Value) (b : Bool) (RR : Option Spots) : Prop :=
  Chg (fun _ => False) w0 w' ∧ (RR = none → b = false) ∧ ∀ sp, RR = some sp → b = true ∧ ∃ sb gh go ch co xs, pv = .pointer (some ⟨sb, 0, none⟩) ∧ xs.map (·.1) = sp ∧ SS w0 w' b0 sb gh go ch co xs

theorem rnds_step {n : Nat} {aft : Nat → List Int → Option (List Int)} {wy : Nat → List Int} {r : Nat} {sp : Spots} {RR : Option Spots} (hr : r ≤ n) (h : rnds n aft wy (n + 1 - r) sp = RR) :
    (rnd n aft wy n 0 sp = none → RR = none) ∧ ∀ sp', rnd n aft wy n 0 sp = some sp' → rnds n aft wy (n + 1 - (r + 1)) sp' = RR := by
  have e : n + 1 - r = (n + 1 - (r + 1)) + 1 := by omega
  rw [e] at h
  unfold rnds at h
  exact ⟨fun hp => by simp only [hp] at h; exact h.symm, fun sp' hp => by simp only [hp] at h; exact h⟩

set_option maxHeartbeats 2000000 in
set_option maxRecDepth 100000 in
theorem fit_core (w : World) (b0 : Nat) (ta fa : Option Addr) (tc fc : Nat) (ls : List (List Int)) (fs : List Fn) (fi : Nat) (hfi : fi < fs.length) (hb0 : b0 ≤ w.heap.size)
    (ht : TypesV w b0 (.slice ta ls.length tc) ls) (hf : FuncsV 92 99 w b0 (.slice fa fs.length fc) fs) (hn : ls.length ≤ 10000) (f : Fn) (hF : f = fs[fi]) (hcl : 0 < f.code.length) (hcl2 : f.code.length ≤ 10000) (hargs : ∀ f ∈ fs, 0 ≤ f.args ∧ f.args ≤ (f.locals.length : Int))
    (hok : ∀ j (hj : j < f.code.length), CodeOk ls fs f f.code[j]) (RR : Option Spots) (HR : Hid (rnds f.code.length (aftC ls fs f) (wayC f) (f.code.length + 1) ((List.replicate f.code.length none).set 0 (some [])) = RR)) :
    Calls Try.prog 39 #[.agg #[.slice ta ls.length tc, .slice fa fs.length fc], .int .i64 (fi : Int)] w fun e w' => ∃ pv b, e = .returned (.tuple #[pv, .bool b]) ∧ FtPost w w' b0 pv b RR := by
  have kb : Chg (fun _ => False) w (w.alloc (Obj.cells #[.slice ta ls.length tc, .slice fa fs.length fc] 28)) := (Chg.refl (fun _ => False) w).alloc _
  have bx : Blk (w.alloc (Obj.cells #[.slice ta ls.length tc, .slice fa fs.length fc] 28)) w.heap.size #[.slice ta ls.length tc, .slice fa fs.length fc] 28 := Blk.new' rfl _ 28
  obtain ⟨g, cap, hv, _, hcells⟩ := (hf.chg kb (fun _ _ _ e => e) (fun _ _ _ e => e) (fun _ _ _ e => e)).formS (by omega)
  simp only [Value.slice.injEq] at hv
  obtain ⟨rfl, _, rfl⟩ := hv
  obtain ⟨lv, cv, -, -, -, cc3, -, hci⟩ := hcells fi hfi
  rw [← hF] at hci
  obtain ⟨gk, kc, rfl, _, hkc, _, hcode⟩ := hci.form hcl
  clear hcells
  have hfi' : (fi : Int) < (fs.length : Int) := by omega
  have HSP : Hid (∀ (w' : World) (sb gh go ch co : Nat) (xs : List (Option (List Int) × Value)), SS (w.alloc (Obj.cells #[.slice ta ls.length tc, .slice (some ⟨g, 0, none⟩) fs.length fc] 28)) w' b0 sb gh go ch co xs → xs.length = f.code.length → (∀ x ∈ xs, ∀ l, x.1 = some l → l.length ≤ 10000) →
      Calls Try.prog 65 #[.pointer (some ⟨sb, 0, none⟩), .agg #[.slice ta ls.length tc, .slice (some ⟨g, 0, none⟩) fs.length fc], .int .i64 (fi : Int)] w' fun e w'' => ∃ b, e = .returned (.bool b) ∧ SpPost (w.alloc (Obj.cells #[.slice ta ls.length tc, .slice (some ⟨g, 0, none⟩) fs.length fc] 28)) w'' b0 sb gh go ch co b (rnd f.code.length (aftC ls fs f) (wayC f) f.code.length 0 (xs.map (·.1)))) :=
    fun w' sb gh go ch co xs h hxl hsx => spread_core _ w' b0 sb gh go ch co xs h ta _ tc fc ls fs fi hfi (Nat.le_trans hb0 kb.size) (ht.new kb) (hf.chg kb (fun _ _ _ e => e) (fun _ _ _ e => e) (fun _ _ _ e => e)) hn f hF hxl hcl hcl2 hargs hok hsx _ rfl
  clear hok hargs hF ht hf hci hcode hkc
  have hmk1 := run_make_row' (P := Try.prog) 110 4 (.bool false) 1 Try.underlying110 mkInfo4 rfl .i64 .i64 f.code.length (by omega) (by omega)
  have hmk2 := run_make_row' (P := Try.prog) 25 47 (.slice none 0 0) 24 Try.underlying25 mkInfo47 rfl .i64 .i64 f.code.length (by omega) (by omega)
  generalize hnn : f.code.length = n at *
  clear hnn
  go_enter Try.func39, Try.ntmps39
  go_wp2_with fail
  generalize (w.alloc (Obj.cells #[.slice ta ls.length tc, .slice (some ⟨g, 0, none⟩) fs.length fc] 28)) = W at *
  clear cc3
  have hws := kb.size
  have hBW : Hid (Blk W w.heap.size #[.slice ta ls.length tc, .slice (some ⟨g, 0, none⟩) fs.length fc] 28) := bx
  go_region
  · have kV : Chg (fun _ => False) W (((W.alloc (Obj.cells (madeCells #[.bool false] n) 4)).alloc (Obj.cells (madeCells #[.slice none 0 0] n) 47)).alloc (Obj.cells #[.slice (some ⟨W.heap.size, 0, none⟩) n n, .slice (some ⟨(W.heap.size + 1), 0, none⟩) n n] 112)).drew := ((((Chg.refl _ W).alloc _).alloc _).alloc _).drew
    have bh : Blk (((W.alloc (Obj.cells (madeCells #[.bool false] n) 4)).alloc (Obj.cells (madeCells #[.slice none 0 0] n) 47)).alloc (Obj.cells #[.slice (some ⟨W.heap.size, 0, none⟩) n n, .slice (some ⟨(W.heap.size + 1), 0, none⟩) n n] 112)).drew W.heap.size (madeCells #[.bool false] n) 4 := (((Blk.new W _ 4).alloc (Obj.cells (madeCells #[.slice none 0 0] n) 47)).alloc (Obj.cells #[.slice (some ⟨W.heap.size, 0, none⟩) n n, .slice (some ⟨(W.heap.size + 1), 0, none⟩) n n] 112)).drew
    have bo : Blk (((W.alloc (Obj.cells (madeCells #[.bool false] n) 4)).alloc (Obj.cells (madeCells #[.slice none 0 0] n) 47)).alloc (Obj.cells #[.slice (some ⟨W.heap.size, 0, none⟩) n n, .slice (some ⟨(W.heap.size + 1), 0, none⟩) n n] 112)).drew (W.heap.size + 1) (madeCells #[.slice none 0 0] n) 47 := ((Blk.new' (w := W.alloc (Obj.cells (madeCells #[.bool false] n) 4)) (by simp) _ 47).alloc (Obj.cells #[.slice (some ⟨W.heap.size, 0, none⟩) n n, .slice (some ⟨(W.heap.size + 1), 0, none⟩) n n] 112)).drew
    have bs : Blk (((W.alloc (Obj.cells (madeCells #[.bool false] n) 4)).alloc (Obj.cells (madeCells #[.slice none 0 0] n) 47)).alloc (Obj.cells #[.slice (some ⟨W.heap.size, 0, none⟩) n n, .slice (some ⟨(W.heap.size + 1), 0, none⟩) n n] 112)).drew (W.heap.size + 1 + 1) #[.slice (some ⟨W.heap.size, 0, none⟩) n n, .slice (some ⟨(W.heap.size + 1), 0, none⟩) n n] 112 := (Blk.new' (w := (W.alloc (Obj.cells (madeCells #[.bool false] n) 4)).alloc (Obj.cells (madeCells #[.slice none 0 0] n) 47)) (by simp) _ 112).drew
    have hx1 : W.heap.size ≤ W.heap.size := by omega
    have hx2 : W.heap.size ≤ (W.heap.size + 1) := by omega
    have hx3 : W.heap.size ≤ W.heap.size + 1 + 1 := by omega
    have hSS := SS.start (b0 := b0) hcl (by unfold maxLen; omega) kV bh bo bs hx1 hx2 hx3
    have bx2 := (bx.chg kV (fun e => e))
    have bx3 := bx2.setOther ⟨W.heap.size, 0, none⟩ (.bool true) (bx2.ne bh (by decide))
    have y0 := bs.cell 0
    have y1 : ((((W.alloc (Obj.cells (madeCells #[.bool false] n) 4)).alloc (Obj.cells (madeCells #[.slice none 0 0] n) 47)).alloc (Obj.cells #[.slice (some ⟨W.heap.size, 0, none⟩) n n, .slice (some ⟨(W.heap.size + 1), 0, none⟩) n n] 112)).drew).cell? ⟨W.heap.size, 0, none⟩ = some (.bool false) := by rw [bh.cell 0]; simp [madeCells, hcl, Nat.mod_one]
    have y2 := bh.frozen 0
    have HSS : Hid _ := hSS
    have HBX : Hid _ := bx3
    clear kV bh bo bs hSS bx2 bx3
    generalize (((W.alloc (Obj.cells (madeCells #[.bool false] n) 4)).alloc (Obj.cells (madeCells #[.slice none 0 0] n) 47)).alloc (Obj.cells #[.slice (some ⟨W.heap.size, 0, none⟩) n n, .slice (some ⟨(W.heap.size + 1), 0, none⟩) n n] 112)).drew = V at *
    generalize W.heap.size + 1 + 1 = sb at *
    generalize W.heap.size + 1 = go at *
    generalize W.heap.size = gh at *
    have y0 : V.cell? ⟨sb, 0, none⟩ = some (.slice (some ⟨gh, 0, none⟩) n n) := y0
    have hSS := HSS.out
    have hBX := HBX.out
    have hn0 : (0 : Int) < (n : Int) := by omega
    clear HSS HBX hmk1 hmk2 hws bx hx1 hx2 hx3
    go_wp2_with fail
    generalize V.setCell ⟨gh, 0, none⟩ (.bool true) = U at *
    clear y0 y1 y2
    go_loopw [8] (fun iv wr => ∃ (r : Nat) (ys : List (Option (List Int) × Value)), r ≤ n + 1 ∧ iv = .int .i64 (r : Int) ∧ SS W wr b0 sb gh go n n ys ∧ Blk wr w.heap.size #[.slice ta ls.length tc, .slice (some ⟨g, 0, none⟩) fs.length fc] 28 ∧ ys.length = n ∧ (∀ x ∈ ys, ∀ l, x.1 = some l → l.length ≤ 10000) ∧ rnds n (aftC ls fs f) (wayC f) (n + 1 - r) (ys.map (·.1)) = RR) (fun iv _ => n + 1 - (intOf iv).toNat)
    case atStart =>
      refine ⟨0, _, Nat.zero_le _, rfl, hSS, hBX, by simp, fun x m l hl => ?_, ?_⟩
      · rcases List.mem_or_eq_of_mem_set m with m | rfl
        · rw [List.mem_replicate] at m; rw [m.2] at hl; cases hl
        · simp only [Option.some.injEq] at hl; subst hl; simp
      · rw [List.map_set, List.map_replicate]; exact HR.out
    case round =>
      obtain ⟨r, ys, hr, rfl, hS, hB, hyl, hys, hrn⟩ := hrel
      have HRN : Hid (rnds n (aftC ls fs f) (wayC f) (n + 1 - r) (ys.map (·.1)) = RR) := hrn
      have HYL : Hid (ys.length = n) := hyl
      have HYS : Hid (∀ x ∈ ys, ∀ l, x.1 = some l → l.length ≤ 10000) := hys
      clear hrn hys hyl hSS hBX HR
      by_cases hlt : r ≤ n
      · have hlt' : (r : Int) ≤ (n : Int) := by omega
        have b0' : wr.cell? ⟨w.heap.size, 0, none⟩ = some (.slice ta ls.length tc) := hB.cell 0
        have b1' : wr.cell? ⟨w.heap.size, 1, none⟩ = some (.slice (some ⟨g, 0, none⟩) fs.length fc) := hB.cell 1
        obtain ⟨st1, st2⟩ := rnds_step hlt HRN.out
        have HST1 : Hid _ := st1
        have HST2 : Hid _ := st2
        clear st1 st2 HRN
        go_wp2_with fail
        refine (HSP.out wr sb gh go n n ys hS HYL.out HYS.out).mono ?_
        rintro e w5 ⟨b, rfl, hch, h0, h1⟩
        rcases hrd : rnd n (aftC ls fs f) (wayC f) n 0 (ys.map (·.1)) with _ | sp'
        · have hb := h0 hrd
          subst hb
          have HRR : Hid (RR = none) := HST1.out hrd
          clear h0 h1 hrd HST1 HST2
          go_wp2
          exact bodyPost_ret (v := .tuple #[.pointer none, .bool false]) (by simp [results, Try.results39, go_sem]) rfl ⟨_, _, rfl, kb.trans hch, fun _ => rfl, fun sp e => by rw [HRR.out] at e; cases e⟩
        · obtain ⟨hb, zs, hzm, hSz, hzs⟩ := h1 sp' hrd
          subst hb
          have HRR : Hid _ := HST2.out sp' hrd
          have hzl : zs.length = n := by
            have e1 := rnd_len _ _ hrd
            rw [← hzm, List.length_map, List.length_map] at e1
            rw [e1]; exact HYL.out
          clear h0 h1 hrd HST1 HST2
          have hB5 := hBW.out.chg hch (fun e => e)
          go_wp2
          exact ⟨⟨r + 1, zs, by omega, rfl, hSz, hB5, hzl, hzs, by rw [hzm]; exact HRR.out⟩, by simp [intOf]; omega⟩
      · have hre : n + 1 - r = 0 := by omega
        have HN : Hid (some (ys.map (·.1)) = RR) := by have := HRN.out; rw [hre] at this; exact this
        have hlt' : (n : Int) < (r : Int) := by omega
        clear HRN hre
        go_wp2
        refine bodyPost_ret (v := .tuple #[.pointer (some ⟨sb, 0, none⟩), .bool true]) (by simp [results, Try.results39, go_sem]) rfl ⟨_, _, rfl, kb.trans hS.ch, fun e => ?_, fun sp e => ⟨rfl, sb, gh, go, n, n, ys, rfl, ?_, hS.base kb⟩⟩
        · have := HN.out; rw [e] at this; cases this
        · have := HN.out; rw [e] at this; simpa using this
  · have kV : Chg (fun _ => False) W (((W.alloc (Obj.cells (madeCells #[.slice none 0 0] n) 47)).alloc (Obj.cells (madeCells #[.bool false] n) 4)).alloc (Obj.cells #[.slice (some ⟨(W.heap.size + 1), 0, none⟩) n n, .slice (some ⟨W.heap.size, 0, none⟩) n n] 112)).drew := ((((Chg.refl _ W).alloc _).alloc _).alloc _).drew
    have bh : Blk (((W.alloc (Obj.cells (madeCells #[.slice none 0 0] n) 47)).alloc (Obj.cells (madeCells #[.bool false] n) 4)).alloc (Obj.cells #[.slice (some ⟨(W.heap.size + 1), 0, none⟩) n n, .slice (some ⟨W.heap.size, 0, none⟩) n n] 112)).drew (W.heap.size + 1) (madeCells #[.bool false] n) 4 := ((Blk.new' (w := W.alloc (Obj.cells (madeCells #[.slice none 0 0] n) 47)) (by simp) _ 4).alloc (Obj.cells #[.slice (some ⟨(W.heap.size + 1), 0, none⟩) n n, .slice (some ⟨W.heap.size, 0, none⟩) n n] 112)).drew
    have bo : Blk (((W.alloc (Obj.cells (madeCells #[.slice none 0 0] n) 47)).alloc (Obj.cells (madeCells #[.bool false] n) 4)).alloc (Obj.cells #[.slice (some ⟨(W.heap.size + 1), 0, none⟩) n n, .slice (some ⟨W.heap.size, 0, none⟩) n n] 112)).drew W.heap.size (madeCells #[.slice none 0 0] n) 47 := (((Blk.new W _ 47).alloc (Obj.cells (madeCells #[.bool false] n) 4)).alloc (Obj.cells #[.slice (some ⟨(W.heap.size + 1), 0, none⟩) n n, .slice (some ⟨W.heap.size, 0, none⟩) n n] 112)).drew
    have bs : Blk (((W.alloc (Obj.cells (madeCells #[.slice none 0 0] n) 47)).alloc (Obj.cells (madeCells #[.bool false] n) 4)).alloc (Obj.cells #[.slice (some ⟨(W.heap.size + 1), 0, none⟩) n n, .slice (some ⟨W.heap.size, 0, none⟩) n n] 112)).drew (W.heap.size + 1 + 1) #[.slice (some ⟨(W.heap.size + 1), 0, none⟩) n n, .slice (some ⟨W.heap.size, 0, none⟩) n n] 112 := (Blk.new' (w := (W.alloc (Obj.cells (madeCells #[.slice none 0 0] n) 47)).alloc (Obj.cells (madeCells #[.bool false] n) 4)) (by simp) _ 112).drew
    have hx1 : W.heap.size ≤ (W.heap.size + 1) := by omega
    have hx2 : W.heap.size ≤ W.heap.size := by omega
    have hx3 : W.heap.size ≤ W.heap.size + 1 + 1 := by omega
    have hSS := SS.start (b0 := b0) hcl (by unfold maxLen; omega) kV bh bo bs hx1 hx2 hx3
    have bx2 := (bx.chg kV (fun e => e))
    have bx3 := bx2.setOther ⟨(W.heap.size + 1), 0, none⟩ (.bool true) (bx2.ne bh (by decide))
    have y0 := bs.cell 0
    have y1 : ((((W.alloc (Obj.cells (madeCells #[.slice none 0 0] n) 47)).alloc (Obj.cells (madeCells #[.bool false] n) 4)).alloc (Obj.cells #[.slice (some ⟨(W.heap.size + 1), 0, none⟩) n n, .slice (some ⟨W.heap.size, 0, none⟩) n n] 112)).drew).cell? ⟨(W.heap.size + 1), 0, none⟩ = some (.bool false) := by rw [bh.cell 0]; simp [madeCells, hcl, Nat.mod_one]
    have y2 := bh.frozen 0
    have HSS : Hid _ := hSS
    have HBX : Hid _ := bx3
    clear kV bh bo bs hSS bx2 bx3
    generalize (((W.alloc (Obj.cells (madeCells #[.slice none 0 0] n) 47)).alloc (Obj.cells (madeCells #[.bool false] n) 4)).alloc (Obj.cells #[.slice (some ⟨(W.heap.size + 1), 0, none⟩) n n, .slice (some ⟨W.heap.size, 0, none⟩) n n] 112)).drew = V at *
    generalize W.heap.size + 1 + 1 = sb at *
    generalize W.heap.size + 1 = gh at *
    generalize W.heap.size = go at *
    have y0 : V.cell? ⟨sb, 0, none⟩ = some (.slice (some ⟨gh, 0, none⟩) n n) := y0
    have hSS := HSS.out
    have hBX := HBX.out
    have hn0 : (0 : Int) < (n : Int) := by omega
    clear HSS HBX hmk1 hmk2 hws bx hx1 hx2 hx3
    go_wp2_with fail
    generalize V.setCell ⟨gh, 0, none⟩ (.bool true) = U at *
    clear y0 y1 y2
    go_loopw [8] (fun iv wr => ∃ (r : Nat) (ys : List (Option (List Int) × Value)), r ≤ n + 1 ∧ iv = .int .i64 (r : Int) ∧ SS W wr b0 sb gh go n n ys ∧ Blk wr w.heap.size #[.slice ta ls.length tc, .slice (some ⟨g, 0, none⟩) fs.length fc] 28 ∧ ys.length = n ∧ (∀ x ∈ ys, ∀ l, x.1 = some l → l.length ≤ 10000) ∧ rnds n (aftC ls fs f) (wayC f) (n + 1 - r) (ys.map (·.1)) = RR) (fun iv _ => n + 1 - (intOf iv).toNat)
    case atStart =>
      refine ⟨0, _, Nat.zero_le _, rfl, hSS, hBX, by simp, fun x m l hl => ?_, ?_⟩
      · rcases List.mem_or_eq_of_mem_set m with m | rfl
        · rw [List.mem_replicate] at m; rw [m.2] at hl; cases hl
        · simp only [Option.some.injEq] at hl; subst hl; simp
      · rw [List.map_set, List.map_replicate]; exact HR.out
    case round =>
      obtain ⟨r, ys, hr, rfl, hS, hB, hyl, hys, hrn⟩ := hrel
      have HRN : Hid (rnds n (aftC ls fs f) (wayC f) (n + 1 - r) (ys.map (·.1)) = RR) := hrn
      have HYL : Hid (ys.length = n) := hyl
      have HYS : Hid (∀ x ∈ ys, ∀ l, x.1 = some l → l.length ≤ 10000) := hys
      clear hrn hys hyl hSS hBX HR
      by_cases hlt : r ≤ n
      · have hlt' : (r : Int) ≤ (n : Int) := by omega
        have b0' : wr.cell? ⟨w.heap.size, 0, none⟩ = some (.slice ta ls.length tc) := hB.cell 0
        have b1' : wr.cell? ⟨w.heap.size, 1, none⟩ = some (.slice (some ⟨g, 0, none⟩) fs.length fc) := hB.cell 1
        obtain ⟨st1, st2⟩ := rnds_step hlt HRN.out
        have HST1 : Hid _ := st1
        have HST2 : Hid _ := st2
        clear st1 st2 HRN
        go_wp2_with fail
        refine (HSP.out wr sb gh go n n ys hS HYL.out HYS.out).mono ?_
        rintro e w5 ⟨b, rfl, hch, h0, h1⟩
        rcases hrd : rnd n (aftC ls fs f) (wayC f) n 0 (ys.map (·.1)) with _ | sp'
        · have hb := h0 hrd
          subst hb
          have HRR : Hid (RR = none) := HST1.out hrd
          clear h0 h1 hrd HST1 HST2
          go_wp2
          exact bodyPost_ret (v := .tuple #[.pointer none, .bool false]) (by simp [results, Try.results39, go_sem]) rfl ⟨_, _, rfl, kb.trans hch, fun _ => rfl, fun sp e => by rw [HRR.out] at e; cases e⟩
        · obtain ⟨hb, zs, hzm, hSz, hzs⟩ := h1 sp' hrd
          subst hb
          have HRR : Hid _ := HST2.out sp' hrd
          have hzl : zs.length = n := by
            have e1 := rnd_len _ _ hrd
            rw [← hzm, List.length_map, List.length_map] at e1
            rw [e1]; exact HYL.out
          clear h0 h1 hrd HST1 HST2
          have hB5 := hBW.out.chg hch (fun e => e)
          go_wp2
          exact ⟨⟨r + 1, zs, by omega, rfl, hSz, hB5, hzl, hzs, by rw [hzm]; exact HRR.out⟩, by simp [intOf]; omega⟩
      · have hre : n + 1 - r = 0 := by omega
        have HN : Hid (some (ys.map (·.1)) = RR) := by have := HRN.out; rw [hre] at this; exact this
        have hlt' : (n : Int) < (r : Int) := by omega
        clear HRN hre
        go_wp2
        refine bodyPost_ret (v := .tuple #[.pointer (some ⟨sb, 0, none⟩), .bool true]) (by simp [results, Try.results39, go_sem]) rfl ⟨_, _, rfl, kb.trans hS.ch, fun e => ?_, fun sp e => ⟨rfl, sb, gh, go, n, n, ys, rfl, ?_, hS.base kb⟩⟩
        · have := HN.out; rw [e] at this; cases this
        · have := HN.out; rw [e] at this; simpa using this
end Go.Proofs.Ytnfnbcbadakofaa
