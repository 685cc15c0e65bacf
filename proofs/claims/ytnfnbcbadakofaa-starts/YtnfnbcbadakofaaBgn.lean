import Derived.Test.YtnfnbcbadakofaaStt
import Derived.Test.YtnfnbcbadakofaaStk
namespace Go.Proofs.Ytnfnbcbadakofaa
open Go.RowKit

set_option maxHeartbeats 1000000 in
set_option maxRecDepth 100000 in
theorem small_true (v : Value) (l : List Int) (h d : Int) (w : World) (b1 : Nat) (hv : IntsV w b1 v l) (hh : 0 ≤ h ∧ h ≤ 4000) (hd : 1 ≤ d ∧ d ≤ 64) (hl : (l.length : Int) ≤ 2 * h + 20 * d + 16) (hx : ∀ x ∈ l, 0 ≤ x ∧ x < 65536) :
    Calls Try.prog 55 #[v, .int .i64 h, .int .i64 d] w fun e w' => e = .returned (.bool true) ∧ w' = w := by
  obtain ⟨a, c, rfl⟩ := hv.slice
  obtain ⟨hh1, hh2⟩ := hh
  obtain ⟨hd1, hd2⟩ := hd
  have hll : l.length ≤ 9296 := by omega
  have HX : Hid (∀ x ∈ l, 0 ≤ x ∧ x < 65536) := hx
  have HV : Hid (IntsV w b1 (.slice a l.length c) l) := hv
  clear hx hv
  go_enter Try.func55, Try.ntmps55
  go_wp2
  go_loopw [7] (fun i wr => ∃ k : Nat, k ≤ l.length ∧ i = .int .i64 k ∧ wr = w) (fun i _ => l.length - (intOf i).toNat)
  case atStart => exact ⟨0, Nat.zero_le _, rfl, rfl⟩
  case round =>
    obtain ⟨k, hk, rfl, rfl⟩ := hrel
    by_cases hlt : k < l.length
    · have hlt' : (k : Int) < (l.length : Int) := by omega
      obtain ⟨g, c', hve, _, _, _, hc⟩ := IntsV.form HV.out (by omega)
      simp only [Value.slice.injEq] at hve
      obtain ⟨rfl, _, rfl⟩ := hve
      have y := hc k hlt
      have hm : l.getD k 0 ∈ l := by rw [List.getD_eq_getElem?_getD, List.getElem?_eq_getElem hlt]; exact List.getElem_mem hlt
      obtain ⟨x1, x2⟩ := HX.out _ hm
      clear hc hm
      generalize l.getD k 0 = x at *
      have x1' : ¬ x < 0 := by omega
      have x2' : ¬ (65536 ≤ x) := by omega
      go_wp2
      exact ⟨⟨k + 1, by omega, rfl, trivial⟩, by simp [intOf]; omega⟩
    · have hlt' : (l.length : Int) ≤ (k : Int) := by omega
      go_wp2
      go_ret
      exact ⟨rfl, rfl⟩

/-- values of the document's machine -/
def vlC (l : List (Int × Bool)) : List Value := l.flatMap fun x => [.int .i64 x.1, .bool x.2]
theorem vlC_snoc (l : List (Int × Bool)) (x : Int × Bool) : vlC (l ++ [x]) = vlC l ++ [.int .i64 x.1, .bool x.2] := by simp [vlC]
def ValsV (w : World) (base : Nat) (v : Value) (l : List (Int × Bool)) : Prop := w.ownsRow base 162 2 v l.length (vlC l)
theorem ValsV.slice {w : World} {base : Nat} {v : Value} {l : List (Int × Bool)} (h : ValsV w base v l) : ∃ a cap, v = .slice a l.length cap := by
  rcases h.2 with ⟨h1, h2⟩ | ⟨g, cap, cur, rfl, _⟩
  · exact ⟨none, 0, by rw [h1, h2]⟩
  · exact ⟨_, _, rfl⟩
theorem info155 : ∃ i : TypeInfo, Try.prog.info? 162 = some i ∧ i.zero = some (.agg #[.int .i64 0, .bool false]) ∧ i.size = 2 ∧ i.bytes = 16 := info_of (by kernel_rfl)

/-- the plain function: blank -/
def blankP (l : List Int) (k : Nat) : List (Int × Bool) := (l.drop k).map fun t => (0, decide (0 < t))
theorem blank_snoc (l : List Int) (k j : Nat) (h : k + j < l.length) : ((l.drop k).take (j + 1)).map (fun t => ((0 : Int), decide (0 < t))) = ((l.drop k).take j).map (fun t => ((0 : Int), decide (0 < t))) ++ [(0, decide (0 < l.getD (k + j) 0))] := by
  have hj : j < (l.drop k).length := by rw [List.length_drop]; omega
  rw [List.take_succ_eq_append_getElem hj, List.map_append]
  simp [List.getD_eq_getElem?_getD, List.getElem?_eq_getElem h]

set_option maxHeartbeats 1000000 in
set_option maxRecDepth 100000 in
theorem blank_any (v : Value) (l : List Int) (k : Nat) (w : World) (b1 : Nat) (hv : IntsV w b1 v l) (hk : k ≤ l.length) (hl : l.length ≤ 10000) :
    Calls Try.prog 73 #[v, .int .i64 (k : Int)] w fun e w' => ∃ u, e = .returned u ∧ ValsV w' w.heap.size u (blankP l k) ∧ Chg (fun _ => False) w w' := by
  obtain ⟨va, vc, rfl⟩ := hv.slice
  obtain ⟨i, hi1, hi2, hi3, hi4⟩ := info155
  have Hi1 : Hid (Try.prog.info? 162 = some i) := hi1
  have Hi2 : Hid (i.zero = some (.agg #[.int .i64 0, .bool false])) := hi2
  have Hi3 : Hid (i.size = 2) := hi3
  have Hi4 : Hid (i.bytes = 16) := hi4
  clear hi1 hi2 hi3 hi4
  have HV : Hid (IntsV w b1 (.slice va l.length vc) l) := hv
  clear hv
  go_enter Try.func73, Try.ntmps73
  go_wp2
  go_loopw [5, 6] (fun u iv wr => ∃ (j : Nat) (L : List (Int × Bool)), iv = .int .i64 ((k + j : Nat) : Int) ∧ k + j ≤ l.length ∧ L = ((l.drop k).take j).map (fun t => ((0 : Int), decide (0 < t))) ∧ ValsV wr w.heap.size u L ∧ Chg (fun _ => False) w wr) (fun _ iv _ => l.length - (intOf iv).toNat)
  case atStart => exact ⟨0, [], by simp, by omega, by simp, World.ownsRow_nil _ _ _ _, Chg.refl _ _⟩
  case round =>
    obtain ⟨j, L, rfl, hj, hL, hu, kk⟩ := hrel
    have HL : Hid (L = ((l.drop k).take j).map (fun t => ((0 : Int), decide (0 < t)))) := hL
    clear hL
    obtain ⟨ua, uc, rfl⟩ := hu.slice
    by_cases hlt : k + j < l.length
    · have hlt' : ((k + j : Nat) : Int) < (l.length : Int) := by omega
      obtain ⟨g, c', hve, _, _, _, hc⟩ := (IntsV.chg HV.out kk (fun _ _ _ e => e)).form (by omega)
      simp only [Value.slice.injEq] at hve
      obtain ⟨rfl, _, rfl⟩ := hve
      have y := hc (k + j) hlt
      have HS : Hid _ := blank_snoc l k j hlt
      have hLl : L.length ≤ 10000 := by rw [HL.out, List.length_map, List.length_take, List.length_drop]; omega
      have hsz := kk.size
      have hgl : g < wr.heap.size := World.block_lt_of_cell? wr _ y
      clear hc
      generalize l.getD (k + j) 0 = t at *
      go_wp2_with (at_builtin; refine wpList_append_lies _ rfl _ _ 132 rfl w.heap.size 162 i (.agg #[.int .i64 0, .bool false]) 2 16 Try.underlying132 Hi1.out Hi2.out Hi3.out Hi4.out rfl (by decide) _ _ _ rfl (World.ownsRow.alloc hu _) ⟨wr.heap.size, 0, none⟩ 1 1 [.int .i64 0, .bool (decide (0 < t))] rfl rfl ?c1 ?c2 (by decide) ?c3 ?c4 ?c5 _ rfl ?_)
      case c1 => exact World.news_of_block (B := wr.heap.size) (cs := #[.int .i64 0, .bool (decide (0 < t))]) (Blk.new' rfl _ 162)
      case c2 => intro u hu; simp at hu; rcases hu with rfl | rfl <;> rfl
      case c3 => unfold maxLen; omega
      case c4 => omega
      case c5 => simp; omega
      · intro g2 cap2 w2 hown2 hgrow hat hlt2
        have hch2 : Chg (fun _ => False) w w2 := ((kk.alloc _).grown hgrow (fun k hk => .inr (hu.lt k hk).1))
        clear hgrow hat
        go_wp2
        refine ⟨⟨j + 1, L ++ [(0, decide (0 < t))], by simp; omega, by omega, ?_, ?_, hch2⟩, by simp [intOf]; omega⟩
        · rw [HS.out, HL.out]
        · unfold ValsV
          rw [vlC_snoc, List.length_append]
          exact hown2
    · have hlt' : (l.length : Int) ≤ ((k + j : Nat) : Int) := by omega
      have hE : L = blankP l k := by
        rw [HL.out]; unfold blankP
        rw [List.take_of_length_le (by rw [List.length_drop]; omega)]
      have HE : Hid (L = blankP l k) := hE
      clear hE
      go_wp2
      go_ret
      exact ⟨_, rfl, by rw [← HE.out]; exact hu, kk⟩

theorem info127 : ∃ i : TypeInfo, Try.prog.info? 134 = some i ∧ i.zero = some (.agg #[.int .i64 0, .int .i64 0, .slice none 0 0, .slice none 0 0]) ∧ i.size = 4 ∧ i.bytes = 64 := info_of (by kernel_rfl)

def RbEnd (w : World) (tv fv : Value) (h d : Int) (l : List Int) (e : Ending) (w' : World) : Prop :=
  ∃ rb frv bv, e = .returned (.pointer (some ⟨rb, 0, none⟩)) ∧ Blk w' rb #[tv, fv, .int .i64 h, .int .i64 d, .int .i64 0, frv, .slice none 0 0, .slice none 0 0, .int .i64 0] 120 ∧ w'.ownsRow w.heap.size 134 4 frv 1 [.int .i64 0, .int .i64 0, bv, .slice none 0 0] ∧
    ValsV w' w.heap.size bv (blankP l 0) ∧ w.heap.size ≤ rb ∧ Chg (fun _ => False) w w'

set_option maxHeartbeats 2000000 in
set_option maxRecDepth 100000 in
theorem rbegin_any (ta fa : Option Addr) (tn tc fc : Nat) (h d : Int) (fs : List Fn) (w : World) (b1 : Nat) (hf : FuncsV 92 99 w b1 (.slice fa fs.length fc) fs) (h0 : 0 < fs.length) (hll : fs[0].locals.length ≤ 10000) :
    Calls Try.prog 54 #[.agg #[.slice ta tn tc, .slice fa fs.length fc], .int .i64 h, .int .i64 d] w (RbEnd w (.slice ta tn tc) (.slice fa fs.length fc) h d fs[0].locals) := by
  obtain ⟨i, hi1, hi2, hi3, hi4⟩ := info127
  have Hi1 : Hid (Try.prog.info? 134 = some i) := hi1
  have Hi2 : Hid (i.zero = some (.agg #[.int .i64 0, .int .i64 0, .slice none 0 0, .slice none 0 0])) := hi2
  have Hi3 : Hid (i.size = 4) := hi3
  have Hi4 : Hid (i.bytes = 64) := hi4
  clear hi1 hi2 hi3 hi4
  have kb : Chg (fun _ => False) w ((w.alloc (Obj.cells #[.slice ta tn tc, .slice fa fs.length fc] 28)).alloc (Obj.cells #[.slice ta tn tc, .slice fa fs.length fc, .int .i64 h, .int .i64 d, .int .i64 0, .slice none 0 0, .slice none 0 0, .slice none 0 0, .int .i64 0] 120)) := ((Chg.refl _ w).alloc _).alloc _
  have bx : Blk ((w.alloc (Obj.cells #[.slice ta tn tc, .slice fa fs.length fc] 28)).alloc (Obj.cells #[.slice ta tn tc, .slice fa fs.length fc, .int .i64 h, .int .i64 d, .int .i64 0, .slice none 0 0, .slice none 0 0, .slice none 0 0, .int .i64 0] 120)) (w.heap.size + 1) #[.slice ta tn tc, .slice fa fs.length fc, .int .i64 h, .int .i64 d, .int .i64 0, .slice none 0 0, .slice none 0 0, .slice none 0 0, .int .i64 0] 120 := Blk.new' (w := w.alloc (Obj.cells #[.slice ta tn tc, .slice fa fs.length fc] 28)) (by simp) _ 120
  obtain ⟨g, cap, hfe, _, hcells⟩ := hf.formS h0
  simp only [Value.slice.injEq] at hfe
  obtain ⟨rfl, _, rfl⟩ := hfe
  obtain ⟨lv, cv, _, h1, _, _, hl, _⟩ := hcells 0 h0
  simp only [Nat.zero_mul, Nat.zero_add] at h1
  have hgl : g < w.heap.size := World.block_lt_of_cell? w _ h1
  have hl0 := hl.chg kb (fun _ _ _ e => e)
  obtain ⟨la, lc, rfl⟩ := hl.slice
  clear hcells hl
  have h0' : (0 : Int) < (fs.length : Int) := by omega
  generalize fs[0].locals = l at *
  go_enter Try.func54, Try.ntmps54
  go_wp2_with fail
  generalize ((w.alloc (Obj.cells #[.slice ta tn tc, .slice (some ⟨g, 0, none⟩) fs.length fc] 28)).alloc (Obj.cells #[.slice ta tn tc, .slice (some ⟨g, 0, none⟩) fs.length fc, .int .i64 h, .int .i64 d, .int .i64 0, .slice none 0 0, .slice none 0 0, .slice none 0 0, .int .i64 0] 120)) = W0 at *
  refine (blank_any _ l 0 _ b1 hl0 (Nat.zero_le _) hll).mono ?_
  rintro e w2 ⟨u, rfl, hu, k2⟩
  obtain ⟨ua, uc, rfl⟩ := hu.slice
  have bx2 := bx.chg k2 (fun e => e)
  have hlt2 := bx2.lt
  have hsz := (kb.trans k2).size
  have hu2 : ValsV w2 w.heap.size (.slice ua (blankP l 0).length uc) (blankP l 0) := own_mono hu kb.size
  have kT := kb.trans k2
  clear bx k2 hl0 h1 hu kb
  have y5 : w2.cell? ⟨w.heap.size + 1, 5, none⟩ = some (.slice none 0 0) := bx2.cell 5
  have z5 := bx2.frozen 5
  generalize hBE : blankP l 0 = B at *
  have HBE : Hid (blankP l 0 = B) := hBE
  clear hBE
  go_wp2_with (at_builtin; refine wpList_append_lies _ rfl _ _ 117 rfl w.heap.size 134 i (.agg #[.int .i64 0, .int .i64 0, .slice none 0 0, .slice none 0 0]) 4 64 Try.underlying117 Hi1.out Hi2.out Hi3.out Hi4.out rfl (by decide) _ _ _ rfl (World.ownsRow_nil _ _ _ _) ⟨w2.heap.size, 0, none⟩ 1 1 [.int .i64 0, .int .i64 0, .slice ua B.length uc, .slice none 0 0] rfl rfl ?c1 ?c2 (by decide) ?c3 ?c4 ?c5 _ rfl ?_)
  case c1 => exact World.news_of_block (B := w2.heap.size) (cs := #[.int .i64 0, .int .i64 0, .slice ua B.length uc, .slice none 0 0]) (Blk.new' rfl _ 134)
  case c2 => intro u hu; simp at hu; rcases hu with rfl | rfl | rfl | rfl <;> rfl
  case c3 => unfold maxLen; omega
  case c4 => omega
  case c5 => simp; omega
  · intro g2 cap2 w3 hown hgrow hat hlt3
    have k3 : Chg (fun _ => False) w2 w3 := ((Chg.refl _ w2).alloc _).grown hgrow (fun j hj => by cases hj)
    have bx3 := bx2.chg k3 (fun e => e)
    have hu3 : ValsV w3 w.heap.size (.slice ua B.length uc) B := own_chg hu2 k3 (fun _ _ e => e)
    have kT3 := kT.trans k3
    clear hgrow hat y5 z5 bx2 k3 hu2 kT
    have y5 : w3.cell? ⟨w.heap.size + 1, 5, none⟩ = some (.slice none 0 0) := bx3.cell 5
    have z5 := bx3.frozen 5
    go_wp2
    go_ret
    have kz : Chg (fun b => b = w.heap.size + 1) w3 (w3.setCell ⟨w.heap.size + 1, 5, none⟩ (.slice (some ⟨g2, 0, none⟩) (0 + 1) cap2)) := Chg.setCell (S := fun b => b = w.heap.size + 1) (Chg.refl _ w3) _ _ (Or.inl rfl)
    rw [RbEnd, HBE.out]
    exact ⟨_, _, _, rfl, bx3.set 5 _, own_chg hown kz (fun g hg e => own_ne hown bx3 (by decide) (by rw [hg, e])), own_chg hu3 kz (fun g hg e => own_ne hu3 bx3 (by decide) (by rw [hg, e])), by omega, kT3.trans' kz (fun i hi e => by omega)⟩

theorem start_small {s : ByteArray} {fs : List Fn} {h d : Int} (hs : s.size ≤ 800) (hb : ¬ badR h d) (hl : (fnAt fs 0).locals.length ≤ 8) :
    ((startL s fs h d).length : Int) ≤ 2 * h + 20 * d + 16 ∧ ∀ x ∈ startL s fs h d, 0 ≤ x ∧ x < 65536 := by
  unfold badR at hb
  have hh : 0 ≤ h ∧ h ≤ 4000 ∧ 1 ≤ d ∧ d ≤ 64 := by omega
  have e : startL s fs h d = mksP s ++ [h, d, 0] ++ [0] ++ [1] ++ (0 :: List.replicate (fnAt fs 0).locals.length 0) := by
    simp [startL, layP, nums]
  rw [e]
  constructor
  · have hm : (mksP s).length = 3 := rfl
    simp [hm]; omega
  · intro x hx
    have r1 := mkP_rng s 257 hs (by decide) s.size
    have r2 := mkP_rng s 263 hs (by decide) s.size
    have r3 := mkP_rng s 269 hs (by decide) s.size
    simp only [mksP, List.mem_append, List.mem_cons, List.mem_replicate, List.not_mem_nil, or_false] at hx
    rcases hx with ((((hx | hx | hx) | hx | hx | hx) | hx) | hx) | hx | ⟨_, hx⟩ <;> omega

def BgEnd (w : World) (s : ByteArray) (O : Int × Int × Pg × List Spots) (h d : Int) (e : Ending) (w' : World) : Prop :=
  ∃ a n c pv, e = .returned (.tuple #[.slice a n c, pv, .bool true]) ∧ Chg (fun _ => False) w w' ∧ (O.1 ≠ 0 ∨ badR h d → pv = .pointer none) ∧
    (O.1 = 0 → ¬ badR h d → IntsV w' w.heap.size (.slice a n c) (startL s O.2.2.1.funcs h d) ∧ ∃ w3 tv fv l, w.heap.size ≤ w3.heap.size ∧ TypesV w' w.heap.size tv O.2.2.1.types ∧ FuncsV 92 99 w' w.heap.size fv O.2.2.1.funcs ∧ l = (fnAt O.2.2.1.funcs 0).locals ∧ RbEnd w3 tv fv h d l (.returned pv) w')

set_option maxHeartbeats 2000000 in
set_option maxRecDepth 100000 in
theorem began_core (s : ByteArray) (h d : Int) (w : World) (O : Int × Int × Pg × List Spots) (hst : ∀ w, Calls Try.prog 32 #[.string s, .int .i64 h, .int .i64 d] w (SuEnd w s O h d))
    (hrc : ∀ w, Calls Try.prog 15 #[.string s] w fun e w' => ∃ tv fv, e = .returned (.tuple #[.agg #[tv, fv], .int .i64 O.1, .int .i64 O.2.1]) ∧ TypesV w' w.heap.size tv O.2.2.1.types ∧ FuncsV 92 99 w' w.heap.size fv O.2.2.1.funcs ∧ Chg (fun _ => False) w w')
    (hs : O.1 = 0 → s.size ≤ 800 ∧ 0 < O.2.2.1.funcs.length ∧ (fnAt O.2.2.1.funcs 0).locals.length ≤ 8) :
    Calls Try.prog 27 #[.string s, .int .i64 h, .int .i64 d] w (BgEnd w s O h d) := by
  have HST : Hid (∀ w, Calls Try.prog 32 #[.string s, .int .i64 h, .int .i64 d] w (SuEnd w s O h d)) := hst
  have HRC : Hid (∀ w, Calls Try.prog 15 #[.string s] w fun e w' => ∃ tv fv, e = .returned (.tuple #[.agg #[tv, fv], .int .i64 O.1, .int .i64 O.2.1]) ∧ TypesV w' w.heap.size tv O.2.2.1.types ∧ FuncsV 92 99 w' w.heap.size fv O.2.2.1.funcs ∧ Chg (fun _ => False) w w') := hrc
  have HS : Hid (O.1 = 0 → s.size ≤ 800 ∧ 0 < O.2.2.1.funcs.length ∧ (fnAt O.2.2.1.funcs 0).locals.length ≤ 8) := hs
  clear hst hrc hs
  go_enter Try.func27, Try.ntmps27
  go_wp2_with fail
  refine (HST.out _).mono ?_
  rintro e w1 ⟨a, n, c, er, pl, rfl, hch1, i1, i2, i3⟩
  have I1 : Hid _ := i1
  have I2 : Hid _ := i2
  have I3 : Hid _ := i3
  clear i1 i2 i3
  go_wp2_with fail
  refine (HRC.out _).mono ?_
  rintro e w2 ⟨tv, fv, rfl, hty, hfv, hch2⟩
  obtain ⟨ta, tc, rfl⟩ := hty.slice
  obtain ⟨fa, fc, rfl⟩ := hfv.slice
  clear HST HRC
  have kp : Chg (fun _ => False) w2 (w2.alloc (Obj.cells #[.slice ta O.2.2.1.types.length tc, .slice fa O.2.2.1.funcs.length fc] 28)) := (Chg.refl _ w2).alloc _
  have kT := (hch1.trans hch2).trans kp
  have e47 := fun wx : World => Lib.run_eql_slice_nil (P := Try.prog) wx 47 3 none 0 0 0 0 Try.underlying47
  by_cases hz : O.1 = 0
  · have hz' : (O.1 != 0) = false := by simp [hz]
    have HZ : Hid (O.1 = 0) := hz
    obtain ⟨hs8, hf1, hl8⟩ := HS.out hz
    by_cases hb : badR h d
    · obtain ⟨rfl, rfl, hn⟩ := I2.out hz hb
      simp only [Value.slice.injEq] at hn
      obtain ⟨rfl, rfl, rfl⟩ := hn
      have HB : Hid (badR h d) := hb
      clear hz hb I1 I2 I3 hty hfv
      by_cases h1 : h < 0
      · go_wp2_with (go_at_call 16; refine (num_any _ _).mono ?_; rintro e w3 ⟨rfl, rfl⟩)
        exact bodyPost_ret (v := .tuple #[.slice none 0 0, .pointer none, .bool true]) (by simp [results, Try.results27, go_sem]) rfl ⟨_, _, _, _, rfl, kT, fun _ => rfl, fun _ e => absurd HB.out e⟩
      by_cases h2 : 4000 < h
      · go_wp2_with (go_at_call 16; refine (num_any _ _).mono ?_; rintro e w3 ⟨rfl, rfl⟩)
        exact bodyPost_ret (v := .tuple #[.slice none 0 0, .pointer none, .bool true]) (by simp [results, Try.results27, go_sem]) rfl ⟨_, _, _, _, rfl, kT, fun _ => rfl, fun _ e => absurd HB.out e⟩
      by_cases h3 : d < 1
      · go_wp2_with (go_at_call 16; refine (num_any _ _).mono ?_; rintro e w3 ⟨rfl, rfl⟩)
        exact bodyPost_ret (v := .tuple #[.slice none 0 0, .pointer none, .bool true]) (by simp [results, Try.results27, go_sem]) rfl ⟨_, _, _, _, rfl, kT, fun _ => rfl, fun _ e => absurd HB.out e⟩
      have h4 : 64 < d := by rcases HB.out with e | e | e | e <;> first | contradiction | exact e
      go_wp2_with (go_at_call 16; refine (num_any _ _).mono ?_; rintro e w3 ⟨rfl, rfl⟩)
      exact bodyPost_ret (v := .tuple #[.slice none 0 0, .pointer none, .bool true]) (by simp [results, Try.results27, go_sem]) rfl ⟨_, _, _, _, rfl, kT, fun _ => rfl, fun _ e => absurd HB.out e⟩
    · obtain ⟨rfl, rfl, hI⟩ := I3.out hz hb
      obtain ⟨sm1, sm2⟩ := start_small (fs := O.2.2.1.funcs) hs8 hb hl8
      have h1 : ¬ h < 0 := fun e => hb (.inl e)
      have h2 : ¬ 4000 < h := fun e => hb (.inr (.inl e))
      have h3 : ¬ d < 1 := fun e => hb (.inr (.inr (.inl e)))
      have h4 : ¬ 64 < d := fun e => hb (.inr (.inr (.inr e)))
      have HB : Hid (¬ badR h d) := hb
      have HSM1 : Hid _ := sm1
      have HSM2 : Hid _ := sm2
      have hfn : fnAt O.2.2.1.funcs 0 = O.2.2.1.funcs[0] := by unfold fnAt; rw [dif_pos ⟨by omega, by simpa using hf1⟩]; rfl
      have hl0 : O.2.2.1.funcs[0].locals.length ≤ 10000 := by rw [← hfn]; omega
      have HFN : Hid (fnAt O.2.2.1.funcs 0 = O.2.2.1.funcs[0]) := hfn
      have hI2 := IntsV.chg hI (hch2.trans kp) (fun _ _ _ e => e)
      have hty2 := hty.new kp
      have hfv2 := hfv.chg kp (fun _ _ _ e => e) (fun _ _ _ e => e) (fun _ _ _ e => e)
      have hs1 := hch1.size
      have hs2 := hch2.size
      clear hz hb I1 I2 I3 hty hfv sm1 sm2 hfn hI hch1 hch2 kp
      go_wp2_with fail
      refine (rbegin_any ta fa _ tc fc h d O.2.2.1.funcs _ w1.heap.size hfv2 hf1 hl0).mono ?_
      rintro e w3 ⟨rb, frv, bv, rfl, q1, q2, q3, q4, k3⟩
      have HRB : Hid (RbEnd _ _ _ h d O.2.2.1.funcs[0].locals (.returned (.pointer (some ⟨rb, 0, none⟩))) w3) := ⟨rb, frv, bv, rfl, q1, q2, q3, q4, k3⟩
      have hI3 := IntsV.chg hI2 k3 (fun _ _ _ e => e)
      have hty3 := hty2.new k3
      have hfv3 := hfv2.chg k3 (fun _ _ _ e => e) (fun _ _ _ e => e) (fun _ _ _ e => e)
      have kT3 := kT.trans k3
      have HI3 : Hid (IntsV w3 w.heap.size (.slice a n c) (startL s O.2.2.1.funcs h d)) := hI3
      have hsz : w.heap.size ≤ (w2.alloc (Obj.cells #[.slice ta O.2.2.1.types.length tc, .slice fa O.2.2.1.funcs.length fc] 28)).heap.size := kT.size
      clear q1 q2 q3 q4 k3 hI2 hty2 hfv2 kT hI3
      generalize w2.alloc (Obj.cells #[.slice ta O.2.2.1.types.length tc, .slice fa O.2.2.1.funcs.length fc] 28) = w2' at *
      go_wp2_with fail
      refine (small_true _ (startL s O.2.2.1.funcs h d) h d _ w.heap.size HI3.out (by omega) (by omega) HSM1.out HSM2.out).mono ?_
      rintro e w4 ⟨rfl, rfl⟩
      go_wp2_with (go_at_call 16; refine (num_any _ _).mono ?_; rintro e w5 ⟨rfl, rfl⟩)
      refine bodyPost_ret (v := .tuple #[.slice a n c, .pointer (some ⟨rb, 0, none⟩), .bool true]) (by simp [results, Try.results27, go_sem]) rfl ⟨_, _, _, _, rfl, kT3, fun e => ?_, fun _ _ => ⟨HI3.out, w2', _, _, _, hsz, hty3.mono hs1, hfv3.mono hs1, by rw [HFN.out], HRB.out⟩⟩
      rcases e with e | e
      · exact absurd HZ.out e
      · exact absurd e HB.out
  · have hz' : (O.1 != 0) = true := by simp [hz]
    have e1 : (O.1 == O.1) = true := by simp
    have e2 : (O.2.1 == O.2.1) = true := by simp
    obtain ⟨rfl, rfl, hn⟩ := I1.out hz
    simp only [Value.slice.injEq] at hn
    obtain ⟨rfl, rfl, rfl⟩ := hn
    have HZ : Hid (O.1 ≠ 0) := hz
    clear hz I1 I2 I3 hty hfv
    go_wp2_with (go_at_call 16; refine (num_any _ _).mono ?_; rintro e w3 ⟨rfl, rfl⟩)
    exact bodyPost_ret (v := .tuple #[.slice none 0 0, .pointer none, .bool true]) (by simp [results, Try.results27, go_sem]) rfl ⟨_, _, _, _, rfl, kT, fun _ => rfl, fun e => absurd e HZ.out⟩

theorem opF_size {s : ByteArray} (h : (opF s).1 = 0) : s.size ≤ 800 := by
  by_cases h1 : (opn s).1 = 0
  · unfold opn at h1
    by_cases h2 : 800 < s.size
    · rw [if_pos h2] at h1; cases h1
    · omega
  · rw [opF_1 h1] at h; exact absurd h h1

theorem opF_main {s : ByteArray} (h : (opF s).1 = 0) : 0 < (opF s).2.2.1.funcs.length ∧ (fnAt (opF s).2.2.1.funcs 0).locals.length ≤ 8 := by
  have hw := (opF_ok h).1
  have h1 : 0 < (opF s).2.2.1.funcs.length := hw.f1
  have hfn : fnAt (opF s).2.2.1.funcs 0 = (opF s).2.2.1.funcs[0] := by unfold fnAt; rw [dif_pos ⟨by omega, by simpa using h1⟩]; rfl
  refine ⟨h1, ?_⟩
  rw [hfn]
  exact (hw.fs 0 h1).l8

theorem start_any (s : ByteArray) (h d : Int) (w : World) : Calls Try.prog 32 #[.string s, .int .i64 h, .int .i64 d] w (SuEnd w s (opF s) h d) := by
  refine start_core s h d w (opF s) (fun w => openFit_any s w) opF_size ?_
  by_cases hz : (opF s).1 = 0
  · have := (opF_main hz).2; omega
  · have hp : (opF s).2.2.1 = ⟨[], []⟩ := by
      by_cases h1 : (opn s).1 = 0
      · rcases hA : fitAll (opn s).2.2 (opn s).2.2.funcs 0 [] with k | sps
        · rw [opF_2 h1 k hA]
        · rw [opF_3 h1 sps hA] at hz; exact absurd rfl hz
      · rw [opF_1 h1]
    rw [hp]; simp [fnAt]

theorem began_any (s : ByteArray) (h d : Int) (w : World) : Calls Try.prog 27 #[.string s, .int .i64 h, .int .i64 d] w (BgEnd w s (opF s) h d) :=
  began_core s h d w (opF s) (fun w => start_any s h d w) (fun w => rcheck_any s w) (fun hz => ⟨opF_size hz, opF_main hz⟩)

set_option maxHeartbeats 1000000 in
set_option maxRecDepth 100000 in
theorem starts_walk (s : ByteArray) (h d : Int) (w : World) :
    Calls Try.prog 8 #[.string s, .int .i64 h, .int .i64 d] w fun e w' => e = .returned (.bool true) ∧ Chg (fun _ => False) w w' := by
  have hb := fun w => began_any s h d w
  have HB : Hid _ := hb
  clear hb
  go_enter Try.func8, Try.ntmps8
  go_wp2_with fail
  refine (HB.out _).mono ?_
  rintro e w1 ⟨a, n, c, pv, rfl, hch, _, _⟩
  go_wp2
  go_ret
  exact ⟨rfl, hch⟩
end Go.Proofs.Ytnfnbcbadakofaa
