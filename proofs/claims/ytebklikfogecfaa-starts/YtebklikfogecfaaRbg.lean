import Derived.Test.YtebklikfogecfaaBla
namespace Go.Proofs.Ytebklikfogecfaa
open Go.RowKit

theorem info127 : ∃ i : TypeInfo, Try.prog.info? 127 = some i ∧ i.zero = some (.agg #[.int .i64 0, .int .i64 0, .slice none 0 0, .slice none 0 0]) ∧ i.size = 4 ∧ i.bytes = 64 := info_of (by kernel_rfl)

def RbEnd (w : World) (tv fv : Value) (h d : Int) (l : List Int) (e : Ending) (w' : World) : Prop :=
  ∃ rb frv bv, e = .returned (.pointer (some ⟨rb, 0, none⟩)) ∧ Blk w' rb #[tv, fv, .int .i64 h, .int .i64 d, .int .i64 0, frv, .slice none 0 0, .slice none 0 0, .int .i64 0] 120 ∧ w'.ownsRow w.heap.size 127 4 frv 1 [.int .i64 0, .int .i64 0, bv, .slice none 0 0] ∧
    ValsV w' w.heap.size bv (blankP l 0) ∧ w.heap.size ≤ rb ∧ Chg (fun _ => False) w w'

set_option maxHeartbeats 2000000 in
set_option maxRecDepth 100000 in
theorem rbegin_any (ta fa : Option Addr) (tn tc fc : Nat) (h d : Int) (fs : List Fn) (w : World) (b1 : Nat) (hf : FuncsV 92 99 w b1 (.slice fa fs.length fc) fs) (h0 : 0 < fs.length) (hll : fs[0].locals.length ≤ 10000) :
    Calls Try.prog 54 #[.agg #[.slice ta tn tc, .slice fa fs.length fc], .int .i64 h, .int .i64 d] w (RbEnd w (.slice ta tn tc) (.slice fa fs.length fc) h d fs[0].locals) := by
  obtain ⟨i, hi1, hi2, hi3, hi4⟩ := info127
  have Hi1 : Hid (Try.prog.info? 127 = some i) := hi1
  have Hi2 : Hid (i.zero = some (.agg #[.int .i64 0, .int .i64 0, .slice none 0 0, .slice none 0 0])) := hi2
  have Hi3 : Hid (i.size = 4) := hi3
  have Hi4 : Hid (i.bytes = 64) := hi4
  clear hi1 hi2 hi3 hi4
  have kb : Chg (fun _ => False) w ((w.alloc (Obj.cells #[.slice ta tn tc, .slice fa fs.length fc] 28)).alloc (Obj.cells #[.slice ta tn tc, .slice fa fs.length fc, .int .i64 h, .int .i64 d, .int .i64 0, .slice none 0 0, .slice none 0 0, .slice none 0 0, .int .i64 0] 120)) := ((Chg.refl _ w).alloc _).alloc _
  have bx : Blk ((w.alloc (Obj.cells #[.slice ta tn tc, .slice fa fs.length fc] 28)).alloc (Obj.cells #[.slice ta tn tc, .slice fa fs.length fc, .int .i64 h, .int .i64 d, .int .i64 0, .slice none 0 0, .slice none 0 0, .slice none 0 0, .int .i64 0] 120)) (w.heap.size + 1) #[.slice ta tn tc, .slice fa fs.length fc, .int .i64 h, .int .i64 d, .int .i64 0, .slice none 0 0, .slice none 0 0, .slice none 0 0, .int .i64 0] 120 := Blk.new' (w := w.alloc (Obj.cells #[.slice ta tn tc, .slice fa fs.length fc] 28)) (by simp) _ 120
  obtain ⟨g, cap, hfe, _, hcells⟩ := hf.formS h0
  simp only [Value.slice.injEq] at hfe
  obtain ⟨rfl, _, rfl⟩ := hfe
  obtain ⟨lv, cv, _, h1, _, _, hl, _⟩ := hcells 0 h0
  simp only [Nat.zero_mul, Nat.zero_add] at h1
  have hgl : g < w.heap.size := World.block_lt_of_cell? w _ h1
  have hl0 := hl.chg kb (fun _ _ _ e => e)
  obtain ⟨la, lc, rfl⟩ := hl.slice
  clear hcells hl
  have h0' : (0 : Int) < (fs.length : Int) := by omega
  generalize fs[0].locals = l at *
  go_enter Try.func54, Try.ntmps54
  go_wp2_with fail
  generalize ((w.alloc (Obj.cells #[.slice ta tn tc, .slice (some ⟨g, 0, none⟩) fs.length fc] 28)).alloc (Obj.cells #[.slice ta tn tc, .slice (some ⟨g, 0, none⟩) fs.length fc, .int .i64 h, .int .i64 d, .int .i64 0, .slice none 0 0, .slice none 0 0, .slice none 0 0, .int .i64 0] 120)) = W0 at *
  refine (blank_any _ l 0 _ b1 hl0 (Nat.zero_le _) hll).mono ?_
  rintro e w2 ⟨u, rfl, hu, k2⟩
  obtain ⟨ua, uc, rfl⟩ := hu.slice
  have bx2 := bx.chg k2 (fun e => e)
  have hlt2 := bx2.lt
  have hsz := (kb.trans k2).size
  have hu2 : ValsV w2 w.heap.size (.slice ua (blankP l 0).length uc) (blankP l 0) := own_mono hu kb.size
  have kT := kb.trans k2
  clear bx k2 hl0 h1 hu kb
  have y5 : w2.cell? ⟨w.heap.size + 1, 5, none⟩ = some (.slice none 0 0) := bx2.cell 5
  have z5 := bx2.frozen 5
  generalize hBE : blankP l 0 = B at *
  have HBE : Hid (blankP l 0 = B) := hBE
  clear hBE
  go_wp2_with (at_builtin; refine wpList_append_lies _ rfl _ _ 117 rfl w.heap.size 127 i (.agg #[.int .i64 0, .int .i64 0, .slice none 0 0, .slice none 0 0]) 4 64 Try.underlying117 Hi1.out Hi2.out Hi3.out Hi4.out rfl (by decide) _ _ _ rfl (World.ownsRow_nil _ _ _ _) ⟨w2.heap.size, 0, none⟩ 1 1 [.int .i64 0, .int .i64 0, .slice ua B.length uc, .slice none 0 0] rfl rfl ?c1 ?c2 (by decide) ?c3 ?c4 ?c5 _ rfl ?_)
  case c1 => exact World.news_of_block (B := w2.heap.size) (cs := #[.int .i64 0, .int .i64 0, .slice ua B.length uc, .slice none 0 0]) (Blk.new' rfl _ 127)
  case c2 => intro u hu; simp at hu; rcases hu with rfl | rfl | rfl | rfl <;> rfl
  case c3 => unfold maxLen; omega
  case c4 => omega
  case c5 => simp; omega
  · intro g2 cap2 w3 hown hgrow hat hlt3
    have k3 : Chg (fun _ => False) w2 w3 := ((Chg.refl _ w2).alloc _).grown hgrow (fun j hj => by cases hj)
    have bx3 := bx2.chg k3 (fun e => e)
    have hu3 : ValsV w3 w.heap.size (.slice ua B.length uc) B := own_chg hu2 k3 (fun _ _ e => e)
    have kT3 := kT.trans k3
    clear hgrow hat y5 z5 bx2 k3 hu2 kT
    have y5 : w3.cell? ⟨w.heap.size + 1, 5, none⟩ = some (.slice none 0 0) := bx3.cell 5
    have z5 := bx3.frozen 5
    go_wp2
    go_ret
    have kz : Chg (fun b => b = w.heap.size + 1) w3 (w3.setCell ⟨w.heap.size + 1, 5, none⟩ (.slice (some ⟨g2, 0, none⟩) (0 + 1) cap2)) := Chg.setCell (S := fun b => b = w.heap.size + 1) (Chg.refl _ w3) _ _ (Or.inl rfl)
    rw [RbEnd, HBE.out]
    exact ⟨_, _, _, rfl, bx3.set 5 _, own_chg hown kz (fun g hg e => own_ne hown bx3 (by decide) (by rw [hg, e])), own_chg hu3 kz (fun g hg e => own_ne hu3 bx3 (by decide) (by rw [hg, e])), by omega, kT3.trans' kz (fun i hi e => by omega)⟩
end Go.Proofs.Ytebklikfogecfaa
