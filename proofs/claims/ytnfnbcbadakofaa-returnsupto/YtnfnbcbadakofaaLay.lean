import Derived.Test.YtnfnbcbadakofaaApp
namespace Go.Proofs.Ytnfnbcbadakofaa
open Go.RowKit

set_option maxHeartbeats 1000000 in
set_option maxRecDepth 100000 in
theorem nums_any (f : Fr) (lv kv : Value) (w : World) (b1 : Nat) (hl : IntsV w b1 lv f.locals) (hk : IntsV w b1 kv f.stack) (hll : f.locals.length ≤ 10000) (hkl : f.stack.length ≤ 10000) :
    Calls Try.prog 83 #[.agg #[.int .i64 f.fn, .int .i64 f.pc, lv, kv]] w fun e w' => ∃ v, e = .returned v ∧ IntsV w' w.heap.size v (nums f) ∧ Chg (fun _ => False) w w' := by
  obtain ⟨la, lc, rfl⟩ := hl.slice
  obtain ⟨ka, kc, rfl⟩ := hk.slice
  have k1 : Chg (fun _ => False) w ((w.alloc (Obj.cells #[.int .i64 f.fn, .int .i64 f.pc, .slice la f.locals.length lc, .slice ka f.stack.length kc] 123)).alloc (Obj.cells #[.int .i64 f.pc] 3)) := ((Chg.refl _ w).alloc _).alloc _
  have bx : Blk ((w.alloc (Obj.cells #[.int .i64 f.fn, .int .i64 f.pc, .slice la f.locals.length lc, .slice ka f.stack.length kc] 123)).alloc (Obj.cells #[.int .i64 f.pc] 3)) w.heap.size #[.int .i64 f.fn, .int .i64 f.pc, .slice la f.locals.length lc, .slice ka f.stack.length kc] 123 := (Blk.new w _ 123).alloc _
  have hI : IntsV ((w.alloc (Obj.cells #[.int .i64 f.fn, .int .i64 f.pc, .slice la f.locals.length lc, .slice ka f.stack.length kc] 123)).alloc (Obj.cells #[.int .i64 f.pc] 3)) w.heap.size (.slice (some ⟨w.heap.size + 1, 0, none⟩) 1 1) [f.pc] := IntsV.lit [f.pc] 1 rfl (by simp) (by omega) (by unfold maxLen; omega)
  have hsz := k1.size
  have HL : Hid _ := hl.chg k1 (fun _ _ _ e => e)
  have HK : Hid _ := hk.chg k1 (fun _ _ _ e => e)
  have hlt := fun g hg => (hk.lt g hg).2
  have HLT : Hid _ := hlt
  clear hlt hl hk
  go_enter Try.func83, Try.ntmps83
  go_wp2_with (at_builtin; refine wp_app rfl _ _ rfl w.heap.size (.slice (some ⟨w.heap.size + 1, 0, none⟩) 1 1) (.slice la f.locals.length lc) [f.pc] f.locals rfl rfl ?h1 ?h2 ?h3 ?h4 ?_)
  case h1 => exact hI
  case h2 => exact IntsV.rdI (base := b1) HL.out
  case h3 => simp; omega
  case h4 => exact hsz
  generalize ((w.alloc (Obj.cells #[.int .i64 f.fn, .int .i64 f.pc, .slice la f.locals.length lc, .slice ka f.stack.length kc] 123)).alloc (Obj.cells #[.int .i64 f.pc] 3)) = W at *
  intro x n2 c w2 hn hI2 hch
  clear hn
  have bx2 := bx.chg hch (fun e => by simp [Value.ownBlock] at e)
  have k2 : Chg (fun _ => False) w w2 := k1.trans' hch (fun i hi e => by simp [Value.ownBlock] at e; omega)
  have HK2 : Hid (RdI w2 (.slice ka f.stack.length kc) f.stack) := IntsV.rdI (base := b1) (own_chg HK.out hch (fun g hg e => by have := HLT.out g hg; simp [Value.ownBlock] at e; omega))
  have c3 : w2.cell? ⟨w.heap.size, 3, none⟩ = some (.slice ka f.stack.length kc) := bx2.cell 3
  have hsz2 := k2.size
  clear bx k1 HL HK hch hI
  go_wp2_with (at_builtin; refine wp_app rfl _ _ rfl w.heap.size (.slice x n2 c) (.slice ka f.stack.length kc) ([f.pc] ++ f.locals) f.stack rfl rfl ?h1 ?h2 ?h3 ?h4 ?_)
  case h1 => exact hI2
  case h2 => exact HK2.out
  case h3 => simp; omega
  case h4 => exact hsz2
  intro x3 n3 c3' w3 hn hI3 hch3
  clear hn
  have k3 : Chg (fun _ => False) w w3 := k2.trans' hch3 (fun i hi e => by have := (hI2.lt i e.symm).1; omega)
  clear hch3 c3
  go_wp2
  go_ret
  exact ⟨_, rfl, by simpa [nums] using hI3, k3⟩
end Go.Proofs.Ytnfnbcbadakofaa
