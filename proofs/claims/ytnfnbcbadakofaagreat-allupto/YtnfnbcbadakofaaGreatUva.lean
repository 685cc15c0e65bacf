import Derived.Test.YtnfnbcbadakofaaGreatRin
namespace Go.Proofs.YtnfnbcbadakofaaGreat
open Go.RowKit
set_option maxHeartbeats 2000000
set_option maxRecDepth 100000
section
variable {W1 w:World} {rb:Nat} {s:ByteArray} {tv fv sv iv:Value} {R:Rn} {V:RV}
theorem RI.drew (h:RI W1 w rb s tv fv sv iv R V):RI W1 w.drew rb s tv fv sv iv R V:=h.new (Chg.refl _ w).drew
theorem RI.base (h:RI W1 w rb s tv fv sv iv R V):W1.heap.size<=w.heap.size:=h.ch.size
theorem RI.push (h:RI W1 w rb s tv fv sv iv R V) (v:Int) (hl:R.top.stack.length<=100000):Calls Tryz.prog 95 #[.pointer (some ⟨rb,9,none⟩),v] w (aS W1 w rb s tv fv sv iv { R with top:=cG R.top v }):=by
 refine (pE rb 9 _ 62 V.kv R.top.stack v W1.heap.size w h.bx rfl (by decide) h.kk hl h.base).mono ?_
 rintro ex w' ⟨rfl,⟨⟨kv',h1,h2,h3⟩,h4⟩⟩
 exact ⟨rfl,KR.of h4 h.bx h.kk (fun j q=>q),_,h.stk (fun j q=>q) h4 h1 h2 h3⟩
def sC (W1 w:World) (rb:Nat) (s:ByteArray) (tv fv sv iv:Value) (R:Rn) (ex:Ending) (w':World):Prop:=ex=.returned (.int .i64 (aF R.top.stack))/\KR w w'/\∃ V,RI W1 w' rb s tv fv sv iv { R with top:=aR R.top } V
theorem RI.pop (h:RI W1 w rb s tv fv sv iv R V) (hl:R.top.stack.length<=10000):Calls Tryz.prog 79 #[.pointer (some ⟨rb,9,none⟩)] w (sC W1 w rb s tv fv sv iv R):=by
 refine (qA rb 9 _ 62 V.kv R.top.stack W1.heap.size w h.bx rfl (by decide) h.kk hl).mono ?_
 rintro ex w' ⟨rfl,⟨⟨kv',h1,h2,h3⟩,h4⟩⟩
 exact ⟨rfl,KR.of h4 h.bx h.kk (fun j q=>.inl q),_,h.stk (fun j q=>.inl q) h4 h1 h2 h3⟩
theorem cY (f:Fr):(aR f).stack.length<=f.stack.length:=by unfold aR;simp
theorem rz (h:RI W1 w rb s tv fv sv iv R V) (A B:Int) (hl:R.top.stack.length<=1000):Calls Tryz.prog 83 #[.pointer rb,.agg #[oO,A,B]] w (aS W1 w rb s tv fv sv iv (uvP (0,A,B) R)):=by
 have e:uvP (0,A,B) R = { R with top:=cG R.top A }:=rfl
 rw [e]
 clear e
 have kb:Chg () w (w.alloc (Obj.cells #[oO,A,B] 135)):=(Chg.refl _ w).alloc _
 have nb:Blk (w.alloc (Obj.cells #[oO,A,B] 135)) w.heap.size #[oO,A,B] 135:=Blk.new w _ 135
 have H:=hid (h.new kb)
 have KB:=KR.new kb
 clear h kb
 go_enter Tryz.func83,Tryz.ntmps83
 go_wp2
 go_region_with (go_at_call 95;refine (H.out.drew.push A (by omega)).mono ?_;rintro ex w2 ⟨rfl,k2,V2,h2⟩)
 exact bodyPost_end (v:=.tuple #[]) (by simp [results,Tryz.results83]) rfl ⟨rfl,KB.trans ((KR.new (Chg.refl _ _).drew).trans k2),V2,h2⟩
theorem sK (h:RI W1 w rb s tv fv sv iv R V) (op A B:Int) (hop:op=1 \/ op=2 \/ op=3 \/ op=4 \/ op=12) (hl:R.top.stack.length<=1000) (h1:0<=aF R.top.stack/\aF R.top.stack<=65535) (h2:0<=aF R.top.stack.dropLast/\aF R.top.stack.dropLast<=65535) :
 Calls Tryz.prog 83 #[.pointer rb,.agg #[op,A,B]] w (aS W1 w rb s tv fv sv iv (uvP (op,A,B) R)):=by
 have e:uvP (op,A,B) R = { R with top:=cG (aR (aR R.top)) (dB op (aF R.top.stack.dropLast) (aF R.top.stack)) }:=by
  unfold uvP;simp only;rw [if_neg (by omega),if_pos hop]
 rw [e]
 clear e
 have kb:Chg () w (w.alloc (Obj.cells #[op,A,B] 135)):=(Chg.refl _ w).alloc _
 have nb:Blk (w.alloc (Obj.cells #[op,A,B] 135)) w.heap.size #[op,A,B] 135:=Blk.new w _ 135
 have H:=hid (h.new kb)
 have KB:=KR.new kb
 have HOP:=hid hop
 clear h kb
 obtain ⟨ha,ha'⟩:=h1
 obtain ⟨hb,hb'⟩:=h2
 have p1:=cY R.top
 have p2:=cY (aR R.top)
 rcases hop with rfl | rfl | rfl | rfl | rfl
 ·go_enter Tryz.func83,Tryz.ntmps83
  go_wp2_with fail
  refine (H.out.pop (by omega)).mono ?_
  rintro ex w2 ⟨rfl,k2,V2,g2⟩
  have nb2:=k2.keep _ _ _ nb (by decide) (by decide) (by decide)
  have G2:=hid g2
  clear g2
  go_wp2_with fail
  refine (G2.out.pop (by show (aR R.top).stack.length<=10000;omega)).mono ?_
  rintro ex w3 ⟨rfl,k3,V3,g3⟩
  have nb3:=k3.keep _ _ _ nb2 (by decide) (by decide) (by decide)
  have G3:=hid g3
  clear g3
  have x0:w3.cell? ⟨w.heap.size,0,none⟩=some (.int .i64 1):=nb3.cell 0
  go_wp2
  go_region_with (first
   | (go_at_call 98;refine (cR 1 (aF R.top.stack.dropLast) (aF R.top.stack) (by simp) hb hb' ha ha' _).mono ?_;rintro ex w4 ⟨rfl,rfl⟩)
   | (go_at_call 95;refine (G3.out.drew.push (dB 1 (aF R.top.stack.dropLast) (aF R.top.stack)) (by show (aR (aR R.top)).stack.length<=100000;omega)).mono ?_;rintro ex w5 ⟨rfl,k5,V5,g5⟩))
  exact bodyPost_end (v:=.tuple #[]) (by simp [results,Tryz.results83]) rfl ⟨rfl,(KB.trans k2).trans (k3.trans ((KR.new (Chg.refl _ _).drew).trans k5)),V5,g5⟩
 ·go_enter Tryz.func83,Tryz.ntmps83
  go_wp2_with fail
  refine (H.out.pop (by omega)).mono ?_
  rintro ex w2 ⟨rfl,k2,V2,g2⟩
  have nb2:=k2.keep _ _ _ nb (by decide) (by decide) (by decide)
  have G2:=hid g2
  clear g2
  go_wp2_with fail
  refine (G2.out.pop (by show (aR R.top).stack.length<=10000;omega)).mono ?_
  rintro ex w3 ⟨rfl,k3,V3,g3⟩
  have nb3:=k3.keep _ _ _ nb2 (by decide) (by decide) (by decide)
  have G3:=hid g3
  clear g3
  have x0:w3.cell? ⟨w.heap.size,0,none⟩=some (.int .i64 2):=nb3.cell 0
  go_wp2
  go_region_with (first
   | (go_at_call 98;refine (cR 2 (aF R.top.stack.dropLast) (aF R.top.stack) (by simp) hb hb' ha ha' _).mono ?_;rintro ex w4 ⟨rfl,rfl⟩)
   | (go_at_call 95;refine (G3.out.drew.push (dB 2 (aF R.top.stack.dropLast) (aF R.top.stack)) (by show (aR (aR R.top)).stack.length<=100000;omega)).mono ?_;rintro ex w5 ⟨rfl,k5,V5,g5⟩))
  exact bodyPost_end (v:=.tuple #[]) (by simp [results,Tryz.results83]) rfl ⟨rfl,(KB.trans k2).trans (k3.trans ((KR.new (Chg.refl _ _).drew).trans k5)),V5,g5⟩
 ·go_enter Tryz.func83,Tryz.ntmps83
  go_wp2_with fail
  refine (H.out.pop (by omega)).mono ?_
  rintro ex w2 ⟨rfl,k2,V2,g2⟩
  have nb2:=k2.keep _ _ _ nb (by decide) (by decide) (by decide)
  have G2:=hid g2
  clear g2
  go_wp2_with fail
  refine (G2.out.pop (by show (aR R.top).stack.length<=10000;omega)).mono ?_
  rintro ex w3 ⟨rfl,k3,V3,g3⟩
  have nb3:=k3.keep _ _ _ nb2 (by decide) (by decide) (by decide)
  have G3:=hid g3
  clear g3
  have x0:w3.cell? ⟨w.heap.size,0,none⟩=some (.int .i64 3):=nb3.cell 0
  go_wp2
  go_region_with (first
   | (go_at_call 98;refine (cR 3 (aF R.top.stack.dropLast) (aF R.top.stack) (by simp) hb hb' ha ha' _).mono ?_;rintro ex w4 ⟨rfl,rfl⟩)
   | (go_at_call 95;refine (G3.out.drew.push (dB 3 (aF R.top.stack.dropLast) (aF R.top.stack)) (by show (aR (aR R.top)).stack.length<=100000;omega)).mono ?_;rintro ex w5 ⟨rfl,k5,V5,g5⟩))
  exact bodyPost_end (v:=.tuple #[]) (by simp [results,Tryz.results83]) rfl ⟨rfl,(KB.trans k2).trans (k3.trans ((KR.new (Chg.refl _ _).drew).trans k5)),V5,g5⟩
 ·go_enter Tryz.func83,Tryz.ntmps83
  go_wp2_with fail
  refine (H.out.pop (by omega)).mono ?_
  rintro ex w2 ⟨rfl,k2,V2,g2⟩
  have nb2:=k2.keep _ _ _ nb (by decide) (by decide) (by decide)
  have G2:=hid g2
  clear g2
  go_wp2_with fail
  refine (G2.out.pop (by show (aR R.top).stack.length<=10000;omega)).mono ?_
  rintro ex w3 ⟨rfl,k3,V3,g3⟩
  have nb3:=k3.keep _ _ _ nb2 (by decide) (by decide) (by decide)
  have G3:=hid g3
  clear g3
  have x0:w3.cell? ⟨w.heap.size,0,none⟩=some (.int .i64 4):=nb3.cell 0
  go_wp2
  go_region_with (first
   | (go_at_call 98;refine (cR 4 (aF R.top.stack.dropLast) (aF R.top.stack) (by simp) hb hb' ha ha' _).mono ?_;rintro ex w4 ⟨rfl,rfl⟩)
   | (go_at_call 95;refine (G3.out.drew.push (dB 4 (aF R.top.stack.dropLast) (aF R.top.stack)) (by show (aR (aR R.top)).stack.length<=100000;omega)).mono ?_;rintro ex w5 ⟨rfl,k5,V5,g5⟩))
  exact bodyPost_end (v:=.tuple #[]) (by simp [results,Tryz.results83]) rfl ⟨rfl,(KB.trans k2).trans (k3.trans ((KR.new (Chg.refl _ _).drew).trans k5)),V5,g5⟩
 ·go_enter Tryz.func83,Tryz.ntmps83
  go_wp2_with fail
  refine (H.out.pop (by omega)).mono ?_
  rintro ex w2 ⟨rfl,k2,V2,g2⟩
  have nb2:=k2.keep _ _ _ nb (by decide) (by decide) (by decide)
  have G2:=hid g2
  clear g2
  go_wp2_with fail
  refine (G2.out.pop (by show (aR R.top).stack.length<=10000;omega)).mono ?_
  rintro ex w3 ⟨rfl,k3,V3,g3⟩
  have nb3:=k3.keep _ _ _ nb2 (by decide) (by decide) (by decide)
  have G3:=hid g3
  clear g3
  have x0:w3.cell? ⟨w.heap.size,0,none⟩=some (.int .i64 12):=nb3.cell 0
  go_wp2
  go_region_with (first
   | (go_at_call 98;refine (cR 12 (aF R.top.stack.dropLast) (aF R.top.stack) (by simp) hb hb' ha ha' _).mono ?_;rintro ex w4 ⟨rfl,rfl⟩)
   | (go_at_call 95;refine (G3.out.drew.push (dB 12 (aF R.top.stack.dropLast) (aF R.top.stack)) (by show (aR (aR R.top)).stack.length<=100000;omega)).mono ?_;rintro ex w5 ⟨rfl,k5,V5,g5⟩))
  exact bodyPost_end (v:=.tuple #[]) (by simp [results,Tryz.results83]) rfl ⟨rfl,(KB.trans k2).trans (k3.trans ((KR.new (Chg.refl _ _).drew).trans k5)),V5,g5⟩
end
end Go.Proofs.YtnfnbcbadakofaaGreat
