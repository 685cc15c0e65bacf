import Derived.Test.YtnfnbcbadakofaaGreatUve
import Derived.Test.YtnfnbcbadakofaaGreatCal
import Derived.Test.YtnfnbcbadakofaaGreatGbk
import Derived.Test.YtnfnbcbadakofaaGreatBg2
namespace Go.Proofs.YtnfnbcbadakofaaGreat
open Go.RowKit
section
variable {W1 w w':World} {rb:Nat} {s:ByteArray} {tv fv sv iv:Value} {R:Rn} {V:RV}
set_option maxHeartbeats 1000000 in
set_option maxRecDepth 100000 in
theorem rR (h:RI W1 w rb s tv fv sv iv R V) (A B:Int) (hl:R.top.stack.length<=1000) (hu:R.used<=1000000) (hin:∀ w,Chg (fun j=>j=rb) W1 w->RdA w iv R.inp) (hri:R.used < R.inp.length):Calls Tryz.prog 83 #[.pointer rb,.agg #[(18:Int),A,B]] w (aS W1 w rb s tv fv sv iv (uvP (18,A,B) R)):=by
 have e:uvP (18,A,B) R = { R with top:=cG R.top (R.inp.getD R.used 0 % 65536),used:=R.used+1 }:=rfl
 rw [e]
 clear e
 have kb:Chg () w (w.alloc (Obj.cells #[(18:Int),A,B] 135)):=(Chg.refl _ w).alloc _
 have nb:Blk (w.alloc (Obj.cells #[(18:Int),A,B] 135)) w.heap.size #[(18:Int),A,B] 135:=Blk.new w _ 135
 have H:=hid (h.new kb)
 have KB:=KR.new kb
 have x13:(w.alloc (Obj.cells #[(18:Int),A,B] 135)).cell? ⟨rb,13,none⟩=some iv:=H.out.bx.cell 13
 have x14:(w.alloc (Obj.cells #[(18:Int),A,B] 135)).cell? ⟨rb,14,none⟩=some (.int .i64 (R.used:Int)):=H.out.bx.cell 14
 have hrd:=hin _ H.out.ch
 obtain ⟨ia,ic,hiv⟩:=hrd.slice
 rw [hiv] at x13 hrd
 have HR:=hid hrd
 have hrb:=H.out.bx.lt
 have ety:aU R.inp (R.used:Int)=R.inp.getD R.used 0:=by unfold aU;rw [if_neg (by omega)];simp
 have hq:∀ n,Calls Tryz.prog 53 #[.slice ia R.inp.length ic,R.used] ((w.alloc (Obj.cells #[(18:Int),A,B] 135)).drewN n) fun e w'=>e=.returned (.int .i64 (R.inp.getD R.used 0))/\w'=(w.alloc (Obj.cells #[(18:Int),A,B] 135)).drewN n:=fun n=>by
  rw [<-ety];exact ot _ R.inp (R.used:Int) _ (HR.out.new ((Chg.refl _ _).drewN n))
 clear h kb hrd ety
 generalize R.inp.getD R.used 0=x at *
 have hwr:∀ w,Calls Tryz.prog 100 #[x] w fun e w'=>e=.returned (.int .i64 (x % 65536))/\w'=w:=fun w=>dF x w
 generalize x % 65536=y at *
 go_enter Tryz.func83,Tryz.ntmps83
 go_wp2
 go_quiet ((go_at_call 53;exact Calls.quiet_of_same (hq _)))
 have dn:=(Chg.refl () (w.alloc (Obj.cells #[(18:Int),A,B] 135))).drewN nq
 have G2:=hid (H.out.new dn)
 clear hq x13 x14
 generalize (w.alloc (Obj.cells #[(18:Int),A,B] 135)).drewN nq=w2 at *
 have K2:=KB.trans (KR.new dn)
 clear KB dn H HR nb
 go_wp2
 go_region_with (first
  | (go_at_call 100;refine (hwr _).mono ?_;rintro ex w4 ⟨rfl,rfl⟩)
  | (go_at_call 95;refine (G2.out.drew.push (y) (by omega)).mono ?_;rintro ex w5 ⟨rfl,k5,V5,g5⟩;have y14:w5.cell? ⟨rb,14,none⟩=some (.int .i64 (R.used:Int)):=g5.bx.cell 14;have f14:=g5.bx.frozen 14;have hrb5:=g5.bx.lt))
 have e14:((R.used+1:Nat):Int)=(R.used:Int)+1:=Int.natCast_add R.used 1
 have g6:=g5.num (i:=14) (v:=.int .i64 ((R.used+1:Nat):Int)) (R':={ R with top:=cG R.top y,used:=R.used+1 }) rfl rfl rfl rfl rfl rfl
 rw [e14] at g6
 clear e14
 have K6:=(K2.trans ((KR.new (Chg.refl _ _).drew).trans k5)).trans (KR.of ((Chg.refl (fun j=>j=rb) w5).setCell ⟨rb,14,none⟩ ((R.used:Int)+1:Int) (.inl rfl)) g5.bx g5.kk (fun j q=>.inl q))
 go_wp2
 exact bodyPost_end (v:=.tuple #[]) (by simp [results,Tryz.results83]) rfl ⟨rfl,K6,V5,g6⟩
end
end Go.Proofs.YtnfnbcbadakofaaGreat
namespace Go.Proofs.YtnfnbcbadakofaaGreat
open Go.RowKit
section
variable {W1 w w':World} {rb:Nat} {s:ByteArray} {tv fv sv iv:Value} {R:Rn} {V:RV}
set_option maxHeartbeats 1000000 in
set_option maxRecDepth 100000 in
theorem qY (h:RI W1 w rb s tv fv sv iv R V) (A B:Int) (hl:R.top.stack.length<=1000):Calls Tryz.prog 83 #[.pointer rb,.agg #[(5:Int),A,B]] w (aS W1 w rb s tv fv sv iv (uvP (5,A,B) R)):=by
 have e:uvP (5,A,B) R = { R with top:=cG R.top (aU R.top.locals A) }:=rfl
 rw [e]
 clear e
 have kb:Chg () w (w.alloc (Obj.cells #[(5:Int),A,B] 135)):=(Chg.refl _ w).alloc _
 have nb:Blk (w.alloc (Obj.cells #[(5:Int),A,B] 135)) w.heap.size #[(5:Int),A,B] 135:=Blk.new w _ 135
 have H:=hid (h.new kb)
 have KB:=KR.new kb
 have x11:(w.alloc (Obj.cells #[(5:Int),A,B] 135)).cell? ⟨rb,11,none⟩=some V.lv:=H.out.bx.cell 11
 obtain ⟨la,lc,hlv⟩:=H.out.ll.slice
 rw [hlv] at x11
 have hrb:=H.out.bx.lt
 have HL:Hid (ad (w.alloc (Obj.cells #[(5:Int),A,B] 135)) W1.heap.size (.slice la R.top.locals.length lc) R.top.locals):=by
  show ad _ _ _ _
  rw [<-hlv];exact H.out.ll
 have hq:∀ n,Calls Tryz.prog 53 #[.slice la R.top.locals.length lc,A] ((w.alloc (Obj.cells #[(5:Int),A,B] 135)).drewN n) fun e w'=>e=.returned (.int .i64 (aU R.top.locals A))/\w'=(w.alloc (Obj.cells #[(5:Int),A,B] 135)).drewN n:=fun n=>bq _ R.top.locals A _ W1.heap.size (aI HL.out n)
 clear h kb
 go_enter Tryz.func83,Tryz.ntmps83
 go_wp2
 go_quiet ((go_at_call 53;exact Calls.quiet_of_same (hq _)))
 go_wp2_with fail
 have dn:=(Chg.refl () (w.alloc (Obj.cells #[(5:Int),A,B] 135))).drewN nq
 refine ((H.out.new dn).push (aU R.top.locals A) (by omega)).mono ?_
 rintro ex w2 ⟨rfl,k2,V2,h2⟩
 go_wp2
 exact bodyPost_end (v:=.tuple #[]) (by simp [results,Tryz.results83]) rfl ⟨rfl,KB.trans ((KR.new dn).trans k2),V2,h2⟩
end
end Go.Proofs.YtnfnbcbadakofaaGreat
namespace Go.Proofs.YtnfnbcbadakofaaGreat
open Go.RowKit
set_option maxHeartbeats 1000000
set_option maxRecDepth 100000
theorem su (x:Int × Int × Int) (R:Rn):(uvP x R).top.pc=R.top.pc:=by
 unfold uvP;repeat' split
 all_goals rfl
theorem sB (c:Cx) (t:Int) (R:Rn):(dz c t R).top.pc=R.top.pc:=by
 unfold dz;split <;> rfl
theorem vg (c:Cx) (t:Int) (R:Rn):(mrP c t R).top.pc=R.top.pc:=by
 unfold mrP;rw [sB];split <;> rfl
theorem iI (c:Cx) (x:Int × Int × Int) (R:Rn):(urP c x R).top.pc=R.top.pc:=by
 unfold urP
 split
 ·exact vg _ _ _
 ·split
  ·split <;> rfl
  ·split <;> rfl
section
variable {W1 w:World} {rb:Nat} {s:ByteArray} {tv fv sv iv:Value} {R:Rn} {V:RV} {c:Cx}
theorem RI.place (h:RI W1 w rb s tv fv sv iv R V):w.cell? ⟨rb,10,none⟩=some (.int .i64 R.top.pc)/\w.frozen? ⟨rb,10,none⟩=false:=⟨h.bx.cell 10,h.bx.frozen 10⟩
theorem qT (h:RI W1 w rb s tv fv sv iv R V) (A B:Int):Calls Tryz.prog 55 #[.pointer rb,.agg #[(13:Int),A,B]] w (aS W1 w rb s tv fv sv iv (doP c (13,A,B) R)):=by
 have HM:Hid (doP c (13,A,B) R = { R with top:={ R.top with pc:=A } }):=rfl
 have kb:Chg () w (w.alloc (Obj.cells #[(13:Int),A,B] 135)):=(Chg.refl _ w).alloc _
 have nb:Blk (w.alloc (Obj.cells #[(13:Int),A,B] 135)) w.heap.size #[(13:Int),A,B] 135:=Blk.new w _ 135
 have H:=hid (h.new kb)
 have KB:=KR.new kb
 clear h kb
 obtain ⟨x10,q10⟩:=H.out.place
 have hrb:=H.out.bx.lt
 have GG:Hid _:=H.out.pcs A
 have hne:rb ≠ w.heap.size:=H.out.bx.ne nb (by decide)
 go_enter Tryz.func55,Tryz.ntmps55
 go_wp2
 exact bodyPost_end (v:=.tuple #[]) (by simp [results,Tryz.results55]) rfl ⟨rfl,KB.trans GG.out.2,V,by rw [HM.out];exact GG.out.1⟩
theorem mV (h:RI W1 w rb s tv fv sv iv R V) (A B:Int) (hl:R.top.stack.length<=1000) (hp0:0<=R.top.pc) (hp1:R.top.pc<=1000) (hz:aF R.top.stack=0):Calls Tryz.prog 55 #[.pointer rb,.agg #[(14:Int),A,B]] w (aS W1 w rb s tv fv sv iv (doP c (14,A,B) R)):=by
 have HM:Hid (doP c (14,A,B) R = { R with top:={ aR R.top with pc:=A } }):=by
  show doP c (14,A,B) R=_
  simp [doP,hz]
 have kb:Chg () w (w.alloc (Obj.cells #[(14:Int),A,B] 135)):=(Chg.refl _ w).alloc _
 have nb:Blk (w.alloc (Obj.cells #[(14:Int),A,B] 135)) w.heap.size #[(14:Int),A,B] 135:=Blk.new w _ 135
 have H:=hid (h.new kb)
 have KB:=KR.new kb
 clear h kb
 go_enter Tryz.func55,Tryz.ntmps55
 go_wp2_with fail
 refine (H.out.pop (by omega)).mono ?_
 rintro ex w2 ⟨rfl,k2,V2,g2⟩
 have nb2:=k2.keep _ _ _ nb (by decide) (by decide) (by decide)
 have y1:w2.cell? ⟨w.heap.size,1,none⟩=some (.int .i64 A):=nb2.cell 1
 have hne:rb ≠ w.heap.size:=g2.bx.ne nb2 (by decide)
 have hne':=hne.symm
 have x10:w2.cell? ⟨rb,10,none⟩=some (.int .i64 R.top.pc):=g2.bx.cell 10
 have q10:=g2.bx.frozen 10
 have g3:=g2.pcs (R.top.pc+1)
 have g4:=g3.1.pcs A
 have GG:Hid _:=g4.1
 have KK:=(KB.trans k2).trans (g3.2.trans g4.2)
 rw [hz]
 clear g2 g3 g4 nb nb2 hz
 go_wp2
 exact bodyPost_end (v:=.tuple #[]) (by simp [results,Tryz.results55]) rfl ⟨rfl,KK,V2,by rw [HM.out];exact GG.out⟩
theorem mB (h:RI W1 w rb s tv fv sv iv R V) (A B:Int) (hl:R.top.stack.length<=1000) (hp0:0<=R.top.pc) (hp1:R.top.pc<=1000) (hz:¬ aF R.top.stack=0):Calls Tryz.prog 55 #[.pointer rb,.agg #[(14:Int),A,B]] w (aS W1 w rb s tv fv sv iv (doP c (14,A,B) R)):=by
 have HM:Hid (doP c (14,A,B) R = { R with top:={ aR R.top with pc:=R.top.pc+1 } }):=by
  show doP c (14,A,B) R=_
  simp [doP,hz]
 have kb:Chg () w (w.alloc (Obj.cells #[(14:Int),A,B] 135)):=(Chg.refl _ w).alloc _
 have nb:Blk (w.alloc (Obj.cells #[(14:Int),A,B] 135)) w.heap.size #[(14:Int),A,B] 135:=Blk.new w _ 135
 have H:=hid (h.new kb)
 have KB:=KR.new kb
 clear h kb
 go_enter Tryz.func55,Tryz.ntmps55
 go_wp2_with fail
 refine (H.out.pop (by omega)).mono ?_
 rintro ex w2 ⟨rfl,k2,V2,g2⟩
 have nb2:=k2.keep _ _ _ nb (by decide) (by decide) (by decide)
 have y1:w2.cell? ⟨w.heap.size,1,none⟩=some (.int .i64 A):=nb2.cell 1
 have hne:rb ≠ w.heap.size:=g2.bx.ne nb2 (by decide)
 have hne':=hne.symm
 have x10:w2.cell? ⟨rb,10,none⟩=some (.int .i64 R.top.pc):=g2.bx.cell 10
 have q10:=g2.bx.frozen 10
 have g3:=g2.pcs (R.top.pc+1)
 have GG:Hid _:=g3.1
 have KK:=(KB.trans k2).trans g3.2
 clear g2 g3 nb nb2
 go_wp2
 exact bodyPost_end (v:=.tuple #[]) (by simp [results,Tryz.results55]) rfl ⟨rfl,KK,V2,by rw [HM.out];exact GG.out⟩
theorem rI (h:RI W1 w rb s tv fv sv iv R V) (A B:Int) (hnw:W1.heap.size<=rb) (ro:∀ w,Chg (fun j=>j=rb) W1 w->Ro w tv fv sv c) (hbl:R.below.length<=1000) (hkl:R.top.stack.length<=1000) (hfl:(aq c.fs A).locals.length<=1000):Calls Tryz.prog 55 #[.pointer rb,.agg #[(15:Int),A,B]] w (aS W1 w rb s tv fv sv iv (doP c (15,A,B) R)):=by
 have HM:Hid (doP c (15,A,B) R=clP c A R):=rfl
 have kb:Chg () w (w.alloc (Obj.cells #[(15:Int),A,B] 135)):=(Chg.refl _ w).alloc _
 have nb:Blk (w.alloc (Obj.cells #[(15:Int),A,B] 135)) w.heap.size #[(15:Int),A,B] 135:=Blk.new w _ 135
 have H:=hid (h.new kb)
 have KB:=KR.new kb
 clear h kb
 have RO:=hid ro
 clear ro
 go_enter Tryz.func55,Tryz.ntmps55
 go_wp2_with fail
 refine (pZ H.out hnw RO.out A hbl hkl hfl).mono ?_
 rintro ex w2 ⟨rfl,k2,V2,g2⟩
 go_wp2
 exact bodyPost_end (v:=.tuple #[]) (by simp [results,Tryz.results55]) rfl ⟨rfl,KB.trans k2,V2,by rw [HM.out];exact g2⟩
theorem s6 (h:RI W1 w rb s tv fv sv iv R V) (A B:Int) (hkl:R.top.stack.length<=1000) (ho:R.out.length<=1000000) (hbl:R.below.length<=1000) (hfb:∀ f ∈ R.below,f.stack.length<=1000/\0<=f.pc/\f.pc<=1000):Calls Tryz.prog 55 #[.pointer rb,.agg #[(16:Int),A,B]] w (aS W1 w rb s tv fv sv iv (doP c (16,A,B) R)):=by
 have HM:Hid (doP c (16,A,B) R=gbP R):=rfl
 have kb:Chg () w (w.alloc (Obj.cells #[(16:Int),A,B] 135)):=(Chg.refl _ w).alloc _
 have nb:Blk (w.alloc (Obj.cells #[(16:Int),A,B] 135)) w.heap.size #[(16:Int),A,B] 135:=Blk.new w _ 135
 have H:=hid (h.new kb)
 have KB:=KR.new kb
 clear h kb
 have HF:=hid hfb
 clear hfb
 go_enter Tryz.func55,Tryz.ntmps55
 go_wp2_with fail
 refine (sX H.out hkl ho hbl HF.out).mono ?_
 rintro ex w2 ⟨rfl,k2,V2,g2⟩
 go_wp2
 exact bodyPost_end (v:=.tuple #[]) (by simp [results,Tryz.results55]) rfl ⟨rfl,KB.trans k2,V2,by rw [HM.out];exact g2⟩
theorem gJ (h:RI W1 w rb s tv fv sv iv R V) (op A B:Int) (hn:(op == 13)=false/\(op == 14)=false/\(op == 15)=false/\(op == 16)=false/\(op == 7)=false/\(op == 8)=false/\(op == 9)=false) (hp0:0<=R.top.pc) (hp1:R.top.pc<=1000) (huv:∀ w V,RI W1 w rb s tv fv sv iv R V->Calls Tryz.prog 83 #[.pointer rb,.agg #[op,A,B]] w (aS W1 w rb s tv fv sv iv (uvP (op,A,B) R))):Calls Tryz.prog 55 #[.pointer rb,.agg #[op,A,B]] w (aS W1 w rb s tv fv sv iv (doP c (op,A,B) R)):=by
 have HM:Hid (doP c (op,A,B) R=gO (uvP (op,A,B) R)):=by
  show doP c (op,A,B) R=_
  simp only [beq_eq_false_iff_ne,ne_eq] at hn
  obtain ⟨h1,h2,h3,h4,h5,h6,h7⟩:=hn
  simp [doP,h1,h2,h3,h4,h5,h6,h7]
 have kb:Chg () w (w.alloc (Obj.cells #[op,A,B] 135)):=(Chg.refl _ w).alloc _
 have nb:Blk (w.alloc (Obj.cells #[op,A,B] 135)) w.heap.size #[op,A,B] 135:=Blk.new w _ 135
 have H:=hid (h.new kb)
 have KB:=KR.new kb
 clear h kb
 have HUV:Hid _:=huv
 clear huv
 obtain ⟨n1,n2,n3,n4,n5,n6,n7⟩:=hn
 go_enter Tryz.func55,Tryz.ntmps55
 go_wp2_with fail
 refine (HUV.out _ _ H.out).mono ?_
 rintro ex w2 ⟨rfl,k2,V2,g2⟩
 have x10:w2.cell? ⟨rb,10,none⟩=some (.int .i64 (uvP (op,A,B) R).top.pc):=g2.bx.cell 10
 have q10:=g2.bx.frozen 10
 rw [su] at x10
 have g3:=g2.pcs (R.top.pc+1)
 have GG:Hid _:=g3.1
 have KK:=(KB.trans k2).trans g3.2
 clear g2 g3 nb
 go_wp2
 refine bodyPost_end (v:=.tuple #[]) (by simp [results,Tryz.results55]) rfl ⟨rfl,KK,V2,?_⟩
 rw [HM.out]
 show RI _ _ _ _ _ _ _ _ { uvP (op,A,B) R with top:={ (uvP (op,A,B) R).top with pc:=(uvP (op,A,B) R).top.pc+1 } } _
 rw [su]
 exact GG.out
theorem tz (h:RI W1 w rb s tv fv sv iv R V) (A B:Int) (hp0:0<=R.top.pc) (hp1:R.top.pc<=1000) (huv:∀ w V,RI W1 w rb s tv fv sv iv R V->Calls Tryz.prog 82 #[.pointer rb,.agg #[(7:Int),A,B]] w (aS W1 w rb s tv fv sv iv (urP c (7,A,B) R))):Calls Tryz.prog 55 #[.pointer rb,.agg #[(7:Int),A,B]] w (aS W1 w rb s tv fv sv iv (doP c (7,A,B) R)):=by
 have HM:Hid (doP c (7,A,B) R=gO (urP c (7,A,B) R)):=rfl
 have kb:Chg () w (w.alloc (Obj.cells #[(7:Int),A,B] 135)):=(Chg.refl _ w).alloc _
 have nb:Blk (w.alloc (Obj.cells #[(7:Int),A,B] 135)) w.heap.size #[(7:Int),A,B] 135:=Blk.new w _ 135
 have H:=hid (h.new kb)
 have KB:=KR.new kb
 clear h kb
 have HUV:Hid _:=huv
 clear huv
 go_enter Tryz.func55,Tryz.ntmps55
 go_wp2_with fail
 refine (HUV.out _ _ H.out).mono ?_
 rintro ex w2 ⟨rfl,k2,V2,g2⟩
 have x10:w2.cell? ⟨rb,10,none⟩=some (.int .i64 (urP c (7,A,B) R).top.pc):=g2.bx.cell 10
 have q10:=g2.bx.frozen 10
 rw [iI] at x10
 have g3:=g2.pcs (R.top.pc+1)
 have GG:Hid _:=g3.1
 have KK:=(KB.trans k2).trans g3.2
 clear g2 g3 nb
 go_wp2
 refine bodyPost_end (v:=.tuple #[]) (by simp [results,Tryz.results55]) rfl ⟨rfl,KK,V2,?_⟩
 rw [HM.out]
 show RI _ _ _ _ _ _ _ _ { urP c (7,A,B) R with top:={ (urP c (7,A,B) R).top with pc:=(urP c (7,A,B) R).top.pc+1 } } _
 rw [iI]
 exact GG.out
theorem sY (h:RI W1 w rb s tv fv sv iv R V) (A B:Int) (hp0:0<=R.top.pc) (hp1:R.top.pc<=1000) (huv:∀ w V,RI W1 w rb s tv fv sv iv R V->Calls Tryz.prog 82 #[.pointer rb,.agg #[(8:Int),A,B]] w (aS W1 w rb s tv fv sv iv (urP c (8,A,B) R))):Calls Tryz.prog 55 #[.pointer rb,.agg #[(8:Int),A,B]] w (aS W1 w rb s tv fv sv iv (doP c (8,A,B) R)):=by
 have HM:Hid (doP c (8,A,B) R=gO (urP c (8,A,B) R)):=rfl
 have kb:Chg () w (w.alloc (Obj.cells #[(8:Int),A,B] 135)):=(Chg.refl _ w).alloc _
 have nb:Blk (w.alloc (Obj.cells #[(8:Int),A,B] 135)) w.heap.size #[(8:Int),A,B] 135:=Blk.new w _ 135
 have H:=hid (h.new kb)
 have KB:=KR.new kb
 clear h kb
 have HUV:Hid _:=huv
 clear huv
 go_enter Tryz.func55,Tryz.ntmps55
 go_wp2_with fail
 refine (HUV.out _ _ H.out).mono ?_
 rintro ex w2 ⟨rfl,k2,V2,g2⟩
 have x10:w2.cell? ⟨rb,10,none⟩=some (.int .i64 (urP c (8,A,B) R).top.pc):=g2.bx.cell 10
 have q10:=g2.bx.frozen 10
 rw [iI] at x10
 have g3:=g2.pcs (R.top.pc+1)
 have GG:Hid _:=g3.1
 have KK:=(KB.trans k2).trans g3.2
 clear g2 g3 nb
 go_wp2
 refine bodyPost_end (v:=.tuple #[]) (by simp [results,Tryz.results55]) rfl ⟨rfl,KK,V2,?_⟩
 rw [HM.out]
 show RI _ _ _ _ _ _ _ _ { urP c (8,A,B) R with top:={ (urP c (8,A,B) R).top with pc:=(urP c (8,A,B) R).top.pc+1 } } _
 rw [iI]
 exact GG.out
theorem sO (h:RI W1 w rb s tv fv sv iv R V) (A B:Int) (hp0:0<=R.top.pc) (hp1:R.top.pc<=1000) (huv:∀ w V,RI W1 w rb s tv fv sv iv R V->Calls Tryz.prog 82 #[.pointer rb,.agg #[(9:Int),A,B]] w (aS W1 w rb s tv fv sv iv (urP c (9,A,B) R))):Calls Tryz.prog 55 #[.pointer rb,.agg #[(9:Int),A,B]] w (aS W1 w rb s tv fv sv iv (doP c (9,A,B) R)):=by
 have HM:Hid (doP c (9,A,B) R=gO (urP c (9,A,B) R)):=rfl
 have kb:Chg () w (w.alloc (Obj.cells #[(9:Int),A,B] 135)):=(Chg.refl _ w).alloc _
 have nb:Blk (w.alloc (Obj.cells #[(9:Int),A,B] 135)) w.heap.size #[(9:Int),A,B] 135:=Blk.new w _ 135
 have H:=hid (h.new kb)
 have KB:=KR.new kb
 clear h kb
 have HUV:Hid _:=huv
 clear huv
 go_enter Tryz.func55,Tryz.ntmps55
 go_wp2_with fail
 refine (HUV.out _ _ H.out).mono ?_
 rintro ex w2 ⟨rfl,k2,V2,g2⟩
 have x10:w2.cell? ⟨rb,10,none⟩=some (.int .i64 (urP c (9,A,B) R).top.pc):=g2.bx.cell 10
 have q10:=g2.bx.frozen 10
 rw [iI] at x10
 have g3:=g2.pcs (R.top.pc+1)
 have GG:Hid _:=g3.1
 have KK:=(KB.trans k2).trans g3.2
 clear g2 g3 nb
 go_wp2
 refine bodyPost_end (v:=.tuple #[]) (by simp [results,Tryz.results55]) rfl ⟨rfl,KK,V2,?_⟩
 rw [HM.out]
 show RI _ _ _ _ _ _ _ _ { urP c (9,A,B) R with top:={ (urP c (9,A,B) R).top with pc:=(urP c (9,A,B) R).top.pc+1 } } _
 rw [iI]
 exact GG.out
theorem pS (h:RI W1 w rb s tv fv sv iv R V) (hnw:W1.heap.size<=rb) (ro:∀ w,Chg (fun j=>j=rb) W1 w->Ro w tv fv sv c) (hin:∀ w,Chg (fun j=>j=rb) W1 w->RdA w iv R.inp) (x:Int × Int × Int) (hd:DoH c x R) (ho:R.out.length<=1000000) (hu:R.used<=1000000) (hr:x.1=18->R.used < R.inp.length) :
 Calls Tryz.prog 55 #[.pointer rb,.agg #[x.1,x.2.1,x.2.2]] w (aS W1 w rb s tv fv sv iv (doP c x R)):=by
 obtain ⟨op,A,B⟩:=x
 have hop:=hd.op
 have hkl:=hd.rb.tb.kl
 have hp:=hd.pc
 have hb1:=hd.rb.bl
 simp only at hop hr ⊢
 have hc:op=0 \/ (op=1 \/ op=2 \/ op=3 \/ op=4 \/ op=12) \/ op=5 \/ op=6 \/ op=7 \/ op=8 \/ op=9 \/ op=10 \/ op=11 \/ op=13 \/ op=14 \/ op=15 \/ op=16 \/ op=17 \/ op=18:=by omega
 rcases hc with rfl | q | rfl | rfl | rfl | rfl | rfl | rfl | rfl | rfl | rfl | rfl | rfl | rfl | rfl
 ·exact gJ h _ _ _ (by decide) hp.1 hp.2 (fun w V g=>rz g A B hkl)
 ·refine gJ h _ _ _ (by simp only [beq_eq_false_iff_ne,ne_eq];omega) hp.1 hp.2 (fun w V g=>sK g op A B q hkl (fO hd.rb.tb.kv) (fO (l9 hd.rb.tb.kv)))
 ·exact gJ h _ _ _ (by decide) hp.1 hp.2 (fun w V g=>qY g A B hkl)
 ·exact gJ h _ _ _ (by decide) hp.1 hp.2 (fun w V g=>ph g A B hkl (hd.sto rfl).1 (hd.sto rfl).2)
 ·exact tz h _ _ hp.1 hp.2 (fun w V g=>tG g ro hd.rb A B)
 ·exact sY h _ _ hp.1 hp.2 (fun w V g=>th g hd.rb.tb A B (hd.fld (.inl rfl)).1 (hd.fld (.inl rfl)).2)
 ·exact sO h _ _ hp.1 hp.2 (fun w V g=>tQ g hd.rb.tb A B (hd.fld (.inr rfl)).1 (hd.fld (.inr rfl)).2 (hd.set rfl))
 ·exact gJ h _ _ _ (by decide) hp.1 hp.2 (fun w V g=>rS g A B hkl)
 ·exact gJ h _ _ _ (by decide) hp.1 hp.2 (fun w V g=>tV g A B hkl)
 ·exact qT h A B
 ·by_cases hz:aF R.top.stack=0
  ·exact mV h A B hkl hp.1 hp.2 hz
  ·exact mB h A B hkl hp.1 hp.2 hz
 ·exact rI h A B hnw ro hb1 hkl (hd.fnl A)
 ·exact s6 h A B hkl ho hb1 (fun f hf=>⟨(hd.rb.fb f hf).kl,(hd.bpc f hf).1,(hd.bpc f hf).2⟩)
 ·exact gJ h _ _ _ (by decide) hp.1 hp.2 (fun w V g=>nM g A B hkl ho)
 ·exact gJ h _ _ _ (by decide) hp.1 hp.2 (fun w V g=>rR g A B hkl hu hin (hr rfl))
end
end Go.Proofs.YtnfnbcbadakofaaGreat
