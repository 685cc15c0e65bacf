import Derived.Test.YtnfnbcbadakofaaGreatGbk
import Derived.Deep.RegionLaw
namespace Go.Proofs.YtnfnbcbadakofaaGreat
open Go.RowKit
set_option maxHeartbeats 4000000
set_option maxRecDepth 100000
theorem lT:∃ i:TypeInfo,Tryz.prog.info? 60=some i/\i.zero=some (.agg #[oO,oO,(),()])/\i.size=4/\i.bytes=64:=cO (by kernel_rfl)
section
variable {W1 w:World} {rb:Nat} {s:ByteArray} {tv fv sv iv:Value} {R:Rn} {V:RV} {c:Cx}
theorem rO (h:W1.heap.size<=rb):cT (fun j=>j=rb) W1:=fun j cs e hb q=>by have:=hb.lt;omega
theorem tx (s:ByteArray) (tv fv sv iv:Value) (R:Rn) (V:RV) (f:Fr) (lu ku bv':Value) (bs:List Fr) (ys:List (Fr × Value × Value)) :
 (((((rcs s tv fv sv iv R V).setIfInBounds 8 bv').setIfInBounds 9 (.int .i64 f.fn)).setIfInBounds 10 (.int .i64 f.pc)).setIfInBounds 11 lu).setIfInBounds 12 ku=rcs s tv fv sv iv { R with below:=bs,top:=f } ⟨V.wv,bv',lu,ku,V.ov,ys⟩:=by simp [rcs]
theorem uI {w:World} {v0 v1 v2 v3:Value} {e:TypeId}:∀ j u,[v0,v1,v2,v3][j]?=some u->(w.alloc (Obj.cells #[v0,v1,v2,v3] e)).cell? ((⟨w.heap.size,0,none⟩:Addr).add j)=some u:=by
 intro j u hj
 have hadd:(⟨w.heap.size,0,none⟩:Addr).add j=⟨w.heap.size,j,none⟩:=by unfold Addr.add;split <;> simp_all
 rw [hadd,(Blk.new w #[v0,v1,v2,v3] e).cell j]
 simpa using hj
structure oE (W1 w w':World) (rb:Nat) (s:ByteArray) (tv fv sv iv:Value) (R:Rn) (V:RV) (bv':Value):Prop where
 bx:Blk w' rb (rcs s tv fv sv iv R V) 62
 ch:Chg (fun j=>some j=V.bv.ownBlock) w w'
 row:w'.ownsRow W1.heap.size 60 4 bv' (V.xs.length+1) (frC (V.xs++[(R.top,V.lv,V.kv)]))
theorem RI.rowApp {w':World} (h:RI W1 w rb s tv fv sv iv R V) {bv':Value} (hgrow:w.grownBy w' V.bv.ownBlock) (hown:w'.ownsRow W1.heap.size 60 4 bv' (V.xs.length+1) (frC V.xs++[.int .i64 R.top.fn,.int .i64 R.top.pc,V.lv,V.kv])):oE W1 w w' rb s tv fv sv iv R V bv':=by
 have k:Chg (fun j=>some j=V.bv.ownBlock) w w':=(aM hgrow).mono (fun _ _ q=>q)
 exact ⟨h.bx.chg k (fun q=>ao h.bb h.bx (by decide) q.symm),k,by rw [jY];exact hown⟩
theorem mH (h:RI W1 w rb s tv fv sv iv R V) (f:Int) (hd:R.depth<=(R.below.length:Int)+1) (hbl:R.below.length<=1000):Calls Tryz.prog 80 #[.pointer rb,f] w (aS W1 w rb s tv fv sv iv (clP c f R)):=by
 have HM:Hid (clP c f R = { R with status:=5 }):=if_pos hd
 obtain ⟨_,_,x6,q6⟩:=h.wrap
 have x5:w.cell? ⟨rb,5,none⟩=some (.int .i64 R.depth):=h.bx.cell 5
 have x8:w.cell? ⟨rb,8,none⟩=some V.bv:=h.bx.cell 8
 obtain ⟨ba,bc,hbv⟩:=cF h.bb
 have hxl:V.xs.length=R.below.length:=by rw [<-h.be,List.length_map]
 rw [hbv,hxl] at x8
 have H:=hid h
 clear h hbv hxl
 go_enter Tryz.func80,Tryz.ntmps80
 go_wp2_with fail
 go_quiet (fail)
 have G2:=H.out.new ((Chg.refl _ w).drewN nq)
 have K2:KR w (w.drewN nq):=KR.new ((Chg.refl _ w).drewN nq)
 have x6':(w.drewN nq).cell? ⟨rb,6,none⟩=some (.int .i64 R.status):=x6
 have q6':(w.drewN nq).frozen? ⟨rb,6,none⟩=false:=q6
 clear x6 q6 x5 x8
 generalize w.drewN nq=W' at *
 have GG:Hid _:=G2.stat 5
 clear G2
 go_wp2
 exact bodyPost_ret (v:=.tuple #[]) (by simp [results,Tryz.results80]) rfl ⟨rfl,K2.trans GG.out.2,V,by rw [HM.out];exact GG.out.1⟩
theorem rD (h:RI W1 w rb s tv fv sv iv R V) (hnw:W1.heap.size<=rb) (ro:∀ w,Chg (fun j=>j=rb) W1 w->Ro w tv fv sv c) (f:Int) (hd:¬ R.depth<=(R.below.length:Int)+1) (hbl:R.below.length<=1000) (hkl:R.top.stack.length<=1000) (hfl:(aq c.fs f).locals.length<=1000):Calls Tryz.prog 80 #[.pointer rb,f] w (aS W1 w rb s tv fv sv iv (clP c f R)):=by
 have HM:Hid (clP c f R = { R with below:=R.below++[{ R.top with stack:=dw R.top.stack (aP c.fs f).length }],top:=dZ f (aq c.fs f) (cS R.top.stack (aP c.fs f).length) }):=if_neg hd
 have x2:w.cell? ⟨rb,2,none⟩=some fv:=h.bx.cell 2
 have x5:w.cell? ⟨rb,5,none⟩=some (.int .i64 R.depth):=h.bx.cell 5
 have x8:w.cell? ⟨rb,8,none⟩=some V.bv:=h.bx.cell 8
 obtain ⟨ba,bc,hbv⟩:=cF h.bb
 have hxl:V.xs.length=R.below.length:=by rw [<-h.be,List.length_map]
 rw [hbv,hxl] at x8
 have ro:=ro W1 (Chg.refl _ _)
 have hOF:cT (fun j=>j=rb) W1:=rO hnw
 obtain ⟨la,lc,ca,cc,hL,_,hfa⟩:=dr hOF fv c.fs f 0 ro.fu
 obtain ⟨fa,fc,hfv⟩:=ro.fu.slice
 generalize c.fs.length=fln at hfv
 subst hfv
 have HFA:Hid _:=hfa
 have HL:=hid hL
 have HOF:=hid hOF
 have H:=hid h
 have HAE:Hid (aP c.fs f=bT (aq c.fs f).locals (aq c.fs f).args):=fY _ _
 clear h hfa hL ro hbv hOF
 generalize aq c.fs f=fn at *
 go_enter Tryz.func80,Tryz.ntmps80
 go_wp2_with fail
 go_quiet (fail)
 have kd:=(Chg.refl () w).drewN nq
 have G1:=H.out.new kd
 have x2':(w.drewN nq).cell? ⟨rb,2,none⟩=some (.slice fa fln fc):=x2
 clear x2 x5 x8
 generalize w.drewN nq=wd at *
 have KD:=hid kd
 have G1:Hid _:=G1
 clear kd
 go_wp2_with fail
 refine (HFA.out wd G1.out.ch).mono ?_
 rintro ex w1 ⟨rfl,k1⟩
 have k2:Chg () w (w1.alloc (Obj.cells #[fn.args,.slice la fn.locals.length lc,fn.result,.slice ca fn.code.length cc] 111)):=(KD.out.trans k1).alloc _
 have nb:=Blk.new w1 #[.int .i64 fn.args,.slice la fn.locals.length lc,.int .i64 fn.result,.slice ca fn.code.length cc] 111
 clear KD HFA x2' k1 G1
 go_wp2_with fail
 generalize w1.alloc (Obj.cells #[fn.args,.slice la fn.locals.length lc,fn.result,.slice ca fn.code.length cc] 111)=W at *
 generalize w1.heap.size=xb at *
 obtain ⟨y0,y1,y2,y3,_,_,_,_⟩:=aL nb
 have G:=hid (H.out.new k2)
 have HL2:Hid (ad W 0 (.slice la fn.locals.length lc) fn.locals):=HOF.out.ints G.out.ch HL.out
 have NB:=hid nb
 have K2:=hid (KR.new k2)
 clear k2 H nb
 have hal:(bT fn.locals fn.args).length<=1000:=by
  unfold bT;split
  ·simp
  ·rw [List.length_take];omega
 go_region_with (first
  | (go_at_call 93;refine (io (.slice la fn.locals.length lc) fn ca fn.code.length cc _ 0 (aA HL2.out)).mono ?_;rintro ex w2 ⟨u,rfl,hu,k3⟩;obtain ⟨ua,uc,rfl⟩:=hu.slice)
  | (go_at_call 94;refine ((G.out.drew.new k3).popAll (bT fn.locals fn.args).length (by omega) (by omega)).mono ?_;rintro ex w3 ⟨uu,V2,rfl,huu,hsu,k4,g4⟩;obtain ⟨ea,ec,rfl⟩:=huu.slice))
 have nb3:=k4.keep _ _ _ (NB.out.drew.chg k3 (fun q=>q)) (by decide) (by decide) (by decide)
 have K3:KR w w3:=(K2.out.trans (KR.new ((Chg.refl _ W).drew.trans k3))).trans k4
 have hxb:V2.xs.length<=1000:=by rw [<-List.length_map (f:=(·.1)),show V2.xs.map (·.1)=R.below from g4.be];exact hbl
 clear y0 y1 y2 y3 k3 k4 hu hsu NB K2 G HL2
 rw [<-HAE.out] at g4 huu ⊢
 generalize hnn:(aP c.fs f).length=nn at *
 have HPL:Hid ((cS R.top.stack nn).length<=1000):=by
  show (cS R.top.stack nn).length<=1000
  unfold cS;split
  ·simp
  ·rw [List.length_drop];omega
 generalize cS R.top.stack nn=PN at *
 generalize hRN:dw R.top.stack nn=RN at *
 obtain ⟨T,hT⟩:∃ t:Fr,({ R.top with stack:=RN }:Fr)=t:=⟨_,rfl⟩
 rw [hT] at HM g4
 obtain ⟨i,hi1,hi2,hi3,hi4⟩:=lT
 have Hi1:Hid _:=hi1
 have Hi2:Hid _:=hi2
 have Hi3:Hid _:=hi3
 have Hi4:Hid _:=hi4
 clear hi1 hi2 hi3 hi4
 obtain ⟨b2,bc2,hbv2⟩:=cF g4.bb
 obtain ⟨l2,lc2,hlv2⟩:=g4.ll.slice
 obtain ⟨k2,kc2,hkv2⟩:=g4.kk.slice
 have x8:w3.cell? ⟨rb,8,none⟩=some V2.bv:=g4.bx.cell 8
 have x9:w3.cell? ⟨rb,9,none⟩=some (.int .i64 T.fn):=g4.bx.cell 9
 have x10:w3.cell? ⟨rb,10,none⟩=some (.int .i64 T.pc):=g4.bx.cell 10
 have x11:w3.cell? ⟨rb,11,none⟩=some V2.lv:=g4.bx.cell 11
 have x12:w3.cell? ⟨rb,12,none⟩=some V2.kv:=g4.bx.cell 12
 rw [hbv2] at x8
 change V2.lv=.slice l2 T.locals.length lc2 at hlv2
 change V2.kv=.slice k2 T.stack.length kc2 at hkv2
 rw [hlv2] at x11
 rw [hkv2] at x12
 have hrb:=g4.bx.lt
 have hn3:rb ≠ w3.heap.size:=Nat.ne_of_lt hrb
 have hn3':=hn3.symm
 have j1:Chg () w3 (w3.alloc (Obj.cells #[T.fn,T.pc,.slice l2 T.locals.length lc2,.slice k2 T.stack.length kc2] 60)).drew:=((Chg.refl _ w3).alloc _).drew
 have G5:=hid (g4.new j1)
 have HROW:Hid ((w3.alloc (Obj.cells #[T.fn,T.pc,.slice l2 T.locals.length lc2,.slice k2 T.stack.length kc2] 60)).drew.ownsRow W1.heap.size 60 4 (.slice b2 V2.xs.length bc2) V2.xs.length (frC V2.xs)):=by
  show World.ownsRow _ _ _ _ _ _ _
  rw [<-hbv2];exact G5.out.bb
 have HNW:Hid (∀ j u,[Value.int .i64 T.fn,.int .i64 T.pc,.slice l2 T.locals.length lc2,.slice k2 T.stack.length kc2][j]?=some u->(w3.alloc (Obj.cells #[T.fn,T.pc,.slice l2 T.locals.length lc2,.slice k2 T.stack.length kc2] 60)).drew.cell? ((⟨w3.heap.size,0,none⟩:Addr).add j)=some u):=uI
 have hb3:W1.heap.size<=w3.heap.size:=g4.base
 have HUU:=hid huu
 have NB3:=hid nb3
 have K3':=hid K3
 clear g4 huu nb3 K3
 go_wp2
 go_region_law (refine step_append_lies _ rfl (.tmp 38) (.tmp 43) 58 rfl W1.heap.size 60 i (.agg #[oO,oO,(),()]) 4 64 Tryz.underlying58 Hi1.out Hi2.out Hi3.out Hi4.out rfl (by decide) (.slice b2 V2.xs.length bc2) V2.xs.length (frC V2.xs) (by simp [Act.eval]) (by exact HROW.out) ⟨w3.heap.size,0,none⟩ 1 1 [.int .i64 T.fn,.int .i64 T.pc,.slice l2 T.locals.length lc2,.slice k2 T.stack.length kc2] (by simp [Act.eval]) rfl (by exact HNW.out) (by intro u hu;simp only [List.mem_cons,List.not_mem_nil,or_false] at hu;rcases hu with rfl | rfl | rfl | rfl <;> rfl) (by decide) (by unfold maxLen;omega) (by omega) (by simp;omega) (w3.heap.size+1) (by simp) ?_;intro g cap2 w4 hown hgrow hat hlt4;have hra:Hid (oE W1 (w3.alloc (Obj.cells #[T.fn,T.pc,.slice l2 T.locals.length lc2,.slice k2 T.stack.length kc2] 60)).drew w4 rb s tv (.slice fa fln fc) sv iv { R with top:=T } V2 (.slice g (V2.xs.length+1) cap2)):=G5.out.rowApp (by rw [hbv2];exact hgrow) (by rw [hlv2,hkv2];exact hown);have y8:w4.cell? ⟨rb,8,none⟩=some (.slice b2 V2.xs.length bc2):=(hra.out.bx.cell 8).trans (by rw [<-hbv2];rfl);have f8:=hra.out.bx.frozen 8)
 all_goals
  clear x8 x9 x10 x11 x12 hn3 hn3' HROW HNW Hi1 Hi2 Hi3 Hi4 hat hgrow hown y8 f8
  generalize hbn:Value.slice g (V2.xs.length+1) cap2=bn at hra ⊢
  have k5:Chg (Cst rb V2.bv) (w3.alloc (Obj.cells #[T.fn,T.pc,.slice l2 T.locals.length lc2,.slice k2 T.stack.length kc2] 60)).drew (w4.setCell ⟨rb,8,none⟩ bn):=(hra.out.ch.mono (fun _ _ q=>.inr q)).setCell _ _ (.inl (.inl rfl))
  have b5:=hra.out.bx.set 8 bn
  have row5:=aH hra.out.row ⟨rb,8,none⟩ bn (ao hra.out.row hra.out.bx (by decide))
  have hS5:=G5.out.onlyF
  have C5:Chg (fun j=>j=rb) W1 (w4.setCell ⟨rb,8,none⟩ bn):=G5.out.ch.trans' k5 (fun i hi q=>by
   rcases q with q | q
   ·exact q
   ·have:=kj G5.out.bb q.symm;omega)
  have HL5:Hid (ad (w4.setCell ⟨rb,8,none⟩ bn) 0 (.slice la fn.locals.length lc) fn.locals):=HOF.out.ints C5 HL.out
  have HU5:Hid (ad (w4.setCell ⟨rb,8,none⟩ bn) w2.heap.size (.slice ea PN.length ec) PN):=hS5.ints k5 (af HUU.out j1 (fun _ _ q=>q))
  have NB5:=(NB3.out.chg j1 (fun q=>q)).chg k5 (fun q=>by rcases hS5 _ _ _ (NB3.out.chg j1 (fun q=>q)) q with r | r <;> exact absurd r (by decide))
  have hsz5:w3.heap.size<=(w4.setCell ⟨rb,8,none⟩ bn).heap.size:=Nat.le_trans j1.size k5.size
  clear hra
  generalize w4.setCell ⟨rb,8,none⟩ bn=w5 at *
  obtain ⟨y0,y1,y2,y3,_,_,_,_⟩:=aL NB5
  have K5:=hid k5
  have B5:=hid b5
  have ROW5:=hid row5
  have J1:=hid (KR.new j1)
  clear k5 b5 row5 hS5 C5 NB5 j1 NB3 HUU HL HOF
  have hpl:=HPL.out
  go_wp2_with fail
  refine (gG f fn (.slice la fn.locals.length lc) ca fn.code.length cc (.slice ea PN.length ec) PN _ 0 HL5.out HU5.out.rdI (by omega) (by omega)).mono ?_
  rintro ex w6 ⟨v,rfl,hv,k6⟩
  obtain ⟨va,vc,rfl⟩:=hv.slice
  have b6:=B5.out.chg k6 (fun q=>q)
  have r9:∃ u,w6.cell? ⟨rb,9,none⟩=some u:=⟨_,b6.cell 9⟩
  have r10:∃ u,w6.cell? ⟨rb,10,none⟩=some u:=⟨_,b6.cell 10⟩
  have r11:∃ u,w6.cell? ⟨rb,11,none⟩=some u:=⟨_,b6.cell 11⟩
  have r12:∃ u,w6.cell? ⟨rb,12,none⟩=some u:=⟨_,b6.cell 12⟩
  obtain ⟨u9,r9⟩:=r9
  obtain ⟨u10,r10⟩:=r10
  obtain ⟨u11,r11⟩:=r11
  obtain ⟨u12,r12⟩:=r12
  have q9:=b6.frozen 9
  have q10:=b6.frozen 10
  have q11:=b6.frozen 11
  have q12:=b6.frozen 12
  have k7:Chg (fun j=>j=rb) w6 ((((w6.setCell ⟨rb,9,none⟩ f).setCell ⟨rb,10,none⟩ oO).setCell ⟨rb,11,none⟩ (Value.slice va (dZ f fn PN).locals.length vc)).setCell ⟨rb,12,none⟩ ()):=((((Chg.refl (fun j=>j=rb) _).setCell ⟨rb,_,none⟩ _ (.inl rfl)).setCell ⟨rb,_,none⟩ _ (.inl rfl)).setCell ⟨rb,_,none⟩ _ (.inl rfl)).setCell ⟨rb,_,none⟩ _ (.inl rfl)
  have b7:=(((b6.set 9 (.int .i64 f)).set 10 (.int .i64 0)).set 11 (Value.slice va (dZ f fn PN).locals.length vc)).set 12 (.slice none 0 0)
  have e7:=tx s tv (.slice fa fln fc) sv iv { R with top:=T } V2 (dZ f fn PN) (Value.slice va (dZ f fn PN).locals.length vc) (.slice none 0 0) bn (R.below++[T]) (V2.xs++[(T,V2.lv,V2.kv)])
  change (((((rcs s tv (.slice fa fln fc) sv iv { R with top:=T } V2).setIfInBounds 8 bn).setIfInBounds 9 (.int .i64 f)).setIfInBounds 10 (.int .i64 0)).setIfInBounds 11 (Value.slice va (dZ f fn PN).locals.length vc)).setIfInBounds 12 (.slice none 0 0)=_ at e7
  rw [e7] at b7
  have row6:=af ROW5.out k6 (fun _ _ q=>q)
  have row7:=af row6 k7 (fun g hg q=>ao row6 b6 (by decide) (by rw [hg,q]))
  have hv7:=af hv k7 (fun g hg q=>ao hv b6 (by decide) (by rw [hg,q]))
  have FIN:=G5.out.down (f:=dZ f fn PN) (lu:=(Value.slice va (dZ f fn PN).locals.length vc)) (bv':=bn) rfl ((K5.out.trans k6.ofNew).trans (k7.mono (fun _ _ q=>.inl q))) b7 row7 (am hv7 K5.out.size)
  have FINK:=FIN.2
  have FINR:Hid (RI W1 _ rb s tv (.slice fa fln fc) sv iv _ _):=FIN.1
  clear FIN
  clear k7 b7 e7 row6 row7 hv7 hv b6 k6
  go_wp2
  refine bodyPost_end (v:=.tuple #[]) (by simp [results,Tryz.results80]) rfl ⟨rfl,K3'.out.trans (J1.out.trans FINK),⟨V2.wv,bn,.slice va (dZ f fn PN).locals.length vc,.slice none 0 0,V2.ov,V2.xs++[(T,V2.lv,V2.kv)]⟩,?_⟩
  rw [HM.out]
  exact FINR.out
theorem pZ (h:RI W1 w rb s tv fv sv iv R V) (hnw:W1.heap.size<=rb) (ro:∀ w,Chg (fun j=>j=rb) W1 w->Ro w tv fv sv c) (f:Int) (hbl:R.below.length<=1000) (hkl:R.top.stack.length<=1000) (hfl:(aq c.fs f).locals.length<=1000):Calls Tryz.prog 80 #[.pointer rb,f] w (aS W1 w rb s tv fv sv iv (clP c f R)):=by
 by_cases hd:R.depth<=(R.below.length:Int)+1
 ·exact mH h f hd hbl
 ·exact rD h hnw ro f hd hbl hkl hfl
end
end Go.Proofs.YtnfnbcbadakofaaGreat
