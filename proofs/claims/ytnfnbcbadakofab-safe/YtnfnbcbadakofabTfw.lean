import Derived.Test.YtnfnbcbadakofabTfr
namespace Go.Proofs.Ytnfnbcbadakofab
open Go.RowKit
section
variable {W0 w w':World} {tb:Nat} {img:ByteArray} {nv tv fv sv rv:Value} {ns rs:List Int} {s s':Nat × Bool} {R R':Rn} {V:RV} {c:Cx}
set_option maxHeartbeats 2000000 in
set_option maxRecDepth 100000 in
theorem takeFrame_w (h:TI W0 w tb img nv tv fv sv ns s R V rv rs) (ro:Ro W0 tv fv sv c) (cb:CxB c) (f:Int) :
 Calls Try.prog 57 #[.pointer tb,f,.bool true] w (TfEnd W0 w tb img nv tv fv sv ns (tfP c ns rs f true s) R V rv rs):=by
 obtain ⟨A,hA⟩:∃ a,tk ns 0 (((fnAt c.fs f).code.length:Int) - 1) s=a:=⟨_,rfl⟩
 obtain ⟨KS,hKS⟩:∃ a,frontP (skP c.sps f A.1) (((skP c.sps f A.1).length:Int) - ((ahead c.ls c.fs (fnAt c.fs f) (insP (fnAt c.fs f) A.1).1 (insP (fnAt c.fs f) A.1).2.1 (insP (fnAt c.fs f) A.1).2.2).length:Int))=a:=⟨_,rfl⟩
 obtain ⟨BD,hBD⟩:∃ a,(!(spP c.sps f A.1).isSome || decide ((insP (fnAt c.fs f) A.1).1 ≠ 15))=a:=⟨_,rfl⟩
 obtain ⟨LL,hLL⟩:∃ a,tvP ns rs (fnAt c.fs f).locals (A.2.1,A.2.2 || BD)=a:=⟨_,rfl⟩
 obtain ⟨KK,hKK⟩:∃ a,tvP ns rs KS LL.2=a:=⟨_,rfl⟩
 have eT:tfP c ns rs f true s=(⟨f,A.1,LL.1,KK.1⟩,KK.2):=by
  have hKS':=hKS
  unfold skP at hKS'
  unfold tfP
  simp only [hA,Bool.true_and,if_true]
  rw [hBD,hLL,hKS',hKK]
 rw [eT]
 clear eT
 have hrow:∀ g,V.bv.ownBlock=some g->g < w.heap.size:=fun g hg=>by obtain ⟨cs,hb⟩:=own_blk h.bb hg;exact hb.lt
 obtain ⟨ra,rc,hrv⟩:=h.rr.slice
 subst hrv
 obtain ⟨la,lc,ca,cc,hL,hC,hfa⟩:=funcAt_ro (S:=fun _=>False) (W2:=W0) (fun _ _ _ _ q=>q.elim) fv c.fs f 0 ro.fu
 obtain ⟨ya,yc,hY,hsp⟩:=spotAt_ro (S:=fun _=>False) (W2:=W0) (fun _ _ _ _ q=>q.elim) sv c.sps f A.1 0 ro.sp
 obtain ⟨ta,tc,htv⟩:=ro.ty.slice
 obtain ⟨fa,fc,hfv⟩:=ro.fu.slice
 obtain ⟨sa,sc,hsv⟩:=ro.sp.slice
 have HTY:Hid (TypesV W0 0 tv c.ls):=ro.ty
 have HFU:Hid (FuncsV 78 93 W0 0 fv c.fs):=ro.fu
 have hsk:=cb.sk f A.1
 have hah:=cb.ah f A.1
 have hfl:=cb.fl f
 have hfc:=cb.fc f
 have hop:=cb.op f A.1
 have hlsn:=cb.ls
 have HLSN:Hid (c.ls.length<=10000):=cb.ls
 clear hlsn
 generalize c.ls.length=tn at htv
 generalize c.fs.length=fln at hfv
 generalize c.sps.length=sn at hsv
 subst htv hfv hsv
 obtain ⟨x,hx⟩:∃ a,insP (fnAt c.fs f) A.1=a:=⟨_,rfl⟩
 simp only [hx] at hah hop hKS hBD
 generalize skP c.sps f A.1=SK at *
 generalize hys:(spP c.sps f A.1).isSome=ys at *
 generalize fnAt c.fs f=fn at *
 have H:=hid h
 have HA:=hid hA
 have HKS:=hid hKS
 have HBD:=hid hBD
 have HLL:=hid hLL
 have HKK:=hid hKK
 have HL:=hid hL
 have HC:=hid hC
 have HX:=hid hx
 have HY:=hid hY
 have HFA:=hid hfa
 have HSP:=hid hsp
 have HROW:=hid hrow
 clear h hA hKS hBD hLL hKK hL hC hx hY hfa hsp hrow hys ro cb
 have HBASE:Hid (W0.heap.size<=w.heap.size):=H.out.base
 have x5:w.cell? ⟨tb,5,none⟩=some (.slice fa fln fc):=H.out.bx.cell 5
 have htl:=H.out.bx.lt
 have kA:Chg () w (w.alloc (Obj.cells #[oO,oO,(),()] 63)):=(Chg.refl _ w).alloc _
 have HA1:=hid (H.out.new kA)
 have BX1:Blk (w.alloc (Obj.cells #[oO,oO,(),()] 63)) w.heap.size #[oO,oO,(),()] 63:=Blk.new w _ 63
 go_enter Try.func57,Try.ntmps57
 go_wp2_with fail
 refine (HFA.out _ HA1.out.ch).mono ?_
 rintro ex w1 ⟨rfl,k1⟩
 have k2:Chg () (w.alloc (Obj.cells #[oO,oO,(),()] 63)) (w1.alloc (Obj.cells #[fn.args,.slice la fn.locals.length lc,fn.result,.slice ca fn.code.length cc] 78)):=k1.alloc _
 have nF:=Blk.new w1 #[.int .i64 fn.args,.slice la fn.locals.length lc,.int .i64 fn.result,.slice ca fn.code.length cc] 78
 clear x5
 go_wp2_with fail
 generalize w1.alloc (Obj.cells #[fn.args,.slice la fn.locals.length lc,fn.result,.slice ca fn.code.length cc] 78)=W2 at *
 generalize w1.heap.size=fb at *
 have H2:=hid (HA1.out.new k2)
 have BX2:=BX1.chg k2 (fun q=>q)
 have K2:=hid (kA.trans k2)
 obtain ⟨y0,y1,y2,y3,_,_,_,_⟩:=cells4 nF
 clear k1 k2 kA BX1 HA1 HFA
 have hwr:IntKind.i64.wrap ((fn.code.length:Int) - 1)=(fn.code.length:Int) - 1:=by rw [IntKind.wrap_i64];omega
 go_region_with (go_at_call 53;refine ((H2.out.new ((Chg.refl _ W2).drew)).take 0 ((fn.code.length:Int) - 1)).mono ?_;rw [HA.out];rintro ex w3 ⟨rfl,hT3,k3⟩)
 have nF3:=nF.drew.chg k3 (nF.ne H2.out.bx (by decide))
 have BX3:=BX2.drew.chg k3 (BX2.ne H2.out.bx (by decide))
 have H3:=hid hT3
 have K3:Hid (Chg (fun j=>j=tb) w w3):=(K2.out.drew.ofNew).trans k3
 clear y0 y1 y2 y3 hT3 k3 nF BX2 H2 K2 HA H
 obtain ⟨y0,y1,y2,y3,_,_,_,_⟩:=cells4 nF3
 have HI3:Hid _:=insAt_any (.slice la fn.locals.length lc) (.slice ca fn.code.length cc) fn A.1 w3 0 0 (own_chg HL.out H3.out.ch (fun _ _ q=>q)) (own_chg HC.out H3.out.ch (fun _ _ q=>q))
 rw [HX.out] at HI3
 clear HX
 go_wp2_with fail
 refine (Calls.mono HI3.out ?_)
 rintro ex w4 ⟨rfl,k4⟩
 have k5:Chg () w3 (w4.alloc (Obj.cells #[x.1,x.2.1,x.2.2] 93)):=k4.alloc _
 have nN:=Blk.new w4 #[.int .i64 x.1,.int .i64 x.2.1,.int .i64 x.2.2] 93
 have x6:(w4.alloc (Obj.cells #[x.1,x.2.1,x.2.2] 93)).cell? ⟨tb,6,none⟩=some (.slice sa sn sc):=(H3.out.bx.chg k5 (fun q=>q)).cell 6
 have C5:Chg () W0 (w4.alloc (Obj.cells #[x.1,x.2.1,x.2.2] 93)):=H3.out.ch.trans k5
 clear y0 y1 y2 y3 HI3 k4
 go_wp2_with fail
 refine (HSP.out _ C5).mono ?_
 rintro ex w6 ⟨rfl,k6⟩
 obtain ⟨AH,hAH⟩:∃ a,(ahead c.ls c.fs fn x.1 x.2.1 x.2.2)=a:=⟨_,rfl⟩
 rw [hAH] at HKS hah
 have HAH:=hid hAH
 clear hAH
 generalize w4.heap.size=nb at *
 cases ys with
 | true =>
  have k7:Chg () w3 (w6.alloc (Obj.cells #[.bool true,.slice ya SK.length yc] 125)):=(k5.trans k6).alloc _
  have nP:=Blk.new w6 #[.bool true,.slice ya SK.length yc] 125
  have nN7:=nN.chg (k6.alloc (Obj.cells #[.bool true,.slice ya SK.length yc] 125)) (fun q=>q)
  have BS:Hid (Bxs (w6.alloc (Obj.cells #[.bool true,.slice ya SK.length yc] 125)) w.heap.size fb nb w6.heap.size fn (.slice la fn.locals.length lc) (.slice ca fn.code.length cc) x true (.slice ya SK.length yc)):=⟨BX3.chg k7 (fun q=>q),nF3.chg k7 (fun q=>q),nN7,nP⟩
  have H7:=hid (H3.out.new k7)
  have K7:=hid (K3.out.trans k7.ofNew)
  have p0:(w6.alloc (Obj.cells #[.bool true,.slice ya SK.length yc] 125)).cell? ⟨w6.heap.size,0,none⟩=some (.bool true):=nP.cell 0
  have p1:(w6.alloc (Obj.cells #[.bool true,.slice ya SK.length yc] 125)).cell? ⟨w6.heap.size,1,none⟩=some (.slice ya SK.length yc):=nP.cell 1
  clear k5 k6 k7 x6 C5 HSP nN nP nN7 BX3 nF3 H3 K3
  go_wp2_with fail
  clear p0 p1
  generalize w6.alloc (Obj.cells #[.bool true,.slice ya SK.length yc] 125)=W7 at *
  generalize w6.heap.size=pb at *
  have HIL7:Hid (IntsV W7 0 (.slice la fn.locals.length lc) fn.locals):=own_chg HL.out H7.out.ch (fun _ _ q=>q)
  have HTY7:Hid (TypesV W7.drew 0 (.slice ta tn tc) c.ls):=HTY.out.chg H7.out.ch.drew (fun _ _ _ q=>q) (fun _ _ _ q=>q)
  have HFU7:Hid (FuncsV 78 93 W7.drew 0 (.slice fa fln fc) c.fs):=HFU.out.chg H7.out.ch.drew (fun _ _ _ q=>q) (fun _ _ _ q=>q) (fun _ _ _ q=>q)
  have t4:W7.cell? ⟨tb,4,none⟩=some (.slice ta tn tc):=H7.out.bx.cell 4
  have t5:W7.cell? ⟨tb,5,none⟩=some (.slice fa fln fc):=H7.out.bx.cell 5
  obtain ⟨y0,y1,y2,y3,_,_,_,_⟩:=cells4 BS.out.bf
  obtain ⟨n0,n1,n2,_,_,_⟩:=cells3' BS.out.bn
  rename_i KC aKC _ _ _ _ _ _ _
  apply cutS (K:=KC) (C:=fun W8 ua uc=>Chg () W7 W8/\IntsV W8 0 (.slice ua AH.length uc) AH)
  case h2 =>
   intro key
   go_region_with (go_at_call 75;refine (stackAhead_any (.slice ta tn tc) (.slice fa fln fc) (.slice la fn.locals.length lc) (.slice ca fn.code.length cc) c.ls c.fs fn x.1 x.2.1 x.2.2 _ 0 (Nat.zero_le _) HTY7.out HFU7.out (own_drew HIL7.out) ⟨_,_,_,rfl⟩ HLSN.out hop.1 hop.2).mono ?_;rw [HAH.out];rintro ex w8 ⟨u8,rfl,hu8,k8⟩;obtain ⟨ua,uc,rfl⟩:=hu8.slice)
   all_goals exact key w8 ua uc ⟨((Chg.refl _ W7).drew).trans k8,hu8⟩
  case h1 =>
   rintro W8 ua8 uc8 ⟨k8,hu8⟩
   have BS8:=hid (BS.out.new k8)
   have H8:=hid (H7.out.new k8)
   have K8:=hid (K7.out.trans k8.ofNew)
   have HY8:Hid (IntsV W8 0 (.slice ya SK.length yc) SK):=own_chg HY.out H8.out.ch (fun _ _ q=>q)
   clear k8 hu8 y0 y1 y2 y3 n0 n1 n2 t4 t5 BS H7 K7 HIL7 HTY7 HFU7 HY
   have p0:W8.cell? ⟨pb,0,none⟩=some (.bool true):=BS8.out.bp.cell 0
   have p1:W8.cell? ⟨pb,1,none⟩=some (.slice ya SK.length yc):=BS8.out.bp.cell 1
   have n0:W8.cell? ⟨nb,0,none⟩=some (.int .i64 x.1):=BS8.out.bn.cell 0
   go_wp2_with fail
   refine (front_any _ SK ((SK.length:Int) - (AH.length:Int)) _ 0 HY8.out).mono ?_
   rw [HKS.out]
   rintro ex w9 ⟨u9,rfl,hu9,hw9⟩
   have hw9:=hw9.symm
   subst hw9
   obtain ⟨ka,kc,rfl⟩:=hu9.slice
   have HKV:=hid hu9
   have hksl:KS.length<=1000:=by
    rw [<-HKS.out];unfold frontP;split
    ·simp
    ·rw [List.length_take];omega
   clear hu9 HKS
   by_cases h15:x.1=15
   ·have hb15:(x.1 != 15)=false:=by simp [h15]
    have hc15:(x.1 == 15)=true:=by simp [h15]
    have HL2:Hid (tvP ns rs fn.locals A.2=LL):=by
     show tvP ns rs fn.locals A.2=LL
     rw [<-HLL.out,<-HBD.out];simp [h15]
    clear HLL HBD h15
    go_wp2_with fail
    clear p0 p1 n0
    have HIL:Hid (IntsV W8 0 (.slice la fn.locals.length lc) fn.locals):=own_chg HL.out H8.out.ch (fun _ _ q=>q)
    have HIR:Hid (IntsV W8 0 (.slice ra rs.length rc) rs):=own_mono H8.out.rr (Nat.zero_le _)
    have v1:W8.cell? ⟨fb,1,none⟩=some (.slice la fn.locals.length lc):=BS8.out.bf.cell 1
    have v19:W8.cell? ⟨tb,19,none⟩=some (.slice ra rs.length rc):=H8.out.bx.cell 19
    rename_i KA aKA
    apply cutS (K:=KA) (C:=fun W9 ua uc=>IntsV W9 W8.heap.size (.slice ua LL.1.length uc) LL.1/\TI W0 (W9) tb img nv (.slice ta tn tc) (.slice fa fln fc) (.slice sa sn sc) ns LL.2 R V (.slice ra rs.length rc) rs/\Chg (fun j=>j=tb) W8 W9)
    case h2 =>
     intro key
     go_region_with (go_at_call 55;refine (takeValues_any ((H8.out.new ((Chg.refl _ W8).drew)).rg) (by decide) la ra lc rc fn.locals rs (own_drew HIL.out) (own_drew HIR.out) hfl).mono ?_;rw [HL2.out];rintro ex w9 ⟨u9,rfl,hu9,hG9,k9⟩;obtain ⟨ua,uc,rfl⟩:=hu9.slice)
     all_goals exact key w9 ua uc ⟨hu9,(H8.out.new ((Chg.refl _ W8).drew)).took hG9 k9,((Chg.refl _ W8).drew).trans k9⟩
    case h1 =>
     rintro W9 ua uc ⟨hu9,hT9,k9⟩
     have H9:=hid hT9
     have B9:Hid (Bxs W9 w.heap.size fb nb pb fn (.slice la fn.locals.length lc) (.slice ca fn.code.length cc) x true (.slice ya SK.length yc)):=BS8.out.chg H8.out.bx k9
     have HU9:=hid hu9
     have K9:=hid (K8.out.trans k9)
     have HKV9:Hid (IntsV W9 0 (.slice ka KS.length kc) KS):=own_chg HKV.out k9 (fun g hg q=>own_ne HKV.out H8.out.bx (by decide) (by rw [hg,q]))
     have hsz9:w.heap.size<=W8.heap.size:=K8.out.size
     have HIR9:Hid (IntsV W9 0 (.slice ra rs.length rc) rs):=own_mono H9.out.rr (Nat.zero_le _)
     have v19':W9.cell? ⟨tb,19,none⟩=some (.slice ra rs.length rc):=H9.out.bx.cell 19
     clear hu9 hT9 k9 v1 v19 HIL HIR HKV
     go_wp2_with fail
     rename_i KB aKB
     apply cutS (K:=KB) (C:=fun W10 ea ec=>IntsV W10 W9.heap.size (.slice ea KK.1.length ec) KK.1/\TI W0 (W10) tb img nv (.slice ta tn tc) (.slice fa fln fc) (.slice sa sn sc) ns KK.2 R V (.slice ra rs.length rc) rs/\Chg (fun j=>j=tb) W9 W10)
     case h2 =>
      intro key
      go_region_with (go_at_call 55;refine (takeValues_any ((H9.out.new ((Chg.refl _ W9).drew)).rg) (by decide) ka ra kc rc KS rs (own_drew HKV9.out) (own_drew HIR9.out) hksl).mono ?_;rw [HKK.out];rintro ex w10 ⟨u10,rfl,hu10,hG10,k10⟩;obtain ⟨ea,ec,rfl⟩:=hu10.slice)
      all_goals exact key w10 ea ec ⟨hu10,(H9.out.new ((Chg.refl _ W9).drew)).took hG10 k10,((Chg.refl _ W9).drew).trans k10⟩
     case h1 =>
      rintro W10 ea ec ⟨hu10,hT10,k10⟩
      have B10:=B9.out.chg H9.out.bx k10
      have HU10:IntsV W10 W8.heap.size (.slice ua LL.1.length uc) LL.1:=own_chg HU9.out k10 (fun g hg q=>own_ne HU9.out H9.out.bx (by decide) (by rw [hg,q]))
      have hsp:Sep (.slice ua LL.1.length uc) (.slice ea KK.1.length ec):=Sep.new hu10 HU9.out.lts
      obtain ⟨o0,o1,o2,o3,z0,z1,z2,z3⟩:=cells4 B10.bx
      have s4:=Chg.set4 (w:=W10) (b:=w.heap.size) (.int .i64 f) (.int .i64 A.1) (.slice ua LL.1.length uc) (.slice ea KK.1.length ec)
      have K10:Chg (fun j=>j=tb) w W10:=K9.out.trans k10
      have hrw:V.bv.ownBlock ≠ some w.heap.size:=fun q=>by have:=HROW.out _ q;omega
      have FIN:Hid (TfEnd W0 w tb img nv (.slice ta tn tc) (.slice fa fln fc) (.slice sa sn sc) ns (⟨f,A.1,LL.1,KK.1⟩,KK.2) R V (.slice ra rs.length rc) rs (.returned (.agg #[f,A.1,.slice ua LL.1.length uc,.slice ea KK.1.length ec])) ((((W10.setCell ⟨w.heap.size,0,none⟩ f).setCell ⟨w.heap.size,1,none⟩ A.1).setCell ⟨w.heap.size,2,none⟩ (.slice ua LL.1.length uc)).setCell ⟨w.heap.size,3,none⟩ (.slice ea KK.1.length ec))):=
       ⟨_,_,rfl,own_chg (own_mono HU10 hsz9) s4 (fun g hg q=>own_ne HU10 B10.bx (by decide) (by rw [hg,q])),own_chg (own_mono hu10 K9.out.size) s4 (fun g hg q=>own_ne hu10 B10.bx (by decide) (by rw [hg,q])),hsp,hT10.sideR B10.bx (by decide) hrw (by decide) (by have:=hT10.base;have:=HBASE.out;omega) s4,K10.trans' s4 (fun i hi q=>by omega)⟩
      have hBF:Blk ((((W10.setCell ⟨w.heap.size,0,none⟩ f).setCell ⟨w.heap.size,1,none⟩ A.1).setCell ⟨w.heap.size,2,none⟩ (.slice ua LL.1.length uc)).setCell ⟨w.heap.size,3,none⟩ (.slice ea KK.1.length ec)) w.heap.size #[f,A.1,.slice ua LL.1.length uc,.slice ea KK.1.length ec] 63:=(((B10.bx.set 0 _).set 1 _).set 2 _).set 3 _
      clear hu10 hT10 k10 B10 HU10 hsp s4 K10 hrw v19'
      go_wp2
      generalize ((((W10.setCell ⟨w.heap.size,0,none⟩ f).setCell ⟨w.heap.size,1,none⟩ A.1).setCell ⟨w.heap.size,2,none⟩ (.slice ua LL.1.length uc)).setCell ⟨w.heap.size,3,none⟩ (.slice ea KK.1.length ec))=wF at *
      obtain ⟨y0,y1,y2,y3,_,_,_,_⟩:=cells4 hBF
      exact bodyPost_ret (v:=.agg #[f,A.1,.slice ua LL.1.length uc,.slice ea KK.1.length ec]) (by simp [results,Try.results57,go_sem,y0,y1,y2,y3]) rfl FIN.out
   ·have hb15:(x.1 != 15)=true:=by simp [h15]
    have hc15:(x.1 == 15)=false:=by simp [h15]
    have HL2:Hid (tvP ns rs fn.locals (A.2.1,true)=LL):=by
     show tvP ns rs fn.locals (A.2.1,true)=LL
     rw [<-HLL.out,<-HBD.out];simp [h15]
    clear HLL HBD h15
    have q2:W8.frozen? ⟨tb,2,none⟩=false:=H8.out.bx.frozen 2
    have r2:W8.cell? ⟨tb,2,none⟩=some (.bool A.2.2):=H8.out.bx.cell 2
    have k8:Chg (fun j=>j=tb) W8 (W8.setCell ⟨tb,2,none⟩ (.bool true)):=(Chg.refl _ W8).setCell _ _ (.inl rfl)
    have HS:Hid (TI W0 (W8.setCell ⟨tb,2,none⟩ (.bool true)) tb img nv (.slice ta tn tc) (.slice fa fln fc) (.slice sa sn sc) ns (A.2.1,true) R V (.slice ra rs.length rc) rs):=H8.out.stop
    have BSS:Hid (Bxs (W8.setCell ⟨tb,2,none⟩ (.bool true)) w.heap.size fb nb pb fn (.slice la fn.locals.length lc) (.slice ca fn.code.length cc) x true (.slice ya SK.length yc)):=BS8.out.chg H8.out.bx k8
    have KSS:=hid (K8.out.trans k8)
    have HKVS:Hid (IntsV (W8.setCell ⟨tb,2,none⟩ (.bool true)) 0 (.slice ka KS.length kc) KS):=own_chg HKV.out k8 (fun g hg q=>own_ne HKV.out H8.out.bx (by decide) (by rw [hg,q]))
    clear HKV k8
    go_wp2_with fail
    generalize W8.setCell ⟨tb,2,none⟩ (.bool true)=WS at HS BSS KSS HKVS ⊢
    have HKV:=HKVS
    clear HKVS q2 r2 p0 p1 n0
    have HIL:Hid (IntsV WS 0 (.slice la fn.locals.length lc) fn.locals):=own_chg HL.out HS.out.ch (fun _ _ q=>q)
    have HIR:Hid (IntsV WS 0 (.slice ra rs.length rc) rs):=own_mono HS.out.rr (Nat.zero_le _)
    have v1:WS.cell? ⟨fb,1,none⟩=some (.slice la fn.locals.length lc):=BSS.out.bf.cell 1
    have v19:WS.cell? ⟨tb,19,none⟩=some (.slice ra rs.length rc):=HS.out.bx.cell 19
    rename_i KA aKA
    apply cutS (K:=KA) (C:=fun W9 ua uc=>IntsV W9 WS.heap.size (.slice ua LL.1.length uc) LL.1/\TI W0 (W9) tb img nv (.slice ta tn tc) (.slice fa fln fc) (.slice sa sn sc) ns LL.2 R V (.slice ra rs.length rc) rs/\Chg (fun j=>j=tb) WS W9)
    case h2 =>
     intro key
     go_region_with (go_at_call 55;refine (takeValues_any ((HS.out.new ((Chg.refl _ WS).drew)).rg) (by decide) la ra lc rc fn.locals rs (own_drew HIL.out) (own_drew HIR.out) hfl).mono ?_;rw [HL2.out];rintro ex w9 ⟨u9,rfl,hu9,hG9,k9⟩;obtain ⟨ua,uc,rfl⟩:=hu9.slice)
     all_goals exact key w9 ua uc ⟨hu9,(HS.out.new ((Chg.refl _ WS).drew)).took hG9 k9,((Chg.refl _ WS).drew).trans k9⟩
    case h1 =>
     rintro W9 ua uc ⟨hu9,hT9,k9⟩
     have H9:=hid hT9
     have B9:Hid (Bxs W9 w.heap.size fb nb pb fn (.slice la fn.locals.length lc) (.slice ca fn.code.length cc) x true (.slice ya SK.length yc)):=BSS.out.chg HS.out.bx k9
     have HU9:=hid hu9
     have K9:=hid (KSS.out.trans k9)
     have HKV9:Hid (IntsV W9 0 (.slice ka KS.length kc) KS):=own_chg HKV.out k9 (fun g hg q=>own_ne HKV.out HS.out.bx (by decide) (by rw [hg,q]))
     have hsz9:w.heap.size<=WS.heap.size:=KSS.out.size
     have HIR9:Hid (IntsV W9 0 (.slice ra rs.length rc) rs):=own_mono H9.out.rr (Nat.zero_le _)
     have v19':W9.cell? ⟨tb,19,none⟩=some (.slice ra rs.length rc):=H9.out.bx.cell 19
     clear hu9 hT9 k9 v1 v19 HIL HIR HKV
     go_wp2_with fail
     rename_i KB aKB
     apply cutS (K:=KB) (C:=fun W10 ea ec=>IntsV W10 W9.heap.size (.slice ea KK.1.length ec) KK.1/\TI W0 (W10) tb img nv (.slice ta tn tc) (.slice fa fln fc) (.slice sa sn sc) ns KK.2 R V (.slice ra rs.length rc) rs/\Chg (fun j=>j=tb) W9 W10)
     case h2 =>
      intro key
      go_region_with (go_at_call 55;refine (takeValues_any ((H9.out.new ((Chg.refl _ W9).drew)).rg) (by decide) ka ra kc rc KS rs (own_drew HKV9.out) (own_drew HIR9.out) hksl).mono ?_;rw [HKK.out];rintro ex w10 ⟨u10,rfl,hu10,hG10,k10⟩;obtain ⟨ea,ec,rfl⟩:=hu10.slice)
      all_goals exact key w10 ea ec ⟨hu10,(H9.out.new ((Chg.refl _ W9).drew)).took hG10 k10,((Chg.refl _ W9).drew).trans k10⟩
     case h1 =>
      rintro W10 ea ec ⟨hu10,hT10,k10⟩
      have B10:=B9.out.chg H9.out.bx k10
      have HU10:IntsV W10 WS.heap.size (.slice ua LL.1.length uc) LL.1:=own_chg HU9.out k10 (fun g hg q=>own_ne HU9.out H9.out.bx (by decide) (by rw [hg,q]))
      have hsp:Sep (.slice ua LL.1.length uc) (.slice ea KK.1.length ec):=Sep.new hu10 HU9.out.lts
      obtain ⟨o0,o1,o2,o3,z0,z1,z2,z3⟩:=cells4 B10.bx
      have s4:=Chg.set4 (w:=W10) (b:=w.heap.size) (.int .i64 f) (.int .i64 A.1) (.slice ua LL.1.length uc) (.slice ea KK.1.length ec)
      have K10:Chg (fun j=>j=tb) w W10:=K9.out.trans k10
      have hrw:V.bv.ownBlock ≠ some w.heap.size:=fun q=>by have:=HROW.out _ q;omega
      have FIN:Hid (TfEnd W0 w tb img nv (.slice ta tn tc) (.slice fa fln fc) (.slice sa sn sc) ns (⟨f,A.1,LL.1,KK.1⟩,KK.2) R V (.slice ra rs.length rc) rs (.returned (.agg #[f,A.1,.slice ua LL.1.length uc,.slice ea KK.1.length ec])) ((((W10.setCell ⟨w.heap.size,0,none⟩ f).setCell ⟨w.heap.size,1,none⟩ A.1).setCell ⟨w.heap.size,2,none⟩ (.slice ua LL.1.length uc)).setCell ⟨w.heap.size,3,none⟩ (.slice ea KK.1.length ec))):=
       ⟨_,_,rfl,own_chg (own_mono HU10 hsz9) s4 (fun g hg q=>own_ne HU10 B10.bx (by decide) (by rw [hg,q])),own_chg (own_mono hu10 K9.out.size) s4 (fun g hg q=>own_ne hu10 B10.bx (by decide) (by rw [hg,q])),hsp,hT10.sideR B10.bx (by decide) hrw (by decide) (by have:=hT10.base;have:=HBASE.out;omega) s4,K10.trans' s4 (fun i hi q=>by omega)⟩
      have hBF:Blk ((((W10.setCell ⟨w.heap.size,0,none⟩ f).setCell ⟨w.heap.size,1,none⟩ A.1).setCell ⟨w.heap.size,2,none⟩ (.slice ua LL.1.length uc)).setCell ⟨w.heap.size,3,none⟩ (.slice ea KK.1.length ec)) w.heap.size #[f,A.1,.slice ua LL.1.length uc,.slice ea KK.1.length ec] 63:=(((B10.bx.set 0 _).set 1 _).set 2 _).set 3 _
      clear hu10 hT10 k10 B10 HU10 hsp s4 K10 hrw v19'
      go_wp2
      generalize ((((W10.setCell ⟨w.heap.size,0,none⟩ f).setCell ⟨w.heap.size,1,none⟩ A.1).setCell ⟨w.heap.size,2,none⟩ (.slice ua LL.1.length uc)).setCell ⟨w.heap.size,3,none⟩ (.slice ea KK.1.length ec))=wF at *
      obtain ⟨y0,y1,y2,y3,_,_,_,_⟩:=cells4 hBF
      exact bodyPost_ret (v:=.agg #[f,A.1,.slice ua LL.1.length uc,.slice ea KK.1.length ec]) (by simp [results,Try.results57,go_sem,y0,y1,y2,y3]) rfl FIN.out
 | false =>
  have k7:Chg () w3 (w6.alloc (Obj.cells #[.bool false,.slice ya SK.length yc] 125)):=(k5.trans k6).alloc _
  have nP:=Blk.new w6 #[.bool false,.slice ya SK.length yc] 125
  have nN7:=nN.chg (k6.alloc (Obj.cells #[.bool false,.slice ya SK.length yc] 125)) (fun q=>q)
  have BS:Hid (Bxs (w6.alloc (Obj.cells #[.bool false,.slice ya SK.length yc] 125)) w.heap.size fb nb w6.heap.size fn (.slice la fn.locals.length lc) (.slice ca fn.code.length cc) x false (.slice ya SK.length yc)):=⟨BX3.chg k7 (fun q=>q),nF3.chg k7 (fun q=>q),nN7,nP⟩
  have H7:=hid (H3.out.new k7)
  have K7:=hid (K3.out.trans k7.ofNew)
  have p0:(w6.alloc (Obj.cells #[.bool false,.slice ya SK.length yc] 125)).cell? ⟨w6.heap.size,0,none⟩=some (.bool false):=nP.cell 0
  have p1:(w6.alloc (Obj.cells #[.bool false,.slice ya SK.length yc] 125)).cell? ⟨w6.heap.size,1,none⟩=some (.slice ya SK.length yc):=nP.cell 1
  clear k5 k6 k7 x6 C5 HSP nN nP nN7 BX3 nF3 H3 K3
  go_wp2_with fail
  clear p0 p1
  generalize w6.alloc (Obj.cells #[.bool false,.slice ya SK.length yc] 125)=W7 at *
  generalize w6.heap.size=pb at *
  have HIL7:Hid (IntsV W7 0 (.slice la fn.locals.length lc) fn.locals):=own_chg HL.out H7.out.ch (fun _ _ q=>q)
  have HTY7:Hid (TypesV W7.drew 0 (.slice ta tn tc) c.ls):=HTY.out.chg H7.out.ch.drew (fun _ _ _ q=>q) (fun _ _ _ q=>q)
  have HFU7:Hid (FuncsV 78 93 W7.drew 0 (.slice fa fln fc) c.fs):=HFU.out.chg H7.out.ch.drew (fun _ _ _ q=>q) (fun _ _ _ q=>q) (fun _ _ _ q=>q)
  have t4:W7.cell? ⟨tb,4,none⟩=some (.slice ta tn tc):=H7.out.bx.cell 4
  have t5:W7.cell? ⟨tb,5,none⟩=some (.slice fa fln fc):=H7.out.bx.cell 5
  obtain ⟨y0,y1,y2,y3,_,_,_,_⟩:=cells4 BS.out.bf
  obtain ⟨n0,n1,n2,_,_,_⟩:=cells3' BS.out.bn
  rename_i KC aKC _ _ _ _ _ _ _
  apply cutS (K:=KC) (C:=fun W8 ua uc=>Chg () W7 W8/\IntsV W8 0 (.slice ua AH.length uc) AH)
  case h2 =>
   intro key
   go_region_with (go_at_call 75;refine (stackAhead_any (.slice ta tn tc) (.slice fa fln fc) (.slice la fn.locals.length lc) (.slice ca fn.code.length cc) c.ls c.fs fn x.1 x.2.1 x.2.2 _ 0 (Nat.zero_le _) HTY7.out HFU7.out (own_drew HIL7.out) ⟨_,_,_,rfl⟩ HLSN.out hop.1 hop.2).mono ?_;rw [HAH.out];rintro ex w8 ⟨u8,rfl,hu8,k8⟩;obtain ⟨ua,uc,rfl⟩:=hu8.slice)
   all_goals exact key w8 ua uc ⟨((Chg.refl _ W7).drew).trans k8,hu8⟩
  case h1 =>
   rintro W8 ua8 uc8 ⟨k8,hu8⟩
   have BS8:=hid (BS.out.new k8)
   have H8:=hid (H7.out.new k8)
   have K8:=hid (K7.out.trans k8.ofNew)
   have HY8:Hid (IntsV W8 0 (.slice ya SK.length yc) SK):=own_chg HY.out H8.out.ch (fun _ _ q=>q)
   clear k8 hu8 y0 y1 y2 y3 n0 n1 n2 t4 t5 BS H7 K7 HIL7 HTY7 HFU7 HY
   have p0:W8.cell? ⟨pb,0,none⟩=some (.bool false):=BS8.out.bp.cell 0
   have p1:W8.cell? ⟨pb,1,none⟩=some (.slice ya SK.length yc):=BS8.out.bp.cell 1
   have n0:W8.cell? ⟨nb,0,none⟩=some (.int .i64 x.1):=BS8.out.bn.cell 0
   go_wp2_with fail
   refine (front_any _ SK ((SK.length:Int) - (AH.length:Int)) _ 0 HY8.out).mono ?_
   rw [HKS.out]
   rintro ex w9 ⟨u9,rfl,hu9,hw9⟩
   have hw9:=hw9.symm
   subst hw9
   obtain ⟨ka,kc,rfl⟩:=hu9.slice
   have HKV:=hid hu9
   have hksl:KS.length<=1000:=by
    rw [<-HKS.out];unfold frontP;split
    ·simp
    ·rw [List.length_take];omega
   clear hu9 HKS
   have HL2:Hid (tvP ns rs fn.locals (A.2.1,true)=LL):=by
    show tvP ns rs fn.locals (A.2.1,true)=LL
    rw [<-HLL.out,<-HBD.out];simp
   clear HLL HBD
   have q2:W8.frozen? ⟨tb,2,none⟩=false:=H8.out.bx.frozen 2
   have r2:W8.cell? ⟨tb,2,none⟩=some (.bool A.2.2):=H8.out.bx.cell 2
   have k8:Chg (fun j=>j=tb) W8 (W8.setCell ⟨tb,2,none⟩ (.bool true)):=(Chg.refl _ W8).setCell _ _ (.inl rfl)
   have HS:Hid (TI W0 (W8.setCell ⟨tb,2,none⟩ (.bool true)) tb img nv (.slice ta tn tc) (.slice fa fln fc) (.slice sa sn sc) ns (A.2.1,true) R V (.slice ra rs.length rc) rs):=H8.out.stop
   have BSS:Hid (Bxs (W8.setCell ⟨tb,2,none⟩ (.bool true)) w.heap.size fb nb pb fn (.slice la fn.locals.length lc) (.slice ca fn.code.length cc) x false (.slice ya SK.length yc)):=BS8.out.chg H8.out.bx k8
   have KSS:=hid (K8.out.trans k8)
   have HKVS:Hid (IntsV (W8.setCell ⟨tb,2,none⟩ (.bool true)) 0 (.slice ka KS.length kc) KS):=own_chg HKV.out k8 (fun g hg q=>own_ne HKV.out H8.out.bx (by decide) (by rw [hg,q]))
   clear HKV k8
   go_wp2_with fail
   generalize W8.setCell ⟨tb,2,none⟩ (.bool true)=WS at HS BSS KSS HKVS ⊢
   have HKV:=HKVS
   clear HKVS q2 r2 p0 p1 n0
   have HIL:Hid (IntsV WS 0 (.slice la fn.locals.length lc) fn.locals):=own_chg HL.out HS.out.ch (fun _ _ q=>q)
   have HIR:Hid (IntsV WS 0 (.slice ra rs.length rc) rs):=own_mono HS.out.rr (Nat.zero_le _)
   have v1:WS.cell? ⟨fb,1,none⟩=some (.slice la fn.locals.length lc):=BSS.out.bf.cell 1
   have v19:WS.cell? ⟨tb,19,none⟩=some (.slice ra rs.length rc):=HS.out.bx.cell 19
   rename_i KA aKA
   apply cutS (K:=KA) (C:=fun W9 ua uc=>IntsV W9 WS.heap.size (.slice ua LL.1.length uc) LL.1/\TI W0 (W9) tb img nv (.slice ta tn tc) (.slice fa fln fc) (.slice sa sn sc) ns LL.2 R V (.slice ra rs.length rc) rs/\Chg (fun j=>j=tb) WS W9)
   case h2 =>
    intro key
    go_region_with (go_at_call 55;refine (takeValues_any ((HS.out.new ((Chg.refl _ WS).drew)).rg) (by decide) la ra lc rc fn.locals rs (own_drew HIL.out) (own_drew HIR.out) hfl).mono ?_;rw [HL2.out];rintro ex w9 ⟨u9,rfl,hu9,hG9,k9⟩;obtain ⟨ua,uc,rfl⟩:=hu9.slice)
    all_goals exact key w9 ua uc ⟨hu9,(HS.out.new ((Chg.refl _ WS).drew)).took hG9 k9,((Chg.refl _ WS).drew).trans k9⟩
   case h1 =>
    rintro W9 ua uc ⟨hu9,hT9,k9⟩
    have H9:=hid hT9
    have B9:Hid (Bxs W9 w.heap.size fb nb pb fn (.slice la fn.locals.length lc) (.slice ca fn.code.length cc) x false (.slice ya SK.length yc)):=BSS.out.chg HS.out.bx k9
    have HU9:=hid hu9
    have K9:=hid (KSS.out.trans k9)
    have HKV9:Hid (IntsV W9 0 (.slice ka KS.length kc) KS):=own_chg HKV.out k9 (fun g hg q=>own_ne HKV.out HS.out.bx (by decide) (by rw [hg,q]))
    have hsz9:w.heap.size<=WS.heap.size:=KSS.out.size
    have HIR9:Hid (IntsV W9 0 (.slice ra rs.length rc) rs):=own_mono H9.out.rr (Nat.zero_le _)
    have v19':W9.cell? ⟨tb,19,none⟩=some (.slice ra rs.length rc):=H9.out.bx.cell 19
    clear hu9 hT9 k9 v1 v19 HIL HIR HKV
    go_wp2_with fail
    rename_i KB aKB
    apply cutS (K:=KB) (C:=fun W10 ea ec=>IntsV W10 W9.heap.size (.slice ea KK.1.length ec) KK.1/\TI W0 (W10) tb img nv (.slice ta tn tc) (.slice fa fln fc) (.slice sa sn sc) ns KK.2 R V (.slice ra rs.length rc) rs/\Chg (fun j=>j=tb) W9 W10)
    case h2 =>
     intro key
     go_region_with (go_at_call 55;refine (takeValues_any ((H9.out.new ((Chg.refl _ W9).drew)).rg) (by decide) ka ra kc rc KS rs (own_drew HKV9.out) (own_drew HIR9.out) hksl).mono ?_;rw [HKK.out];rintro ex w10 ⟨u10,rfl,hu10,hG10,k10⟩;obtain ⟨ea,ec,rfl⟩:=hu10.slice)
     all_goals exact key w10 ea ec ⟨hu10,(H9.out.new ((Chg.refl _ W9).drew)).took hG10 k10,((Chg.refl _ W9).drew).trans k10⟩
    case h1 =>
     rintro W10 ea ec ⟨hu10,hT10,k10⟩
     have B10:=B9.out.chg H9.out.bx k10
     have HU10:IntsV W10 WS.heap.size (.slice ua LL.1.length uc) LL.1:=own_chg HU9.out k10 (fun g hg q=>own_ne HU9.out H9.out.bx (by decide) (by rw [hg,q]))
     have hsp:Sep (.slice ua LL.1.length uc) (.slice ea KK.1.length ec):=Sep.new hu10 HU9.out.lts
     obtain ⟨o0,o1,o2,o3,z0,z1,z2,z3⟩:=cells4 B10.bx
     have s4:=Chg.set4 (w:=W10) (b:=w.heap.size) (.int .i64 f) (.int .i64 A.1) (.slice ua LL.1.length uc) (.slice ea KK.1.length ec)
     have K10:Chg (fun j=>j=tb) w W10:=K9.out.trans k10
     have hrw:V.bv.ownBlock ≠ some w.heap.size:=fun q=>by have:=HROW.out _ q;omega
     have FIN:Hid (TfEnd W0 w tb img nv (.slice ta tn tc) (.slice fa fln fc) (.slice sa sn sc) ns (⟨f,A.1,LL.1,KK.1⟩,KK.2) R V (.slice ra rs.length rc) rs (.returned (.agg #[f,A.1,.slice ua LL.1.length uc,.slice ea KK.1.length ec])) ((((W10.setCell ⟨w.heap.size,0,none⟩ f).setCell ⟨w.heap.size,1,none⟩ A.1).setCell ⟨w.heap.size,2,none⟩ (.slice ua LL.1.length uc)).setCell ⟨w.heap.size,3,none⟩ (.slice ea KK.1.length ec))):=
      ⟨_,_,rfl,own_chg (own_mono HU10 hsz9) s4 (fun g hg q=>own_ne HU10 B10.bx (by decide) (by rw [hg,q])),own_chg (own_mono hu10 K9.out.size) s4 (fun g hg q=>own_ne hu10 B10.bx (by decide) (by rw [hg,q])),hsp,hT10.sideR B10.bx (by decide) hrw (by decide) (by have:=hT10.base;have:=HBASE.out;omega) s4,K10.trans' s4 (fun i hi q=>by omega)⟩
     have hBF:Blk ((((W10.setCell ⟨w.heap.size,0,none⟩ f).setCell ⟨w.heap.size,1,none⟩ A.1).setCell ⟨w.heap.size,2,none⟩ (.slice ua LL.1.length uc)).setCell ⟨w.heap.size,3,none⟩ (.slice ea KK.1.length ec)) w.heap.size #[f,A.1,.slice ua LL.1.length uc,.slice ea KK.1.length ec] 63:=(((B10.bx.set 0 _).set 1 _).set 2 _).set 3 _
     clear hu10 hT10 k10 B10 HU10 hsp s4 K10 hrw v19'
     go_wp2
     generalize ((((W10.setCell ⟨w.heap.size,0,none⟩ f).setCell ⟨w.heap.size,1,none⟩ A.1).setCell ⟨w.heap.size,2,none⟩ (.slice ua LL.1.length uc)).setCell ⟨w.heap.size,3,none⟩ (.slice ea KK.1.length ec))=wF at *
     obtain ⟨y0,y1,y2,y3,_,_,_,_⟩:=cells4 hBF
     exact bodyPost_ret (v:=.agg #[f,A.1,.slice ua LL.1.length uc,.slice ea KK.1.length ec]) (by simp [results,Try.results57,go_sem,y0,y1,y2,y3]) rfl FIN.out
theorem takeFrame_any (h:TI W0 w tb img nv tv fv sv ns s R V rv rs) (ro:Ro W0 tv fv sv c) (cb:CxB c) (f:Int) (waits:Bool) :
 Calls Try.prog 57 #[.pointer tb,f,.bool waits] w (TfEnd W0 w tb img nv tv fv sv ns (tfP c ns rs f waits s) R V rv rs):=by
 cases waits with
 | true=>exact takeFrame_w h ro cb f
 | false=>exact takeFrame_t h ro cb f
end
end Go.Proofs.Ytnfnbcbadakofab
