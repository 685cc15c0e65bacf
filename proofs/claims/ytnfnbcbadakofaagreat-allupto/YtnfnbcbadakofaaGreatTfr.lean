import Derived.Test.YtnfnbcbadakofaaGreatTwd
import Derived.Test.YtnfnbcbadakofaaGreatIna
namespace Go.Proofs.YtnfnbcbadakofaaGreat
open Go.RowKit
structure CxB (c:Cx):Prop where
 ls:c.ls.length<=10000
 s5:∀ t,(flds c.ls t).length<=5
 fl:∀ f,(aq c.fs f).locals.length<=1000
 fc:∀ f,(aq c.fs f).code.length<=1000
 op:∀ f i,0<=(aV (aq c.fs f) i).1/\(aV (aq c.fs f) i).1<=18
 sk:∀ f i,(skP c.sps f i).length<=1000
 ah:∀ f i,(ak c.ls c.fs (aq c.fs f) (aV (aq c.fs f) i).1 (aV (aq c.fs f) i).2.1 (aV (aq c.fs f) i).2.2).length<=1000
structure Bxs (w:World) (xb fb nb pb:Nat) (fn:Fn) (lv cv:Value) (x:Int × Int × Int) (ys:Bool) (yv:Value):Prop where
 bx:Blk w xb #[.int .i64 0,.int .i64 0,.slice none 0 0,.slice none 0 0] 60
 bf:Blk w fb #[.int .i64 fn.args,lv,.int .i64 fn.result,cv] 111
 bn:Blk w nb #[.int .i64 x.1,.int .i64 x.2.1,.int .i64 x.2.2] 135
 bp:Blk w pb #[.bool ys,yv] 138
section
variable {W0 w w':World} {tb:Nat} {img:ByteArray} {nv tv fv sv rv:Value} {ns rs:List Int} {s s':Nat × Bool} {R R':Rn} {V:RV} {c:Cx}
theorem ly {w:World} {b:Nat} {v0 v1 v2:Value} {e:TypeId} (h:Blk w b #[v0,v1,v2] e):w.cell? ⟨b,0,none⟩=some v0/\w.cell? ⟨b,1,none⟩=some v1/\w.cell? ⟨b,2,none⟩=some v2/\w.frozen? ⟨b,0,none⟩=false/\w.frozen? ⟨b,1,none⟩=false/\w.frozen? ⟨b,2,none⟩=false:=
 ⟨h.cell 0,h.cell 1,h.cell 2,h.frozen 0,h.frozen 1,h.frozen 2⟩
theorem Bxs.chg {xb fb nb pb:Nat} {fn:Fn} {lv cv:Value} {x:Int × Int × Int} {ys:Bool} {yv:Value} {cs:Array Value} (h:Bxs w xb fb nb pb fn lv cv x ys yv) (ht:Blk w tb cs 97) (k:Chg (fun j=>j=tb) w w'):Bxs w' xb fb nb pb fn lv cv x ys yv:=
 ⟨h.bx.chg k (h.bx.ne ht (by decide)),h.bf.chg k (h.bf.ne ht (by decide)),h.bn.chg k (h.bn.ne ht (by decide)),h.bp.chg k (h.bp.ne ht (by decide))⟩
theorem Bxs.new {xb fb nb pb:Nat} {fn:Fn} {lv cv:Value} {x:Int × Int × Int} {ys:Bool} {yv:Value} (h:Bxs w xb fb nb pb fn lv cv x ys yv) (k:Chg () w w'):Bxs w' xb fb nb pb fn lv cv x ys yv:=
 ⟨h.bx.chg k (fun q=>q),h.bf.chg k (fun q=>q),h.bn.chg k (fun q=>q),h.bp.chg k (fun q=>q)⟩
theorem TI.sideR (h:TI W0 w tb img nv tv fv sv ns s R V rv rs) {ab:Nat} {cs:Array Value} {e:TypeId} (hb:Blk w ab cs e) (h3:3 ≠ e) (h1:V.bv.ownBlock ≠ some ab) (h2:97 ≠ e) (hn:W0.heap.size<=ab) (k:Chg (fun j=>j=ab) w w'):TI W0 w' tb img nv tv fv sv ns s R V rv rs:=by
 have q3:∀ (u:Value) (l:List Int),ad w W0.heap.size u l->ad w' W0.heap.size u l:=fun u l hu=>af hu k (fun g hg q=>ao hu hb h3 (by rw [hg,q]))
 exact ⟨h.ch.trans' k (fun i hi q=>by omega),h.nw,h.bx.chg k (fun q=>h.bx.ne hb h2 q),q3 _ _ h.ww,q3 _ _ h.ll,q3 _ _ h.kk,h.be,af h.bb k (fun g hg q=>h1 (by rw [hg,q])),fun x hx=>⟨q3 _ _ (h.xx x hx).1,q3 _ _ (h.xx x hx).2⟩,q3 _ _ h.rr,h.sp,h.ov,h.rd⟩
def gD (W0 w:World) (tb:Nat) (img:ByteArray) (nv tv fv sv:Value) (ns:List Int) (r:Fr × (Nat × Bool)) (R:Rn) (V:RV) (rv:Value) (rs:List Int) (ex:Ending) (w':World):Prop:=
 ∃ lu ku,ex=.returned (.agg #[r.1.fn,r.1.pc,lu,ku])/\ad w' w.heap.size lu r.1.locals/\ad w' w.heap.size ku r.1.stack/\Sep lu ku/\TI W0 w' tb img nv tv fv sv ns r.2 R V rv rs/\Chg (fun j=>j=tb) w w'
set_option maxHeartbeats 2000000 in
set_option maxRecDepth 100000 in
theorem j7 (h:TI W0 w tb img nv tv fv sv ns s R V rv rs) (ro:Ro W0 tv fv sv c) (cb:CxB c) (f:Int) :
 Calls Tryz.prog 49 #[.pointer tb,f,.bool false] w (gD W0 w tb img nv tv fv sv ns (tfP c ns rs f false s) R V rv rs):=by
 obtain ⟨A,hA⟩:∃ a,tk ns 0 (((aq c.fs f).code.length:Int) - 1) s=a:=⟨_,rfl⟩
 obtain ⟨KS,hKS⟩:∃ a,skP c.sps f A.1=a:=⟨_,rfl⟩
 obtain ⟨BD,hBD⟩:∃ a,(!(spP c.sps f A.1).isSome)=a:=⟨_,rfl⟩
 obtain ⟨LL,hLL⟩:∃ a,tvP ns rs (aq c.fs f).locals (A.2.1,A.2.2 || BD)=a:=⟨_,rfl⟩
 obtain ⟨KK,hKK⟩:∃ a,tvP ns rs KS LL.2=a:=⟨_,rfl⟩
 have eT:tfP c ns rs f false s=(⟨f,A.1,LL.1,KK.1⟩,KK.2):=by
  have hKS':=hKS
  unfold skP at hKS'
  unfold tfP
  simp only [hA,Bool.false_and,Bool.or_false,Bool.false_eq_true,if_false]
  rw [hBD,hLL,hKS',hKK]
 rw [eT]
 clear eT
 have hrow:∀ g,V.bv.ownBlock=some g->g < w.heap.size:=fun g hg=>by obtain ⟨cs,hb⟩:=ay h.bb hg;exact hb.lt
 obtain ⟨ra,rc,hrv⟩:=h.rr.slice
 subst hrv
 obtain ⟨la,lc,ca,cc,hL,hC,hfa⟩:=dr (S:=fun _=>False) (W2:=W0) (fun _ _ _ _ q=>q.elim) fv c.fs f 0 ro.fu
 obtain ⟨ya,yc,hY,hsp⟩:=gq (S:=fun _=>False) (W2:=W0) (fun _ _ _ _ q=>q.elim) sv c.sps f A.1 0 ro.sp
 obtain ⟨ta,tc,htv⟩:=ro.ty.slice
 obtain ⟨fa,fc,hfv⟩:=ro.fu.slice
 obtain ⟨sa,sc,hsv⟩:=ro.sp.slice
 have HTY:Hid (ai W0 0 tv c.ls):=ro.ty
 have HFU:Hid (aj 111 135 W0 0 fv c.fs):=ro.fu
 have hsk:=cb.sk f A.1
 have hah:=cb.ah f A.1
 have hfl:=cb.fl f
 have hfc:=cb.fc f
 have hop:=cb.op f A.1
 have hlsn:=cb.ls
 have HLSN:Hid (c.ls.length<=10000):=cb.ls
 clear hlsn
 generalize c.ls.length=tn at htv
 generalize c.fs.length=fln at hfv
 generalize c.sps.length=sn at hsv
 subst htv hfv hsv
 obtain ⟨x,hx⟩:∃ a,aV (aq c.fs f) A.1=a:=⟨_,rfl⟩
 simp only [hx] at hah hop hKS hBD
 generalize skP c.sps f A.1=SK at *
 generalize hys:(spP c.sps f A.1).isSome=ys at *
 generalize aq c.fs f=fn at *
 have H:=hid h
 have HA:=hid hA
 have HKS:=hid hKS
 have HBD:=hid hBD
 have HLL:=hid hLL
 have HKK:=hid hKK
 have HL:=hid hL
 have HC:=hid hC
 have HX:=hid hx
 have HY:=hid hY
 have HFA:=hid hfa
 have HSP:=hid hsp
 have HROW:=hid hrow
 clear h hA hKS hBD hLL hKK hL hC hx hY hfa hsp hrow hys ro cb
 have HBASE:Hid (W0.heap.size<=w.heap.size):=H.out.base
 have x5:w.cell? ⟨tb,5,none⟩=some (.slice fa fln fc):=H.out.bx.cell 5
 have htl:=H.out.bx.lt
 have kA:Chg () w (w.alloc (Obj.cells #[oO,oO,(),()] 60)):=(Chg.refl _ w).alloc _
 have HA1:=hid (H.out.new kA)
 have BX1:Blk (w.alloc (Obj.cells #[oO,oO,(),()] 60)) w.heap.size #[oO,oO,(),()] 60:=Blk.new w _ 60
 go_enter Tryz.func49,Tryz.ntmps49
 go_wp2_with fail
 refine (HFA.out _ HA1.out.ch).mono ?_
 rintro ex w1 ⟨rfl,k1⟩
 have k2:Chg () (w.alloc (Obj.cells #[oO,oO,(),()] 60)) (w1.alloc (Obj.cells #[fn.args,.slice la fn.locals.length lc,fn.result,.slice ca fn.code.length cc] 111)):=k1.alloc _
 have nF:=Blk.new w1 #[.int .i64 fn.args,.slice la fn.locals.length lc,.int .i64 fn.result,.slice ca fn.code.length cc] 111
 clear x5
 go_wp2_with fail
 generalize w1.alloc (Obj.cells #[fn.args,.slice la fn.locals.length lc,fn.result,.slice ca fn.code.length cc] 111)=W2 at *
 generalize w1.heap.size=fb at *
 have H2:=hid (HA1.out.new k2)
 have BX2:=BX1.chg k2 (fun q=>q)
 have K2:=hid (kA.trans k2)
 obtain ⟨y0,y1,y2,y3,_,_,_,_⟩:=aL nF
 clear k1 k2 kA BX1 HA1 HFA
 have hwr:IntKind.i64.wrap ((fn.code.length:Int) - 1)=(fn.code.length:Int) - 1:=by rw [IntKind.wrap_i64];omega
 go_region_with (go_at_call 45;refine ((H2.out.new ((Chg.refl _ W2).drew)).take 0 ((fn.code.length:Int) - 1)).mono ?_;rw [HA.out];rintro ex w3 ⟨rfl,hT3,k3⟩)
 have nF3:=nF.drew.chg k3 (nF.ne H2.out.bx (by decide))
 have BX3:=BX2.drew.chg k3 (BX2.ne H2.out.bx (by decide))
 have H3:=hid hT3
 have K3:Hid (Chg (fun j=>j=tb) w w3):=(K2.out.drew.ofNew).trans k3
 clear y0 y1 y2 y3 hT3 k3 nF BX2 H2 K2 HA H
 obtain ⟨y0,y1,y2,y3,_,_,_,_⟩:=aL nF3
 have HI3:Hid _:=eJ (.slice la fn.locals.length lc) (.slice ca fn.code.length cc) fn A.1 w3 0 0 (af HL.out H3.out.ch (fun _ _ q=>q)) (af HC.out H3.out.ch (fun _ _ q=>q))
 rw [HX.out] at HI3
 clear HX
 go_wp2_with fail
 refine (Calls.mono HI3.out ?_)
 rintro ex w4 ⟨rfl,k4⟩
 have k5:Chg () w3 (w4.alloc (Obj.cells #[x.1,x.2.1,x.2.2] 135)):=k4.alloc _
 have nN:=Blk.new w4 #[.int .i64 x.1,.int .i64 x.2.1,.int .i64 x.2.2] 135
 have x6:(w4.alloc (Obj.cells #[x.1,x.2.1,x.2.2] 135)).cell? ⟨tb,6,none⟩=some (.slice sa sn sc):=(H3.out.bx.chg k5 (fun q=>q)).cell 6
 have C5:Chg () W0 (w4.alloc (Obj.cells #[x.1,x.2.1,x.2.2] 135)):=H3.out.ch.trans k5
 clear y0 y1 y2 y3 HI3 k4
 go_wp2_with fail
 refine (HSP.out _ C5).mono ?_
 rintro ex w6 ⟨rfl,k6⟩
 have HKS1:SK=KS:=HKS.out
 clear HKS
 subst HKS1
 have hksl:SK.length<=1000:=hsk
 generalize w4.heap.size=nb at *
 cases ys with
 | true =>
  have k7:Chg () w3 (w6.alloc (Obj.cells #[.bool true,.slice ya SK.length yc] 138)):=(k5.trans k6).alloc _
  have nP:=Blk.new w6 #[.bool true,.slice ya SK.length yc] 138
  have nN7:=nN.chg (k6.alloc (Obj.cells #[.bool true,.slice ya SK.length yc] 138)) (fun q=>q)
  have BS:Hid (Bxs (w6.alloc (Obj.cells #[.bool true,.slice ya SK.length yc] 138)) w.heap.size fb nb w6.heap.size fn (.slice la fn.locals.length lc) (.slice ca fn.code.length cc) x true (.slice ya SK.length yc)):=⟨BX3.chg k7 (fun q=>q),nF3.chg k7 (fun q=>q),nN7,nP⟩
  have H7:=hid (H3.out.new k7)
  have K7:=hid (K3.out.trans k7.ofNew)
  have p0:(w6.alloc (Obj.cells #[.bool true,.slice ya SK.length yc] 138)).cell? ⟨w6.heap.size,0,none⟩=some (.bool true):=nP.cell 0
  have p1:(w6.alloc (Obj.cells #[.bool true,.slice ya SK.length yc] 138)).cell? ⟨w6.heap.size,1,none⟩=some (.slice ya SK.length yc):=nP.cell 1
  clear k5 k6 k7 x6 C5 HSP nN nP nN7 BX3 nF3 H3 K3
  have HL2:Hid (tvP ns rs fn.locals A.2=LL):=by
   show tvP ns rs fn.locals A.2=LL
   rw [<-HLL.out,<-HBD.out];simp
  clear HLL HBD
  have HKV:Hid (ad (w6.alloc (Obj.cells #[.bool true,.slice ya SK.length yc] 138)) 0 (.slice ya SK.length yc) SK):=af HY.out H7.out.ch (fun _ _ q=>q)
  clear HY
  go_wp2_with fail
  clear p0 p1
  generalize w6.alloc (Obj.cells #[.bool true,.slice ya SK.length yc] 138)=W7 at *
  generalize w6.heap.size=pb at *
  have HIL:Hid (ad W7 0 (.slice la fn.locals.length lc) fn.locals):=af HL.out H7.out.ch (fun _ _ q=>q)
  have HIR:Hid (ad W7 0 (.slice ra rs.length rc) rs):=am H7.out.rr (Nat.zero_le _)
  have v1:W7.cell? ⟨fb,1,none⟩=some (.slice la fn.locals.length lc):=BS.out.bf.cell 1
  have v19:W7.cell? ⟨tb,19,none⟩=some (.slice ra rs.length rc):=H7.out.bx.cell 19
  rename_i KA aKA
  apply fx (K:=KA) (C:=fun W9 ua uc=>ad W9 W7.heap.size (.slice ua LL.1.length uc) LL.1/\TI W0 (W9) tb img nv (.slice ta tn tc) (.slice fa fln fc) (.slice sa sn sc) ns LL.2 R V (.slice ra rs.length rc) rs/\Chg (fun j=>j=tb) W7 W9)
  case h2 =>
   intro key
   go_region_with (go_at_call 47;refine (aQ ((H7.out.new ((Chg.refl _ W7).drew)).rg) (by decide) la ra lc rc fn.locals rs (aA HIL.out) (aA HIR.out) hfl).mono ?_;rw [HL2.out];rintro ex w9 ⟨u9,rfl,hu9,hG9,k9⟩;obtain ⟨ua,uc,rfl⟩:=hu9.slice)
   all_goals exact key w9 ua uc ⟨hu9,(H7.out.new ((Chg.refl _ W7).drew)).took hG9 k9,((Chg.refl _ W7).drew).trans k9⟩
  case h1 =>
   rintro W9 ua uc ⟨hu9,hT9,k9⟩
   have H9:=hid hT9
   have B9:Hid (Bxs W9 w.heap.size fb nb pb fn (.slice la fn.locals.length lc) (.slice ca fn.code.length cc) x true (.slice ya SK.length yc)):=BS.out.chg H7.out.bx k9
   have HU9:=hid hu9
   have K9:=hid (K7.out.trans k9)
   have HKV9:Hid (ad W9 0 (.slice ya SK.length yc) SK):=af HKV.out k9 (fun g hg q=>ao HKV.out H7.out.bx (by decide) (by rw [hg,q]))
   have hsz9:w.heap.size<=W7.heap.size:=K7.out.size
   have HIR9:Hid (ad W9 0 (.slice ra rs.length rc) rs):=am H9.out.rr (Nat.zero_le _)
   have v19':W9.cell? ⟨tb,19,none⟩=some (.slice ra rs.length rc):=H9.out.bx.cell 19
   clear hu9 hT9 k9 v1 v19 HIL HIR HKV
   go_wp2_with fail
   rename_i KB aKB
   apply fx (K:=KB) (C:=fun W10 ea ec=>ad W10 W9.heap.size (.slice ea KK.1.length ec) KK.1/\TI W0 (W10) tb img nv (.slice ta tn tc) (.slice fa fln fc) (.slice sa sn sc) ns KK.2 R V (.slice ra rs.length rc) rs/\Chg (fun j=>j=tb) W9 W10)
   case h2 =>
    intro key
    go_region_with (go_at_call 47;refine (aQ ((H9.out.new ((Chg.refl _ W9).drew)).rg) (by decide) ya ra yc rc SK rs (aA HKV9.out) (aA HIR9.out) hksl).mono ?_;rw [HKK.out];rintro ex w10 ⟨u10,rfl,hu10,hG10,k10⟩;obtain ⟨ea,ec,rfl⟩:=hu10.slice)
    all_goals exact key w10 ea ec ⟨hu10,(H9.out.new ((Chg.refl _ W9).drew)).took hG10 k10,((Chg.refl _ W9).drew).trans k10⟩
   case h1 =>
    rintro W10 ea ec ⟨hu10,hT10,k10⟩
    have B10:=B9.out.chg H9.out.bx k10
    have HU10:ad W10 W7.heap.size (.slice ua LL.1.length uc) LL.1:=af HU9.out k10 (fun g hg q=>ao HU9.out H9.out.bx (by decide) (by rw [hg,q]))
    have hsp:Sep (.slice ua LL.1.length uc) (.slice ea KK.1.length ec):=Sep.new hu10 HU9.out.lts
    obtain ⟨o0,o1,o2,o3,z0,z1,z2,z3⟩:=aL B10.bx
    have s4:=Chg.set4 (w:=W10) (b:=w.heap.size) (.int .i64 f) (.int .i64 A.1) (.slice ua LL.1.length uc) (.slice ea KK.1.length ec)
    have K10:Chg (fun j=>j=tb) w W10:=K9.out.trans k10
    have hrw:V.bv.ownBlock ≠ some w.heap.size:=fun q=>by have:=HROW.out _ q;omega
    have FIN:Hid (gD W0 w tb img nv (.slice ta tn tc) (.slice fa fln fc) (.slice sa sn sc) ns (⟨f,A.1,LL.1,KK.1⟩,KK.2) R V (.slice ra rs.length rc) rs (.returned (.agg #[f,A.1,.slice ua LL.1.length uc,.slice ea KK.1.length ec])) ((((W10.setCell ⟨w.heap.size,0,none⟩ f).setCell ⟨w.heap.size,1,none⟩ A.1).setCell ⟨w.heap.size,2,none⟩ (.slice ua LL.1.length uc)).setCell ⟨w.heap.size,3,none⟩ (.slice ea KK.1.length ec))):=
     ⟨_,_,rfl,af (am HU10 hsz9) s4 (fun g hg q=>ao HU10 B10.bx (by decide) (by rw [hg,q])),af (am hu10 K9.out.size) s4 (fun g hg q=>ao hu10 B10.bx (by decide) (by rw [hg,q])),hsp,hT10.sideR B10.bx (by decide) hrw (by decide) (by have:=hT10.base;have:=HBASE.out;omega) s4,K10.trans' s4 (fun i hi q=>by omega)⟩
    have hBF:Blk ((((W10.setCell ⟨w.heap.size,0,none⟩ f).setCell ⟨w.heap.size,1,none⟩ A.1).setCell ⟨w.heap.size,2,none⟩ (.slice ua LL.1.length uc)).setCell ⟨w.heap.size,3,none⟩ (.slice ea KK.1.length ec)) w.heap.size #[f,A.1,.slice ua LL.1.length uc,.slice ea KK.1.length ec] 60:=(((B10.bx.set 0 _).set 1 _).set 2 _).set 3 _
    clear hu10 hT10 k10 B10 HU10 hsp s4 K10 hrw v19'
    go_wp2
    generalize ((((W10.setCell ⟨w.heap.size,0,none⟩ f).setCell ⟨w.heap.size,1,none⟩ A.1).setCell ⟨w.heap.size,2,none⟩ (.slice ua LL.1.length uc)).setCell ⟨w.heap.size,3,none⟩ (.slice ea KK.1.length ec))=wF at *
    obtain ⟨y0,y1,y2,y3,_,_,_,_⟩:=aL hBF
    exact bodyPost_ret (v:=.agg #[f,A.1,.slice ua LL.1.length uc,.slice ea KK.1.length ec]) (by simp [results,Tryz.results49,go_sem,y0,y1,y2,y3]) rfl FIN.out
 | false =>
  have k7:Chg () w3 (w6.alloc (Obj.cells #[.bool false,.slice ya SK.length yc] 138)):=(k5.trans k6).alloc _
  have nP:=Blk.new w6 #[.bool false,.slice ya SK.length yc] 138
  have nN7:=nN.chg (k6.alloc (Obj.cells #[.bool false,.slice ya SK.length yc] 138)) (fun q=>q)
  have BS:Hid (Bxs (w6.alloc (Obj.cells #[.bool false,.slice ya SK.length yc] 138)) w.heap.size fb nb w6.heap.size fn (.slice la fn.locals.length lc) (.slice ca fn.code.length cc) x false (.slice ya SK.length yc)):=⟨BX3.chg k7 (fun q=>q),nF3.chg k7 (fun q=>q),nN7,nP⟩
  have H7:=hid (H3.out.new k7)
  have K7:=hid (K3.out.trans k7.ofNew)
  have p0:(w6.alloc (Obj.cells #[.bool false,.slice ya SK.length yc] 138)).cell? ⟨w6.heap.size,0,none⟩=some (.bool false):=nP.cell 0
  have p1:(w6.alloc (Obj.cells #[.bool false,.slice ya SK.length yc] 138)).cell? ⟨w6.heap.size,1,none⟩=some (.slice ya SK.length yc):=nP.cell 1
  clear k5 k6 k7 x6 C5 HSP nN nP nN7 BX3 nF3 H3 K3
  have HL2:Hid (tvP ns rs fn.locals (A.2.1,true)=LL):=by
   show tvP ns rs fn.locals (A.2.1,true)=LL
   rw [<-HLL.out,<-HBD.out];simp
  clear HLL HBD
  have HKV:Hid (ad (w6.alloc (Obj.cells #[.bool false,.slice ya SK.length yc] 138)) 0 (.slice ya SK.length yc) SK):=af HY.out H7.out.ch (fun _ _ q=>q)
  clear HY
  have q2:(w6.alloc (Obj.cells #[.bool false,.slice ya SK.length yc] 138)).frozen? ⟨tb,2,none⟩=false:=H7.out.bx.frozen 2
  have r2:(w6.alloc (Obj.cells #[.bool false,.slice ya SK.length yc] 138)).cell? ⟨tb,2,none⟩=some (.bool A.2.2):=H7.out.bx.cell 2
  have k8:Chg (fun j=>j=tb) (w6.alloc (Obj.cells #[.bool false,.slice ya SK.length yc] 138)) ((w6.alloc (Obj.cells #[.bool false,.slice ya SK.length yc] 138)).setCell ⟨tb,2,none⟩ (.bool true)):=(Chg.refl _ (w6.alloc (Obj.cells #[.bool false,.slice ya SK.length yc] 138))).setCell _ _ (.inl rfl)
  have HS:Hid (TI W0 ((w6.alloc (Obj.cells #[.bool false,.slice ya SK.length yc] 138)).setCell ⟨tb,2,none⟩ (.bool true)) tb img nv (.slice ta tn tc) (.slice fa fln fc) (.slice sa sn sc) ns (A.2.1,true) R V (.slice ra rs.length rc) rs):=H7.out.stop
  have BSS:Hid (Bxs ((w6.alloc (Obj.cells #[.bool false,.slice ya SK.length yc] 138)).setCell ⟨tb,2,none⟩ (.bool true)) w.heap.size fb nb w6.heap.size fn (.slice la fn.locals.length lc) (.slice ca fn.code.length cc) x false (.slice ya SK.length yc)):=BS.out.chg H7.out.bx k8
  have KSS:=hid (K7.out.trans k8)
  have HKVS:Hid (ad ((w6.alloc (Obj.cells #[.bool false,.slice ya SK.length yc] 138)).setCell ⟨tb,2,none⟩ (.bool true)) 0 (.slice ya SK.length yc) SK):=af HKV.out k8 (fun g hg q=>ao HKV.out H7.out.bx (by decide) (by rw [hg,q]))
  clear HKV k8
  go_wp2_with fail
  generalize (w6.alloc (Obj.cells #[.bool false,.slice ya SK.length yc] 138)).setCell ⟨tb,2,none⟩ (.bool true)=WS at HS BSS KSS HKVS ⊢
  generalize w6.heap.size=pb at *
  have HKV:=HKVS
  clear HKVS q2 r2 p0 p1
  have HIL:Hid (ad WS 0 (.slice la fn.locals.length lc) fn.locals):=af HL.out HS.out.ch (fun _ _ q=>q)
  have HIR:Hid (ad WS 0 (.slice ra rs.length rc) rs):=am HS.out.rr (Nat.zero_le _)
  have v1:WS.cell? ⟨fb,1,none⟩=some (.slice la fn.locals.length lc):=BSS.out.bf.cell 1
  have v19:WS.cell? ⟨tb,19,none⟩=some (.slice ra rs.length rc):=HS.out.bx.cell 19
  rename_i KA aKA
  apply fx (K:=KA) (C:=fun W9 ua uc=>ad W9 WS.heap.size (.slice ua LL.1.length uc) LL.1/\TI W0 (W9) tb img nv (.slice ta tn tc) (.slice fa fln fc) (.slice sa sn sc) ns LL.2 R V (.slice ra rs.length rc) rs/\Chg (fun j=>j=tb) WS W9)
  case h2 =>
   intro key
   go_region_with (go_at_call 47;refine (aQ ((HS.out.new ((Chg.refl _ WS).drew)).rg) (by decide) la ra lc rc fn.locals rs (aA HIL.out) (aA HIR.out) hfl).mono ?_;rw [HL2.out];rintro ex w9 ⟨u9,rfl,hu9,hG9,k9⟩;obtain ⟨ua,uc,rfl⟩:=hu9.slice)
   all_goals exact key w9 ua uc ⟨hu9,(HS.out.new ((Chg.refl _ WS).drew)).took hG9 k9,((Chg.refl _ WS).drew).trans k9⟩
  case h1 =>
   rintro W9 ua uc ⟨hu9,hT9,k9⟩
   have H9:=hid hT9
   have B9:Hid (Bxs W9 w.heap.size fb nb pb fn (.slice la fn.locals.length lc) (.slice ca fn.code.length cc) x false (.slice ya SK.length yc)):=BSS.out.chg HS.out.bx k9
   have HU9:=hid hu9
   have K9:=hid (KSS.out.trans k9)
   have HKV9:Hid (ad W9 0 (.slice ya SK.length yc) SK):=af HKV.out k9 (fun g hg q=>ao HKV.out HS.out.bx (by decide) (by rw [hg,q]))
   have hsz9:w.heap.size<=WS.heap.size:=KSS.out.size
   have HIR9:Hid (ad W9 0 (.slice ra rs.length rc) rs):=am H9.out.rr (Nat.zero_le _)
   have v19':W9.cell? ⟨tb,19,none⟩=some (.slice ra rs.length rc):=H9.out.bx.cell 19
   clear hu9 hT9 k9 v1 v19 HIL HIR HKV
   go_wp2_with fail
   rename_i KB aKB
   apply fx (K:=KB) (C:=fun W10 ea ec=>ad W10 W9.heap.size (.slice ea KK.1.length ec) KK.1/\TI W0 (W10) tb img nv (.slice ta tn tc) (.slice fa fln fc) (.slice sa sn sc) ns KK.2 R V (.slice ra rs.length rc) rs/\Chg (fun j=>j=tb) W9 W10)
   case h2 =>
    intro key
    go_region_with (go_at_call 47;refine (aQ ((H9.out.new ((Chg.refl _ W9).drew)).rg) (by decide) ya ra yc rc SK rs (aA HKV9.out) (aA HIR9.out) hksl).mono ?_;rw [HKK.out];rintro ex w10 ⟨u10,rfl,hu10,hG10,k10⟩;obtain ⟨ea,ec,rfl⟩:=hu10.slice)
    all_goals exact key w10 ea ec ⟨hu10,(H9.out.new ((Chg.refl _ W9).drew)).took hG10 k10,((Chg.refl _ W9).drew).trans k10⟩
   case h1 =>
    rintro W10 ea ec ⟨hu10,hT10,k10⟩
    have B10:=B9.out.chg H9.out.bx k10
    have HU10:ad W10 WS.heap.size (.slice ua LL.1.length uc) LL.1:=af HU9.out k10 (fun g hg q=>ao HU9.out H9.out.bx (by decide) (by rw [hg,q]))
    have hsp:Sep (.slice ua LL.1.length uc) (.slice ea KK.1.length ec):=Sep.new hu10 HU9.out.lts
    obtain ⟨o0,o1,o2,o3,z0,z1,z2,z3⟩:=aL B10.bx
    have s4:=Chg.set4 (w:=W10) (b:=w.heap.size) (.int .i64 f) (.int .i64 A.1) (.slice ua LL.1.length uc) (.slice ea KK.1.length ec)
    have K10:Chg (fun j=>j=tb) w W10:=K9.out.trans k10
    have hrw:V.bv.ownBlock ≠ some w.heap.size:=fun q=>by have:=HROW.out _ q;omega
    have FIN:Hid (gD W0 w tb img nv (.slice ta tn tc) (.slice fa fln fc) (.slice sa sn sc) ns (⟨f,A.1,LL.1,KK.1⟩,KK.2) R V (.slice ra rs.length rc) rs (.returned (.agg #[f,A.1,.slice ua LL.1.length uc,.slice ea KK.1.length ec])) ((((W10.setCell ⟨w.heap.size,0,none⟩ f).setCell ⟨w.heap.size,1,none⟩ A.1).setCell ⟨w.heap.size,2,none⟩ (.slice ua LL.1.length uc)).setCell ⟨w.heap.size,3,none⟩ (.slice ea KK.1.length ec))):=
     ⟨_,_,rfl,af (am HU10 hsz9) s4 (fun g hg q=>ao HU10 B10.bx (by decide) (by rw [hg,q])),af (am hu10 K9.out.size) s4 (fun g hg q=>ao hu10 B10.bx (by decide) (by rw [hg,q])),hsp,hT10.sideR B10.bx (by decide) hrw (by decide) (by have:=hT10.base;have:=HBASE.out;omega) s4,K10.trans' s4 (fun i hi q=>by omega)⟩
    have hBF:Blk ((((W10.setCell ⟨w.heap.size,0,none⟩ f).setCell ⟨w.heap.size,1,none⟩ A.1).setCell ⟨w.heap.size,2,none⟩ (.slice ua LL.1.length uc)).setCell ⟨w.heap.size,3,none⟩ (.slice ea KK.1.length ec)) w.heap.size #[f,A.1,.slice ua LL.1.length uc,.slice ea KK.1.length ec] 60:=(((B10.bx.set 0 _).set 1 _).set 2 _).set 3 _
    clear hu10 hT10 k10 B10 HU10 hsp s4 K10 hrw v19'
    go_wp2
    generalize ((((W10.setCell ⟨w.heap.size,0,none⟩ f).setCell ⟨w.heap.size,1,none⟩ A.1).setCell ⟨w.heap.size,2,none⟩ (.slice ua LL.1.length uc)).setCell ⟨w.heap.size,3,none⟩ (.slice ea KK.1.length ec))=wF at *
    obtain ⟨y0,y1,y2,y3,_,_,_,_⟩:=aL hBF
    exact bodyPost_ret (v:=.agg #[f,A.1,.slice ua LL.1.length uc,.slice ea KK.1.length ec]) (by simp [results,Tryz.results49,go_sem,y0,y1,y2,y3]) rfl FIN.out
end
end Go.Proofs.YtnfnbcbadakofaaGreat
