import Derived.Test.YtnfnbcbadakofabTfw
import Derived.Test.YtnfnbcbadakofabCal
namespace Go.Proofs.Ytnfnbcbadakofab
open Go.RowKit
def V1 (wv bv:Value) (xs:List (Fr × Value × Value)):RV:=⟨wv,bv,.slice none 0 0,.slice none 0 0,.slice none 0 0,xs⟩
theorem tfsP_succ (c:Cx) (ns recs:List Int) (n:Nat) (f:Int) (s:Nat × Bool):tfsP c ns recs (n+1) f s=((tfP c ns recs f true s).1::(tfsP c ns recs n (insP (fnAt c.fs f) (tfP c ns recs f true s).1.pc).2.1 (tfP c ns recs f true s).2).1,(tfsP c ns recs n (insP (fnAt c.fs f) (tfP c ns recs f true s).1.pc).2.1 (tfP c ns recs f true s).2).2):=rfl
section
variable {W0 w w':World} {tb:Nat} {img:ByteArray} {nv tv fv sv rv:Value} {ns rs:List Int} {s s':Nat × Bool} {R R':Rn} {V:RV} {c:Cx}
set_option maxHeartbeats 4000000 in
set_option maxRecDepth 100000 in
theorem takeFrames_any {wv:Value} (h:TI W0 w tb img nv tv fv sv ns s R (V0 wv) rv rs) (hb:R.below=[]) (ro:Ro W0 tv fv sv c) (cb:CxB c) (hd1:0<=R.depth) (hd2:R.depth<=64) :
 Calls Try.prog 38 #[.pointer tb] w fun ex w'=>ex=.returned (.tuple #[])/\∃ V',V'.wv=wv/\TI W0 w' tb img nv tv fv sv ns (tfrP c ns rs R.depth s).2 { R with below:=(tfrP c ns rs R.depth s).1.1,top:=(tfrP c ns rs R.depth s).1.2 } V' rv rs:=by
 obtain ⟨K,hK⟩:∃ a,tk ns 1 R.depth s=a:=⟨_,rfl⟩
 have hKr:=tk_rng ns 1 R.depth s (by decide) hd1
 rw [hK] at hKr
 obtain ⟨m,hm⟩:∃ m:Nat,(K.1 - 1).toNat=m:=⟨_,rfl⟩
 obtain ⟨B,hB⟩:∃ a,tfsP c ns rs m 0 K.2=a:=⟨_,rfl⟩
 obtain ⟨T,hT⟩:∃ a,tfP c ns rs B.2.1 false B.2.2=a:=⟨_,rfl⟩
 have eT:tfrP c ns rs R.depth s=((B.1,T.1),T.2):=by
  unfold tfrP;simp only;rw [hK,hm,hB,hT]
 rw [eT]
 simp only
 clear eT
 obtain ⟨fa,fc,hfv⟩:=ro.fu.slice
 generalize c.fs.length=fln at hfv
 subst hfv
 obtain ⟨kn,hkn⟩:∃ n:Nat,K.1=(n:Int):=⟨K.1.toNat,by omega⟩
 have hmk:m=kn - 1:=by omega
 have hk64:kn<=64:=by omega
 have H:=hid h
 have HK:=hid hK
 have HKN:=hid hkn
 have HB:=hid hB
 have HT:=hid hT
 have RO:=hid ro
 have CB:=hid cb
 have HBE:=hid hb
 obtain ⟨_,x8,_,_,_,_,_,_,_⟩:=h.at
 clear h hK hKr hm hB hT ro cb hb hkn
 go_enter Try.func38,Try.ntmps38
 go_wp2
 go_region_with (go_at_call 53;refine ((H.out.new ((Chg.refl _ w).drew)).take 1 R.depth).mono ?_;rw [HK.out];rintro ex w1 ⟨rfl,hT1,_⟩)
 rw [HKN.out]
 have H1:=hid hT1
 clear hT1 x8 H HK HKN
 go_wp2
 go_loopw [3,4] (fun fv' iv wr=>∃ (j:Nat) (fc':Int) (s2:Nat × Bool) (ba:Option Addr) (bc:Nat) (xs:List (Fr × Value × Value)),j<=m/\xs.length=j/\iv=.int .i64 ((j:Int)+1)/\fv'=.int .i64 fc'/\TI W0 (wr) tb img nv tv (.slice fa fln fc) sv ns s2 { R with below:=xs.map (·.1) } (V1 wv (.slice ba xs.length bc) xs) rv rs/\(xs.map (·.1)++(tfsP c ns rs (m - j) fc' s2).1,(tfsP c ns rs (m - j) fc' s2).2)=B) (fun _ iv _=>100 - (intOf iv).toNat)
 case atStart =>
  refine ⟨0,0,K.2,none,0,[],Nat.zero_le _,rfl,rfl,rfl,?_,HB.out⟩
  have e:({ R with below:=([]:List (Fr × Value × Value)).map (·.1) }:Rn)=R:=by
   show ({ R with below:=[] }:Rn)=R
   rw [<-HBE.out]
  rw [e]
  exact H1.out
 case round =>
  obtain ⟨j,fc',s2,ba,bc,xs,hj,hxl,rfl,rfl,hT2,hE⟩:=hrel
  have H2:=hid hT2
  have HE:=hid hE
  have HXL:=hid hxl
  have hx63:xs.length<=64:=by omega
  clear hT2 hE H1 HB HBE hxl
  by_cases hlt:j+1 < kn
  ·have hlt':(j:Int)+1 < (kn:Int):=by omega
   obtain ⟨r,hr⟩:∃ a,tfP c ns rs fc' true s2=a:=⟨_,rfl⟩
   have HE2:Hid ((xs.map (·.1)++r.1::(tfsP c ns rs (m - (j+1)) (insP (fnAt c.fs fc') r.1.pc).2.1 r.2).1,(tfsP c ns rs (m - (j+1)) (insP (fnAt c.fs fc') r.1.pc).2.1 r.2).2)=B):=by
    show _=B
    rw [<-HE.out,show m - j=(m - (j+1))+1 by omega,tfsP_succ,hr]
   have HR:=hid hr
   clear HE hr
   obtain ⟨la,lc,ca,cc,hL,hC,hfa⟩:=funcAt_ro (S:=fun _=>False) (W2:=W0) (fun _ _ _ _ q=>q.elim) (.slice fa fln fc) c.fs fc' 0 RO.out.fu
   generalize fnAt c.fs fc'=fn at *
   have HFA:=hid hfa
   have HL:=hid hL
   have HC:=hid hC
   clear hfa hL hC
   have HWR:Hid (TI W0 (wr) tb img nv tv (.slice fa fln fc) sv ns s2 { R with below:=xs.map (·.1) } (V1 wv (.slice ba xs.length bc) xs) rv rs):=H2.out
   go_wp2_with fail
   refine (takeFrame_any H2.out RO.out CB.out fc' true).mono ?_
   rw [HR.out]
   clear HR
   obtain ⟨g,s3⟩:=r
   simp only at HE2 ⊢
   rintro ex w2 ⟨lu,ku,rfl,hlu,hku,hsp,hT3,k3⟩
   obtain ⟨lua,luc,rfl⟩:=hlu.slice
   obtain ⟨kua,kuc,rfl⟩:=hku.slice
   have kB:Chg () w2 (w2.alloc (Obj.cells #[g.fn,g.pc,.slice lua g.locals.length luc,.slice kua g.stack.length kuc] 63)):=(Chg.refl _ w2).alloc _
   have nB:=Blk.new w2 #[.int .i64 g.fn,.int .i64 g.pc,.slice lua g.locals.length luc,.slice kua g.stack.length kuc] 63
   have HU:=hid hlu
   have HV:=hid hku
   have H3:=hid hT3
   have HSP:=hid hsp
   have HRL:Hid (∀ q,(Value.slice ba xs.length bc).ownBlock=some q->q < w2.heap.size):=fun q hq=>by obtain ⟨cs,hb⟩:=own_blk hT3.bb hq;exact hb.lt
   clear hlu hku hsp hT3 k3
   go_wp2_with fail
   generalize hX:w2.alloc (Obj.cells #[g.fn,g.pc,.slice lua g.locals.length luc,.slice kua g.stack.length kuc] 63)=W3 at *
   have HVB:Hid (∀ q,(Value.slice ba xs.length bc).ownBlock=some q->q < w2.heap.size):=HRL.out
   generalize hvb:w2.heap.size=vb at *
   have H4:=hid (H3.out.new kB)
   have HU4:Hid (IntsV W3 wr.heap.size (.slice lua g.locals.length luc) g.locals):=own_chg HU.out kB (fun _ _ q=>q)
   have HV4:Hid (IntsV W3 wr.heap.size (.slice kua g.stack.length kuc) g.stack):=own_chg HV.out kB (fun _ _ q=>q)
   have NB:=hid nB
   obtain ⟨y0,y1,y2,y3,_,_,_,_⟩:=cells4 nB
   have x11:W3.cell? ⟨tb,11,none⟩=some (.slice ba xs.length bc):=H4.out.bx.cell 11
   have HSEP:Hid (∀ u,u ∈ (V1 wv (.slice ba xs.length bc) xs).fl \/ u=(V1 wv (.slice ba xs.length bc) xs).wv \/ u=(V1 wv (.slice ba xs.length bc) xs).lv \/ u=(V1 wv (.slice ba xs.length bc) xs).kv->Sep u (.slice lua g.locals.length luc)/\Sep u (.slice kua g.stack.length kuc)):=fun u hu=>by
    have hlt:∀ q,u.ownBlock=some q->q < wr.heap.size:=by
     rcases hu with hu | rfl | rfl | rfl
     ·obtain ⟨z,hz,rfl | rfl⟩:=flx_mem hu
      ·exact (HWR.out.xx z hz).1.lts
      ·exact (HWR.out.xx z hz).2.lts
     ·exact HWR.out.ww.lts
     ·exact HWR.out.ll.lts
     ·exact HWR.out.kk.lts
    exact ⟨Sep.new HU4.out hlt,Sep.new HV4.out hlt⟩
   have HNE:Hid (¬ some vb=(Value.slice ba xs.length bc).ownBlock):=fun q=>by have:=HVB.out _ q.symm;omega
   have HNT:Hid (vb ≠ tb):=NB.out.ne H4.out.bx (by decide)
   clear kB nB H3 HU HV hX HRL
   rename_i KA aKA _ _ _ _
   apply cutS (K:=KA) (C:=fun W oa oc=>TI W0 (W) tb img nv tv (.slice fa fln fc) sv ns s3 { R with below:=xs.map (·.1)++[g] } (V1 wv (.slice oa (xs.length+1) oc) (xs++[(g,.slice lua g.locals.length luc,.slice kua g.stack.length kuc)])) rv rs/\Blk W vb #[.int .i64 g.fn,.int .i64 g.pc,.slice lua g.locals.length luc,.slice kua g.stack.length kuc] 63)
   case h2 =>
    intro key
    obtain ⟨i,hi1,hi2,hi3,hi4⟩:=info123
    have Hi1:Hid _:=hi1
    have Hi2:Hid _:=hi2
    have Hi3:Hid _:=hi3
    have Hi4:Hid _:=hi4
    clear hi1 hi2 hi3 hi4
    have htl:=H4.out.bx.lt
    have hvl:=NB.out.lt
    have hn3:tb ≠ W3.heap.size:=Nat.ne_of_lt H4.out.bx.lt
    have hn3':=hn3.symm
    have hn4:vb ≠ W3.heap.size:=Nat.ne_of_lt NB.out.lt
    have hn4':=hn4.symm
    have j1:Chg () W3 (W3.alloc (Obj.cells #[g.fn,g.pc,.slice lua g.locals.length luc,.slice kua g.stack.length kuc] 63)).drew:=((Chg.refl _ W3).alloc _).drew
    have H5:=hid (H4.out.new j1)
    have HROW:Hid ((W3.alloc (Obj.cells #[g.fn,g.pc,.slice lua g.locals.length luc,.slice kua g.stack.length kuc] 63)).drew.ownsRow W0.heap.size 63 4 (.slice ba xs.length bc) xs.length (frC xs)):=H5.out.bb
    have HNW:Hid (∀ j u,[Value.int .i64 g.fn,.int .i64 g.pc,.slice lua g.locals.length luc,.slice kua g.stack.length kuc][j]?=some u->(W3.alloc (Obj.cells #[g.fn,g.pc,.slice lua g.locals.length luc,.slice kua g.stack.length kuc] 63)).drew.cell? ((⟨W3.heap.size,0,none⟩:Addr).add j)=some u):=lit4
    have hb3:W0.heap.size<=W3.heap.size:=H4.out.base
    go_region_law (refine step_append_lies _ rfl (.tmp 30) (.tmp 32) 61 rfl W0.heap.size 63 i (.agg #[oO,oO,(),()]) 4 64 Try.underlying61 Hi1.out Hi2.out Hi3.out Hi4.out rfl (by decide) (.slice ba xs.length bc) xs.length (frC xs) (by simp [Act.eval]) (by exact HROW.out) ⟨W3.heap.size,0,none⟩ 1 1 [.int .i64 g.fn,.int .i64 g.pc,.slice lua g.locals.length luc,.slice kua g.stack.length kuc] (by simp [Act.eval]) rfl (by exact HNW.out) (by intro u hu;simp only [List.mem_cons,List.not_mem_nil,or_false] at hu;rcases hu with rfl | rfl | rfl | rfl <;> rfl) (by decide) (by unfold maxLen;omega) (by omega) (by simp;omega) (W3.heap.size+1) (by simp) ?_;intro gg cap2 w4 hown hgrow hat hlt4;have hch4:Chg (fun j=>some j=(Value.slice ba xs.length bc).ownBlock) (W3.alloc (Obj.cells #[g.fn,g.pc,.slice lua g.locals.length luc,.slice kua g.stack.length kuc] 63)).drew w4:=(chg_of_grown hgrow).mono (fun _ _ q=>q);have hbk:=H5.out.bx.chg hch4 (fun q=>own_ne H5.out.bb H5.out.bx (by decide) q.symm);have y11:w4.cell? ⟨tb,11,none⟩=some (.slice ba xs.length bc):=hbk.cell 11;have f11:=hbk.frozen 11)
    all_goals
     have hw:=H5.out.wait (f:=g) (lu:=.slice lua g.locals.length luc) (ku:=.slice kua g.stack.length kuc) (bv':=.slice gg (xs.length+1) cap2) (own_mono (own_chg HU4.out j1 (fun _ _ q=>q)) HWR.out.base) (own_mono (own_chg HV4.out j1 (fun _ _ q=>q)) HWR.out.base) HSP.out HSEP.out hch4 hown
     have nb4:Blk (w4.setCell ⟨tb,11,none⟩ (.slice gg (xs.length+1) cap2)) vb #[.int .i64 g.fn,.int .i64 g.pc,.slice lua g.locals.length luc,.slice kua g.stack.length kuc] 63:=((NB.out.chg j1 (fun q=>q)).chg hch4 (fun q=>HNE.out q)).setOther _ _ HNT.out
     have hw2:=hw.2
     clear hw hbk y11 f11
     generalize some (⟨gg,0,none⟩:Addr)=oa at hw2 nb4 ⊢
     generalize w4.setCell ⟨tb,11,none⟩ (.slice oa (xs.length+1) cap2)=WX at hw2 nb4 ⊢
     exact key WX oa cap2 ⟨hw2,nb4⟩
   case h1 =>
    rintro W oa oc ⟨hT5,nB5⟩
    have H5:=hid hT5
    have x5:W.cell? ⟨tb,5,none⟩=some (.slice fa fln fc):=hT5.bx.cell 5
    clear y0 y1 y2 y3 x11 hT5 H4 HU4 HV4 NB
    go_wp2_with fail
    refine (HFA.out _ H5.out.ch).mono ?_
    rintro ex w5 ⟨rfl,k5⟩
    have k6:Chg () W (w5.alloc (Obj.cells #[fn.args,.slice la fn.locals.length lc,fn.result,.slice ca fn.code.length cc] 78)):=k5.alloc _
    have nF:=Blk.new w5 #[.int .i64 fn.args,.slice la fn.locals.length lc,.int .i64 fn.result,.slice ca fn.code.length cc] 78
    obtain ⟨y0,y1,y2,y3,_,_,_,_⟩:=cells4 nF
    have v1:(w5.alloc (Obj.cells #[fn.args,.slice la fn.locals.length lc,fn.result,.slice ca fn.code.length cc] 78)).cell? ⟨vb,1,none⟩=some (.int .i64 g.pc):=(nB5.chg k6 (fun q=>q)).cell 1
    have hI:=insAt_any (.slice la fn.locals.length lc) (.slice ca fn.code.length cc) fn g.pc (w5.alloc (Obj.cells #[fn.args,.slice la fn.locals.length lc,fn.result,.slice ca fn.code.length cc] 78)) 0 0 (own_chg HL.out (H5.out.ch.trans k6) (fun _ _ q=>q)) (own_chg HC.out (H5.out.ch.trans k6) (fun _ _ q=>q))
    generalize insP fn g.pc=x at *
    have HIN:Hid _:=hI
    clear hI x5 HFA k5
    go_wp2_with fail
    refine (Calls.mono HIN.out ?_)
    rintro ex w7 ⟨rfl,k7⟩
    have k8:Chg () W (w7.alloc (Obj.cells #[x.1,x.2.1,x.2.2] 93)):=(k6.trans k7).alloc _
    have nN:=Blk.new w7 #[.int .i64 x.1,.int .i64 x.2.1,.int .i64 x.2.2] 93
    have z1:(w7.alloc (Obj.cells #[x.1,x.2.1,x.2.2] 93)).cell? ⟨w7.heap.size,1,none⟩=some (.int .i64 x.2.1):=nN.cell 1
    have H8:=hid (H5.out.new k8)
    clear y0 y1 y2 y3 v1 nF k6 k7 k8 nN HIN nB5 H5
    go_wp2
    refine ⟨⟨j+1,x.2.1,s3,oa,oc,xs++[(g,.slice lua g.locals.length luc,.slice kua g.stack.length kuc)],by omega,by simp [HXL.out],by simp,rfl,?_,?_⟩,by simp [intOf];omega⟩
    ·have:=H8.out
     simpa using this
    ·rw [<-HE2.out];simp
  ·have hlt':(kn:Int)<=(j:Int)+1:=by omega
   have hjm:m - j=0:=by omega
   have HE1:Hid (xs.map (·.1)=B.1/\fc'=B.2.1/\s2=B.2.2):=by
    show _/\_/\_
    rw [<-HE.out,hjm];simp [tfsP]
   have HT2:Hid (tfP c ns rs fc' false s2=T):=by
    show tfP c ns rs fc' false s2=T
    rw [HE1.out.2.1,HE1.out.2.2];exact HT.out
   clear HE HT
   go_wp2_with fail
   refine (takeFrame_any H2.out RO.out CB.out fc' false).mono ?_
   rw [HT2.out]
   obtain ⟨g,s3⟩:=T
   rintro ex w2 ⟨lu,ku,rfl,hlu,hku,hsp,hT3,k3⟩
   obtain ⟨lua,luc,rfl⟩:=hlu.slice
   obtain ⟨kua,kuc,rfl⟩:=hku.slice
   have hfin:=hT3.topped (f:=g) (own_mono hlu H2.out.base) (own_mono hku H2.out.base) hsp (fun u hu=>by
    have hlt:∀ q,u.ownBlock=some q->q < wr.heap.size:=by
     rcases hu with hu | rfl
     ·obtain ⟨z,hz,rfl | rfl⟩:=flx_mem hu
      ·exact (H2.out.xx z hz).1.lts
      ·exact (H2.out.xx z hz).2.lts
     ·exact H2.out.ww.lts
    exact ⟨Sep.new hlu hlt,Sep.new hku hlt⟩)
   have FIN:Hid _:=hfin
   have r12:w2.cell? ⟨tb,12,none⟩=some (.int .i64 R.top.fn):=hT3.bx.cell 12
   have r13:w2.cell? ⟨tb,13,none⟩=some (.int .i64 R.top.pc):=hT3.bx.cell 13
   have r14:w2.cell? ⟨tb,14,none⟩=some (.slice none 0 0):=hT3.bx.cell 14
   have r15:w2.cell? ⟨tb,15,none⟩=some (.slice none 0 0):=hT3.bx.cell 15
   have q12:=hT3.bx.frozen 12
   have q13:=hT3.bx.frozen 13
   have q14:=hT3.bx.frozen 14
   have q15:=hT3.bx.frozen 15
   clear hlu hku hsp hT3 k3 hfin
   go_wp2
   refine bodyPost_end (v:=.tuple #[]) (by simp [results,Try.results38]) rfl ⟨rfl,{ V1 wv (.slice ba xs.length bc) xs with lv:=.slice lua g.locals.length luc,kv:=.slice kua g.stack.length kuc },rfl,?_⟩
   rw [<-HE1.out.1]
   exact FIN.out
end
end Go.Proofs.Ytnfnbcbadakofab
