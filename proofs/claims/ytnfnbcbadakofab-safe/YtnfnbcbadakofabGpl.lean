import Derived.Test.YtnfnbcbadakofabDoo
import Derived.Test.YtnfnbcbadakofabIna
import Derived.Test.YtnfnbcbadakofabTuz
namespace Go.Proofs.Ytnfnbcbadakofab
open Go.RowKit
theorem mr2_ou (c:Cx) (t:Int) (R:Rn):(mr2P c t R).out=R.out/\(mr2P c t R).used=R.used:=by
 unfold mr2P;split <;> exact ⟨rfl,rfl⟩
theorem mr_ou (c:Cx) (t:Int) (R:Rn):(mrP c t R).out=R.out/\(mrP c t R).used=R.used:=by
 unfold mrP
 split
 ·exact mr2_ou _ _ _
 ·exact mr2_ou _ _ _
theorem ur_ou (c:Cx) (x:Int × Int × Int) (R:Rn):(urP c x R).out=R.out/\(urP c x R).used=R.used:=by
 unfold urP
 split
 ·exact mr_ou _ _ _
 ·split
  ·split <;> exact ⟨rfl,rfl⟩
  ·split <;> exact ⟨rfl,rfl⟩
theorem do_ou (c:Cx) (x:Int × Int × Int) (R:Rn):(doP c x R).out.length<=R.out.length+1/\(doP c x R).used<=R.used+1:=by
 unfold doP
 split
 ·exact ⟨Nat.le_succ _,Nat.le_succ _⟩
 split
 ·exact ⟨Nat.le_succ _,Nat.le_succ _⟩
 split
 ·unfold clP;split <;> exact ⟨Nat.le_succ _,Nat.le_succ _⟩
 split
 ·unfold gbP;split
  ·refine ⟨?_,Nat.le_succ _⟩
   show (R.out++[_]).length<=_
   simp
  ·exact ⟨Nat.le_succ _,Nat.le_succ _⟩
 split
 ·obtain ⟨a,b⟩:=ur_ou c x R
  refine ⟨?_,?_⟩
  ·show (urP c x R).out.length<=_
   rw [a];omega
  ·show (urP c x R).used<=_
   rw [b];omega
 ·unfold uvP
  repeat' split
  all_goals first
   | exact ⟨Nat.le_succ _,Nat.le_succ _⟩
   | (refine ⟨?_,Nat.le_succ _⟩;show (R.out++[_]).length<=_;simp)
   | exact ⟨Nat.le_succ _,Nat.le_refl _⟩
theorem cut2 {K:Act->World->Prop} {Q:Exit->Act->World->Prop} {act:World->Nat->Act} {C:World->Nat->Prop} {G:Prop} (h2:(∀ W a,C W a->Exit.then K Q .normal (act W a) W)->G) (h1:∀ W a,C W a->Exit.then K Q .normal (act W a) W):G:=h2 h1
theorem set3new {w0 w1:World} {b:Nat} {u0 u1 u2:Value} {e:TypeId} (h:Blk w1 b #[u0,u1,u2] e) (k:Chg () w0 w1) (hb:w0.heap.size<=b) (v0 v1 v2:Value) :
 Blk (((w1.setCell ⟨b,0,none⟩ v0).setCell ⟨b,1,none⟩ v1).setCell ⟨b,2,none⟩ v2) b #[v0,v1,v2] e/\Chg () w0 (((w1.setCell ⟨b,0,none⟩ v0).setCell ⟨b,1,none⟩ v1).setCell ⟨b,2,none⟩ v2):=
 ⟨by have:=((h.set 0 v0).set 1 v1).set 2 v2;simpa using this,((k.setCell _ _ (.inr hb)).setCell _ _ (.inr hb)).setCell _ _ (.inr hb)⟩
theorem cells3 {w:World} {b:Nat} {v0 v1 v2:Value} {e:TypeId} (h:Blk w b #[v0,v1,v2] e):w.cell? ⟨b,0,none⟩=some v0/\w.cell? ⟨b,1,none⟩=some v1/\w.cell? ⟨b,2,none⟩=some v2/\w.frozen? ⟨b,0,none⟩=false/\w.frozen? ⟨b,1,none⟩=false/\w.frozen? ⟨b,2,none⟩=false:=
 ⟨h.cell 0,h.cell 1,h.cell 2,h.frozen 0,h.frozen 1,h.frozen 2⟩
section
variable {W1 w:World} {rb:Nat} {s:ByteArray} {tv fv sv iv:Value} {R:Rn} {V:RV} {c:Cx}
def GoEnd (W1 w:World) (rb:Nat) (s:ByteArray) (tv fv sv iv:Value) (r:Rn × Int) (ex:Ending) (w':World):Prop:=ex=.returned (.int .i64 r.2)/\KR w w'/\∃ V,RI W1 w' rb s tv fv sv iv r.1 V
set_option maxHeartbeats 4000000 in
set_option maxRecDepth 100000 in
theorem goRun_any (h:RI W1 w rb s tv fv sv iv R V) (hnw:W1.heap.size<=rb) (ro:∀ w,Chg (fun j=>j=rb) W1 w->Ro w tv fv sv c) (hin:∀ w,Chg (fun j=>j=rb) W1 w->RdA w iv R.inp) (ok:CxOk c) (hg:Gd c R) (hu:R.used=0) (ho:R.out=[]) (n:Nat) (hn:n<=10000) :
 Calls Try.prog 24 #[.pointer rb,n] w (GoEnd W1 w rb s tv fv sv iv (goOnP c n R)):=by
 obtain ⟨ia,ic,hiv⟩:=(hin w h.ch).slice
 obtain ⟨inp,hinp⟩:∃ l,R.inp=l:=⟨_,rfl⟩
 rw [hinp] at hin hiv
 obtain ⟨fa,fc,hfv⟩:=(ro w h.ch).fu.slice
 generalize c.fs.length=fln at hfv
 subst hiv hfv
 have H:=hid h
 have RO:=hid ro
 have HIN:=hid hin
 have OK:=hid ok
 have HG:=hid hg
 have HI:=hid hinp
 obtain ⟨T,hT⟩:∃ r,goOnP c n R=r:=⟨_,rfl⟩
 rw [hT]
 have HT:=hid hT
 have HU:Hid (R.used=0/\R.out=[]):=⟨hu,ho⟩
 clear h ro hin ok hg hu ho hT hinp
 go_enter Try.func24,Try.ntmps24
 go_wp2
 go_loopw [5] (fun kv wr=>∃ (k:Nat) (Rk:Rn) (Vk:RV),k<=n/\kv=.int .i64 (k:Int)/\RI W1 wr rb s tv (.slice fa fln fc) sv (.slice ia inp.length ic) Rk Vk/\KR w wr/\Gd c Rk/\Rk.inp=inp/\Rk.out.length<=k/\Rk.used<=k/\goOnP c (n - k) Rk=T) (fun kv _=>n - (intOf kv).toNat)
 case atStart=>exact ⟨0,R,V,Nat.zero_le _,rfl,H.out,KR.refl _,HG.out,HI.out,by rw [HU.out.2];simp,by rw [HU.out.1];exact Nat.le_refl _,HT.out⟩
 case round =>
  obtain ⟨k,Rk,Vk,hk,rfl,hR,hK,hG,hI,hO,hU,hT⟩:=hrel
  clear H HG HI HT HU
  have HR:=hid hR
  have HK:=hid hK
  have HG:=hid hG
  have HI:=hid hI
  have HT:=hid hT
  obtain ⟨_,_,x6,_⟩:=hR.wrap
  clear hR hK hG hI hT
  by_cases hlt:k < n
  ·have hlt':(k:Int) < (n:Int):=by omega
   have e1:n - k=(n - (k+1))+1:=by omega
   by_cases h0:Rk.status=0
   ·have HT2:Hid ((if (nxtP c Rk).1=18/\Rk.inp.length<=Rk.used then (Rk,2) else goOnP c (n - (k+1)) (doP c (nxtP c Rk) Rk))=T):=by
     show _=T
     rw [<-HT.out,e1]
     conv=>rhs;unfold goOnP
     rw [if_neg (show ¬ (Rk.status ≠ 0) by rw [h0];simp)]
    have HD:Hid (DoH c (nxtP c Rk) Rk):=HG.out.doh OK.out h0
    have HS:Hid (Gd c (doP c (nxtP c Rk) Rk)/\(doP c (nxtP c Rk) Rk).inp=Rk.inp):=HG.out.step OK.out h0
    obtain ⟨la,lc,ca,cc,hL,hC,hfa⟩:=funcAt_ro (S:=fun _=>False) (W2:=wr) (fun _ _ _ _ q=>q.elim) _ c.fs Rk.top.fn 0 (RO.out wr HR.out.ch).fu
    have hx:insP (fnAt c.fs Rk.top.fn) Rk.top.pc=nxtP c Rk:=rfl
    have HX:=hid hx
    clear hx
    generalize nxtP c Rk=x at *
    generalize fnAt c.fs Rk.top.fn=fn at *
    have HQ:=hid hfa
    have HL:=hid hL
    have HC:=hid hC
    clear hfa hL hC HG HT
    have hbx:=HR.out.bx
    have x2:wr.cell? ⟨rb,2,none⟩=some (.slice fa fln fc):=hbx.cell 2
    have x9:wr.cell? ⟨rb,9,none⟩=some (.int .i64 Rk.top.fn):=hbx.cell 9
    have hbe:(Rk.status != 0)=false:=by simp [h0]
    go_wp2_with fail
    rename_i K aK
    apply cut2 (K:=K) (C:=fun W fb=>Blk W fb #[.int .i64 fn.args,.slice la fn.locals.length lc,.int .i64 fn.result,.slice ca fn.code.length cc] 78/\Chg () wr W)
    case h2 =>
     intro key
     have kA:Chg () wr (wr.alloc (Obj.cells #[oO,(),oO,()] 78)).drew:=((Chg.refl _ wr).alloc _).drew
     have nbA:Blk (wr.alloc (Obj.cells #[oO,(),oO,()] 78)).drew wr.heap.size #[oO,(),oO,()] 78:=(Blk.new wr _ 78).drew
     have fA:∀ (w1:World),Chg () (wr.alloc (Obj.cells #[oO,(),oO,()] 78)).drew w1->w1.cell? ⟨rb,2,none⟩=some (.slice fa fln fc)/\w1.cell? ⟨rb,9,none⟩=some (.int .i64 Rk.top.fn):=fun w1 k1=>⟨(hbx.chg (kA.trans k1) (fun q=>q)).cell 2,(hbx.chg (kA.trans k1) (fun q=>q)).cell 9⟩
     have fB:∀ (w1:World),Chg () wr.drew w1->w1.cell? ⟨rb,2,none⟩=some (.slice fa fln fc)/\w1.cell? ⟨rb,9,none⟩=some (.int .i64 Rk.top.fn):=fun w1 k1=>⟨(hbx.drew.chg k1 (fun q=>q)).cell 2,(hbx.drew.chg k1 (fun q=>q)).cell 9⟩
     have n1:rb ≠ wr.heap.size:=Nat.ne_of_lt hbx.lt
     have n1':wr.heap.size ≠ rb:=n1.symm
     go_region_held3 (fun w'=>w'.cell? ⟨rb,2,none⟩=some (.slice fa fln fc)/\w'.cell? ⟨rb,9,none⟩=some (.int .i64 Rk.top.fn)) (go_keep) (first | (go_at_call 32;first | (refine (HQ.out _ kA).mono ?_;rintro e w1 ⟨rfl,k1⟩;have q2:=(fA w1 k1).1;have q0:=(fA w1 k1).2;obtain ⟨o0,o1,o2,o3,z0,z1,z2,z3⟩:=cells4 (nbA.chg k1 (fun q=>q))) | (refine (HQ.out _ ((Chg.refl _ wr).drew)).mono ?_;rintro e w1 ⟨rfl,k1⟩;have q2:=(fB w1 k1).1;have q0:=(fB w1 k1).2)))
     all_goals
      first
      | (obtain ⟨nX,kX⟩:=set4new (nbA.chg k1 (fun q=>q)) (kA.trans k1) (Nat.le_refl _) (.int .i64 fn.args) (.slice la fn.locals.length lc) (.int .i64 fn.result) (.slice ca fn.code.length cc)
         generalize ((((w1.setCell ⟨wr.heap.size,0,none⟩ fn.args).setCell ⟨wr.heap.size,1,none⟩ (.slice la fn.locals.length lc)).setCell ⟨wr.heap.size,2,none⟩ fn.result).setCell ⟨wr.heap.size,3,none⟩ (.slice ca fn.code.length cc))=wX at nX kX ⊢
         generalize hfb:wr.heap.size=fb at nX ⊢
         exact key wX fb ⟨nX,kX⟩)
      | (have nX:=Blk.new w1 #[.int .i64 fn.args,.slice la fn.locals.length lc,.int .i64 fn.result,.slice ca fn.code.length cc] 78
         have kX:Chg () wr _:=(((Chg.refl _ wr).drew).trans k1).alloc (Obj.cells #[fn.args,.slice la fn.locals.length lc,fn.result,.slice ca fn.code.length cc] 78)
         generalize w1.alloc (Obj.cells #[fn.args,.slice la fn.locals.length lc,fn.result,.slice ca fn.code.length cc] 78)=wX at nX kX ⊢
         generalize hfb:w1.heap.size=fb at nX ⊢
         exact key wX fb ⟨nX,kX⟩)
    case h1 =>
     rintro W fb ⟨nX,kX⟩
     have bW:=hbx.chg kX (fun q=>q)
     have HQ2:Hid (∀ w',Chg () W w'->Calls Try.prog 39 #[.agg #[fn.args,.slice la fn.locals.length lc,fn.result,.slice ca fn.code.length cc],Rk.top.pc] w' fun e w''=>e=.returned (.agg #[x.1,x.2.1,x.2.2])/\Chg () w' w''):=fun w' k'=>by
      have:=insAt_any (.slice la fn.locals.length lc) (.slice ca fn.code.length cc) fn Rk.top.pc w' 0 0 (own_chg HL.out (kX.trans k') (fun _ _ q=>q)) (own_chg HC.out (kX.trans k') (fun _ _ q=>q))
      rw [HX.out] at this
      exact this
     clear x2 x9 x6 hbx HQ HL HC hbe
     go_wp2_with fail
     rename_i K2 aK2
     apply cut2 (K:=K2) (C:=fun W2 nb=>Blk W2 nb #[.int .i64 x.1,.int .i64 x.2.1,.int .i64 x.2.2] 93/\Chg () W W2)
     case h2 =>
      intro key
      obtain ⟨v0,v1,v2,v3,_,_,_,_⟩:=cells4 nX
      have x10:W.cell? ⟨rb,10,none⟩=some (.int .i64 Rk.top.pc):=bW.cell 10
      have kA:Chg () W (W.alloc (Obj.cells #[oO,oO,oO] 93)).drew:=((Chg.refl _ W).alloc _).drew
      have nbA:Blk (W.alloc (Obj.cells #[oO,oO,oO] 93)).drew W.heap.size #[oO,oO,oO] 93:=(Blk.new W _ 93).drew
      have fA:∀ (w1:World),Chg () (W.alloc (Obj.cells #[oO,oO,oO] 93)).drew w1->w1.cell? ⟨rb,10,none⟩=some (.int .i64 Rk.top.pc)/\w1.cell? ⟨fb,0,none⟩=some (.int .i64 fn.args)/\w1.cell? ⟨fb,1,none⟩=some (.slice la fn.locals.length lc)/\w1.cell? ⟨fb,2,none⟩=some (.int .i64 fn.result)/\w1.cell? ⟨fb,3,none⟩=some (.slice ca fn.code.length cc):=fun w1 k1=>⟨(bW.chg (kA.trans k1) (fun q=>q)).cell 10,(nX.chg (kA.trans k1) (fun q=>q)).cell 0,(nX.chg (kA.trans k1) (fun q=>q)).cell 1,(nX.chg (kA.trans k1) (fun q=>q)).cell 2,(nX.chg (kA.trans k1) (fun q=>q)).cell 3⟩
      have fB:∀ (w1:World),Chg () W.drew w1->w1.cell? ⟨rb,10,none⟩=some (.int .i64 Rk.top.pc)/\w1.cell? ⟨fb,0,none⟩=some (.int .i64 fn.args)/\w1.cell? ⟨fb,1,none⟩=some (.slice la fn.locals.length lc)/\w1.cell? ⟨fb,2,none⟩=some (.int .i64 fn.result)/\w1.cell? ⟨fb,3,none⟩=some (.slice ca fn.code.length cc):=fun w1 k1=>⟨(bW.drew.chg k1 (fun q=>q)).cell 10,(nX.drew.chg k1 (fun q=>q)).cell 0,(nX.drew.chg k1 (fun q=>q)).cell 1,(nX.drew.chg k1 (fun q=>q)).cell 2,(nX.drew.chg k1 (fun q=>q)).cell 3⟩
      have n1:rb ≠ W.heap.size:=Nat.ne_of_lt bW.lt
      have n1':W.heap.size ≠ rb:=n1.symm
      have n2:fb ≠ W.heap.size:=Nat.ne_of_lt nX.lt
      have n2':W.heap.size ≠ fb:=n2.symm
      go_region_held3 (fun w'=>w'.cell? ⟨rb,10,none⟩=some (.int .i64 Rk.top.pc)/\w'.cell? ⟨fb,0,none⟩=some (.int .i64 fn.args)/\w'.cell? ⟨fb,1,none⟩=some (.slice la fn.locals.length lc)/\w'.cell? ⟨fb,2,none⟩=some (.int .i64 fn.result)/\w'.cell? ⟨fb,3,none⟩=some (.slice ca fn.code.length cc)) (go_keep) (first | (go_at_call 39;first | (refine (HQ2.out _ kA).mono ?_;rintro e w1 ⟨rfl,k1⟩;obtain ⟨q0,q1,q2,q3,q4⟩:=fA w1 k1;obtain ⟨o0,o1,o2,z0,z1,z2⟩:=cells3 (nbA.chg k1 (fun q=>q))) | (refine (HQ2.out _ ((Chg.refl _ W).drew)).mono ?_;rintro e w1 ⟨rfl,k1⟩;obtain ⟨q0,q1,q2,q3,q4⟩:=fB w1 k1)))
      all_goals
       first
       | (obtain ⟨nY,kY⟩:=set3new (nbA.chg k1 (fun q=>q)) (kA.trans k1) (Nat.le_refl _) (.int .i64 x.1) (.int .i64 x.2.1) (.int .i64 x.2.2)
          generalize (((w1.setCell ⟨W.heap.size,0,none⟩ x.1).setCell ⟨W.heap.size,1,none⟩ x.2.1).setCell ⟨W.heap.size,2,none⟩ x.2.2)=wX at nY kY ⊢
          generalize hfb:W.heap.size=nb at nY ⊢
          exact key wX nb ⟨nY,kY⟩)
       | (have nY:=Blk.new w1 #[.int .i64 x.1,.int .i64 x.2.1,.int .i64 x.2.2] 93
          have kY:Chg () W _:=(((Chg.refl _ W).drew).trans k1).alloc (Obj.cells #[x.1,x.2.1,x.2.2] 93)
          generalize w1.alloc (Obj.cells #[x.1,x.2.1,x.2.2] 93)=wX at nY kY ⊢
          generalize hfb:w1.heap.size=nb at nY ⊢
          exact key wX nb ⟨nY,kY⟩)
     case h1 =>
      rintro W2 nb ⟨nY,kY⟩
      have kXY:=kX.trans kY
      have x14:W2.cell? ⟨rb,14,none⟩=some (.int .i64 (Rk.used:Int)):=(bW.chg kY (fun q=>q)).cell 14
      have x13:W2.cell? ⟨rb,13,none⟩=some (.slice ia inp.length ic):=(bW.chg kY (fun q=>q)).cell 13
      have z0:W2.cell? ⟨nb,0,none⟩=some (.int .i64 x.1):=nY.cell 0
      clear nX kX kY bW HQ2 HX
      by_cases hop:x.1=18
      ·have hd1:(x.1 == 18)=true:=by simp [hop]
       have HOP:=hid hop
       clear hop
       by_cases hw:inp.length<=Rk.used
       ·have hd2:decide ((inp.length:Int)<=(Rk.used:Int))=true:=by simp;omega
        have HTD:Hid ((Rk,(2:Int))=T):=by
         show _=T
         rw [<-HT2.out,if_pos ⟨HOP.out,by rw [HI.out];exact hw⟩]
        clear HT2
        go_wp2_with fail
        go_quiet (fail)
        have kD:=kXY.drewN nq
        have G3:=hid (HR.out.new kD)
        have KD:=hid (KR.new kD)
        clear x13 x14 z0 nY kD kXY
        generalize W2.drewN nq=W3 at *
        go_wp2
        go_ret
        exact ⟨by rw [<-HTD.out];rfl,HK.out.trans KD.out,Vk,by rw [<-HTD.out];exact G3.out⟩
       ·have hd2:decide ((inp.length:Int)<=(Rk.used:Int))=false:=by simp;omega
        have HTD:goOnP c (n - (k+1)) (doP c x Rk)=T:=by
         rw [<-HT2.out,if_neg (by rw [HI.out];omega)]
        have HTD':=hid HTD
        clear HT2 HTD
        go_wp2_with fail
        go_quiet (fail)
        have kD:=kXY.drewN nq
        have nY3:=nY.drewN nq
        have G3:=hid (HR.out.new kD)
        clear x13 x14 z0
        generalize W2.drewN nq=W3 at *
        obtain ⟨z0,z1,z2,_,_,_⟩:=cells3 nY3
        have KD:=hid (KR.new kD)
        clear kD nY nY3 kXY
        go_wp2_with fail
        refine (do_any G3.out hnw RO.out (by rw [HI.out];exact HIN.out) x HD.out (by omega) (by omega) (fun _=>by rw [HI.out];omega)).mono ?_
        rintro ex w5 ⟨rfl,k5,V5,g5⟩
        have G5:=hid g5
        have K5:Hid (KR w w5):=HK.out.trans (KD.out.trans k5)
        clear g5 k5 KD G3 z0 z1 z2
        go_wp2
        exact ⟨⟨k+1,doP c x Rk,V5,by omega,by simp,G5.out,K5.out,HS.out.1,by rw [HS.out.2];exact HI.out,by have:=(do_ou c x Rk).1;omega,by have:=(do_ou c x Rk).2;omega,HTD'.out⟩,by simp [intOf];omega⟩
      ·have hd1:(x.1 == 18)=false:=by simp [hop]
       have HTD:goOnP c (n - (k+1)) (doP c x Rk)=T:=by
        rw [<-HT2.out,if_neg (fun q=>hop q.1)]
       have HTD':=hid HTD
       have HOP:=hid hop
       clear HT2 HTD hop
       go_wp2_with fail
       go_quiet (fail)
       have kD:=kXY.drewN nq
       have nY3:=nY.drewN nq
       have G3:=hid (HR.out.new kD)
       clear x13 x14 z0
       generalize W2.drewN nq=W3 at *
       obtain ⟨z0,z1,z2,_,_,_⟩:=cells3 nY3
       have KD:=hid (KR.new kD)
       clear kD nY nY3 kXY
       go_wp2_with fail
       refine (do_any G3.out hnw RO.out (by rw [HI.out];exact HIN.out) x HD.out (by omega) (by omega) (fun q=>absurd q HOP.out)).mono ?_
       rintro ex w5 ⟨rfl,k5,V5,g5⟩
       have G5:=hid g5
       have K5:Hid (KR w w5):=HK.out.trans (KD.out.trans k5)
       clear g5 k5 KD G3 z0 z1 z2
       go_wp2
       exact ⟨⟨k+1,doP c x Rk,V5,by omega,by simp,G5.out,K5.out,HS.out.1,by rw [HS.out.2];exact HI.out,by have:=(do_ou c x Rk).1;omega,by have:=(do_ou c x Rk).2;omega,HTD'.out⟩,by simp [intOf];omega⟩
   ·have hbe:(Rk.status != 0)=true:=by simp [h0]
    have HTD:Hid ((Rk,Rk.status)=T):=by
     show _=T
     rw [<-HT.out,e1]
     conv=>rhs;unfold goOnP
     rw [if_pos h0]
    clear HT
    go_wp2
    go_ret
    exact ⟨by rw [<-HTD.out];rfl,HK.out,Vk,by rw [<-HTD.out];exact HR.out⟩
  ·have hlt':(n:Int)<=(k:Int):=by omega
   have HTD:Hid ((Rk,Rk.status)=T):=by
    show _=T
    rw [<-HT.out,show n - k=0 by omega];rfl
   clear HT
   go_wp2
   go_ret
   exact ⟨by rw [<-HTD.out];rfl,HK.out,Vk,by rw [<-HTD.out];exact HR.out⟩
end
end Go.Proofs.Ytnfnbcbadakofab
namespace Go.Proofs.Ytnfnbcbadakofab
open Go.RowKit
theorem tu_form {c:Cx} {ms ns:List Int} {R:Rn} (h:tuP c ms ns=some R):R.inp=[]/\R.used=0/\R.out=[]/\(R.status ≠ 0->R.words=[]/\R.below=[]/\R.top=⟨0,0,[],[]⟩):=by
 unfold tuP at h
 split at h
 ·cases h
 ·simp only [Option.some.injEq] at h
  subst h
  unfold tuR
  simp only
  split
  ·exact ⟨rfl,rfl,rfl,fun q=>absurd rfl q⟩
  ·exact ⟨rfl,rfl,rfl,fun _=>⟨rfl,rfl,rfl⟩⟩
theorem tu_rb {c:Cx} (ok:CxOk c) {ms ns:List Int} {R:Rn} (h:tuP c ms ns=some R) (hr:∃ D,Rel c D R):RB c R:=by
 obtain ⟨D,hr⟩:=hr
 rcases hr.st with ⟨_,_,phi,sm⟩ | ⟨q,_⟩
 ·exact sm.rb ok
 ·obtain ⟨_,_,_,hx⟩:=tu_form h
  obtain ⟨e1,e2,e3⟩:=hx (by omega)
  have h6:=ok.pg.t6
  refine ⟨by rw [e1];simp,by rw [e1];simp,by simp only at h6;omega,flds_5 (fun l hl=>(ok.pg.tf l hl).1),by rw [e2];simp,by rw [e2];simp,?_⟩
  rw [e3]
  exact ⟨by simp,by simp,by simp,by simp⟩
section
variable {W0 W1 w w':World} {rb:Nat} {s:ByteArray} {tv fv sv iv:Value} {R:Rn} {V:RV} {c:Cx}
theorem LI.ri (h:LI W0 w R V) (k:Chg () w w') (hb:Blk w' rb (rcs s tv fv sv iv R V) 65) (ho:R.out=[]):RI W0 w' rb s tv fv sv iv R V:=by
 have q3:∀ (u:Value) (l:List Int),IntsV w W0.heap.size u l->IntsV w' W0.heap.size u l:=fun u l hu=>own_chg hu k (fun _ _ q=>q)
 refine ⟨(h.ch.trans k).ofNew,hb,q3 _ _ h.ww,q3 _ _ h.ll,q3 _ _ h.kk,?_,h.be,own_chg h.bb k (fun _ _ q=>q),fun x hx=>⟨q3 _ _ (h.xx x hx).1,q3 _ _ (h.xx x hx).2⟩,h.sp⟩
 rw [h.ov,ho];exact World.ownsRow_nil _ _ _ _
theorem RI.vals (h:RI W1 w rb s tv fv sv iv R V):∃ wa wc ba bc la lc ka kc oa oc,V.wv=.slice wa R.words.length wc/\V.bv=.slice ba R.below.length bc/\V.lv=.slice la R.top.locals.length lc/\V.kv=.slice ka R.top.stack.length kc/\V.ov=.slice oa R.out.length oc:=by
 obtain ⟨wa,wc,h1⟩:=h.ww.slice
 obtain ⟨ba,bc,h2⟩:=row_slice h.bb
 obtain ⟨la,lc,h3⟩:=h.ll.slice
 obtain ⟨ka,kc,h4⟩:=h.kk.slice
 obtain ⟨oa,oc,h5⟩:=h.oo.slice
 have hl:V.xs.length=R.below.length:=by rw [<-h.be,List.length_map]
 rw [hl] at h2
 exact ⟨wa,wc,ba,bc,la,lc,ka,kc,oa,oc,h1,h2,h3,h4,h5⟩
theorem lay_ri (h:RI W1 w rb s tv fv sv iv R V) (hs:s.size<=800) (ht:∃ a n c,tv=.slice a n c) (hf:∃ a n c,fv=.slice a n c) (hv:∃ a n c,sv=.slice a n c) (hi:∃ a n c,iv=.slice a n c) (hwl:R.words.length<=10000) (hbl:R.below.length<=100) (hfb:∀ f ∈ R.below,f.locals.length<=10000/\f.stack.length<=10000) (htl:R.top.locals.length<=10000) (htk:R.top.stack.length<=10000) :
 Calls Try.prog 22 #[.agg (rcs s tv fv sv iv R V)] w fun e w'=>∃ v,e=.returned v/\IntsV w' w.heap.size v (layR (mksP s) R)/\Chg () w w':=by
 obtain ⟨ta,tn,tc,rfl⟩:=ht
 obtain ⟨fa,fn,fc,rfl⟩:=hf
 obtain ⟨sa,sn,sc,rfl⟩:=hv
 obtain ⟨ia,inn,ic,rfl⟩:=hi
 obtain ⟨wa,wc,ba,bc,la,lc,ka,kc,oa,oc,h1,h2,h3,h4,h5⟩:=h.vals
 have hw:=h.ww
 have hl:=h.ll
 have hk:=h.kk
 have hb:FramesV w W1.heap.size V.bv R.below:=⟨V.xs,h.be,h.bb,h.xx⟩
 unfold rcs
 rw [h1] at hw ⊢
 rw [h2] at hb ⊢
 rw [h3] at hl ⊢
 rw [h4] at hk ⊢
 rw [h5]
 exact layDown_any s hs ta fa sa ia oa wa ba la ka tn tc fn fc sn sc inn ic R.out.length oc wc bc lc kc R.heap R.depth R.status R.used R.words R.below R.top w W1.heap.size hw hb hl hk hwl hbl hfb htl htk
end
theorem mvFrs_bounds {c:Cx} {frm:List Int} (hfv:∀ v ∈ frm,0<=v/\v<=65535) (hl:frm.length<=4000) (h5:∀ t,(flds c.ls t).length<=5) (fs:List Fr) (hfs:∀ f ∈ fs,f.locals.length<=1000/\f.stack.length<=1000):∀ (m:Mv),MB frm m->(mvFrs c frm fs m).1.length=fs.length/\∀ f ∈ (mvFrs c frm fs m).1,f.locals.length<=1000/\f.stack.length<=1000:=by
 induction fs with
 | nil=>intro m _;exact ⟨rfl,fun f hf=>by cases hf⟩
 | cons f fs ih =>
  intro m hm
  rw [mvFrs_cons]
  obtain ⟨a,b⟩:=ih (fun g hg=>hfs g (by simp [hg])) _ (mvFr_bd hfv hl h5 f m hm)
  refine ⟨by simp [a],fun g hg=>?_⟩
  rcases List.mem_cons.1 hg with rfl | hg
  ·have h1:=mvL_bd (ls:=c.ls) (ks:=(fnAt c.fs f.fn).locals) hfv hl h5 f.locals 0 m hm
   have h2:=mvL_bd (ls:=c.ls) (ks:=skP c.sps f.fn f.pc) hfv hl h5 f.stack 0 _ h1.1
   have q:=hfs f (by simp)
   refine ⟨?_,?_⟩
   ·show (mvL _ _ _ _ _ _).1.length<=1000
    rw [h1.2];exact q.1
   ·show (mvL _ _ _ _ _ _).1.length<=1000
    rw [h2.2];exact q.2
  ·exact b g hg
theorem clr_all {c:Cx} {R:Rn} (hb:RB c R):(clrP c R).words.length<=24000/\(clrP c R).below.length=R.below.length/\(∀ f ∈ (clrP c R).below,f.locals.length<=1000/\f.stack.length<=1000)/\(clrP c R).top.locals.length<=1000/\(clrP c R).top.stack.length<=1000:=by
 obtain ⟨a,b⟩:=mvFrs_bounds hb.wv hb.wl hb.s5 R.below (fun f hf=>⟨(hb.fb f hf).ll,(hb.fb f hf).kl⟩) _ (MB.start R.words)
 have b1:=mvFrs_bd hb.wv hb.wl hb.s5 R.below _ (MB.start R.words)
 refine ⟨(clr_bd hb).1,a,b,?_,(clr_bd hb).2⟩
 show (mvL _ _ _ _ _ _).1.length<=1000
 rw [(mvL_bd (ls:=c.ls) (ks:=_) hb.wv hb.wl hb.s5 R.top.locals 0 _ b1).2]
 exact hb.tb.ll
end Go.Proofs.Ytnfnbcbadakofab
