import Derived.Test.YtnfnbcbadakofaaGreatBg2
import Derived.Test.YtnfnbcbadakofaaGreatGpl
namespace Go.Proofs.YtnfnbcbadakofaaGreat
open Go.RowKit
theorem mZ (c:Cx) (x:Int × Int × Int) (D:Dn):(fL c x D).recs.length<=D.recs.length+1:=by
 unfold fL
 repeat' split
 all_goals simp
theorem jw (c:Cx) (inp:List Int) (x:Int × Int × Int) (D:Dn):(aN c inp x D).recs.length<=D.recs.length+1:=by
 unfold aN cp
 repeat' split
 all_goals first
  | exact Nat.le_succ _
  | exact mZ c x (ap D)
  | (unfold ie;split <;> exact Nat.le_succ _)
  | (unfold dc;split <;> exact Nat.le_succ _)
def Gs (c:Cx) (inp:List Int) (D:Dn):Prop:=∃ R,Rel c D R/\D.status=R.status/\D.out=R.out/\D.used=R.used/\R.inp=inp
theorem Gs.step {c:Cx} (ok:bM c) {inp:List Int} {D:Dn} (h:Gs c inp D) (h0:D.status=0) :
 (∃ R phi f rest,Cu c D R phi f (bP c D) rest)/\Gs c inp (aN c inp (bP c D) D)/\(aN c inp (bP c D) D).out.length<=D.out.length+1/\(aN c inp (bP c D) D).used<=D.used+1:=by
 obtain ⟨R,hr,hs,ho,hu,hi⟩:=h
 rcases hr.st with ⟨q0,_,phi,sm⟩ | ⟨q,_⟩
 ·obtain ⟨f,x,rest,cu,e1,e2⟩:=sm.cu ok
  rw [e2]
  have nx:=hH ok cu h0 q0 ho hu
  rw [hi] at nx
  have hh:=nx.hp
  have hb:=iO c x R
  refine ⟨⟨R,phi,f,rest,cu⟩,⟨doP c x R,⟨by rw [hh.2.2.1,hh.1];exact hr.heap,by rw [hh.2.2.2,hh.2.1];exact hr.depth,by rw [hh.1];exact hr.h0,by rw [hh.1];exact hr.h4,by rw [hh.2.1];exact hr.d1,by rw [hh.2.1];exact hr.d64,?_⟩,nx.st,nx.out,nx.used,by rw [nx.inp];exact hi⟩,by rw [nx.out,ho];exact hb.1,by rw [nx.used,hu];exact hb.2⟩
  rcases nx.ends with q | q
  ·exact .inl ⟨q,.inl (by rw [nx.st,q]),nx.go q⟩
  ·exact .inr ⟨q,nx.st⟩
 ·omega
theorem rU (c:Cx) (inp:List Int) (D:Dn) (j:Nat) (h:D.status ≠ 0):en c inp j D=D:=by
 cases j with
 | zero=>rfl
 | succ q=>unfold en;rw [if_pos h]
theorem qF {W1:World} {b1:Nat} {fv:Value} {fs:List Fn} (hF:aj 93 107 W1 b1 fv fs) {f pc:Int} (f0:0<=f) (fl:f < (fs.length:Int)) (p0:0<=pc) (pl:pc < ((aq fs f).code.length:Int)) :
 ∃ fi pi g cap g2 cap2 cn:Nat,f=(fi:Int)/\pc=(pi:Int)/\fi < fs.length/\pi < cn/\fv=.slice g fs.length cap/\W1.cell? ⟨g,fi * 4+3,none⟩=some (.slice g2 cn cap2) /\
  W1.cell? ⟨g2,pi * 3,none⟩=some (.int .i64 (aV (aq fs f) pc).1)/\W1.cell? ⟨g2,pi * 3+1,none⟩=some (.int .i64 (aV (aq fs f) pc).2.1)/\W1.cell? ⟨g2,pi * 3+2,none⟩=some (.int .i64 (aV (aq fs f) pc).2.2):=by
 have hfl:f.toNat < fs.length:=by omega
 have e1:aq fs f=fs[f.toNat]:=by unfold aq;rw [dif_pos ⟨f0,hfl⟩]
 rw [e1] at pl
 obtain ⟨g,cap,hv,_,hc⟩:=hF.formS (by omega)
 obtain ⟨lv,cv,_,_,_,c3,_,hC⟩:=hc f.toNat hfl
 have hpl:pc.toNat < fs[f.toNat].code.length:=by omega
 obtain ⟨g2,cap2,rfl,_,_,_,hi⟩:=hC.form (by omega)
 obtain ⟨i0,i1,i2⟩:=hi pc.toNat hpl
 have e2:aV (aq fs f) pc=fs[f.toNat].code[pc.toNat]:=by
  rw [e1];unfold aV
  rw [if_neg (by omega),List.getD_eq_getElem?_getD,List.getElem?_eq_getElem hpl];rfl
 rw [e2]
 exact ⟨f.toNat,pc.toNat,g,cap,g2,cap2,_,by omega,by omega,hfl,hpl,hv,c3,i0,i1,i2⟩
section
variable {W1 w w':World} {rb:Nat} {tv fv:Value} {D:Dn} {V:DV}
theorem DI.nums (h:DI W1 w rb tv fv D V) (k:Chg (fun j=>j=rb) w w') {D':Dn} (hb:Blk w' rb (dcs tv fv D' V) 53) (ho:D'.out=D.out) (hf:az D'=az D) (hr:D'.recs=D.recs):aG W1 w rb tv fv V D.out D' w':=
 h.fin (V':=V) (h.oe.box k) (by rw [ho]) hb (by rw [hf];exact h.fe) (by rw [hr];exact h.re)
set_option maxHeartbeats 8000000 in
set_option maxRecDepth 100000 in
theorem nW (h:DI W1 w rb tv fv D V) {c:Cx} (ok:bM c) {inp:List Int} {b1 b2:Nat} (hT:ai W1 b2 tv c.ls) (hF:aj 93 107 W1 b1 fv c.fs) (iv:Value) (hi:RdA W1 iv inp) (n:Nat) (hn:n<=10000) (hg:Gs c inp { D with out:=[],used:=0,status:=if D.status=2 then 0 else D.status }) (hrl:D.recs.length<=900000000000) :
 Calls Tryz.prog 20 #[.pointer rb,iv,n] w fun e w'=>e=.returned (.tuple #[])/\aG W1 w rb tv fv V D.out (dGo c inp n D) w':=by
 obtain ⟨ia,ic,rfl⟩:=hi.slice
 have x4:w.cell? ⟨rb,4,none⟩=some (.int .i64 D.status):=h.bx.cell 4
 have x7:w.cell? ⟨rb,7,none⟩=some V.ov:=h.bx.cell 7
 have x8:w.cell? ⟨rb,8,none⟩=some (.int .i64 (D.used:Int)):=h.bx.cell 8
 have f4:=h.bx.frozen 4
 have f7:=h.bx.frozen 7
 have f8:=h.bx.frozen 8
 obtain ⟨oa,oc,hov⟩:∃ a c,V.ov=.slice a D.out.length c:=(show ad w W1.heap.size V.ov D.out from h.ow.ok (orw V D.out) (by simp [aw])).slice
 rw [hov] at x7
 obtain ⟨D0,hD0⟩:∃ D0:Dn,D0 = { D with out:=[],used:=0,status:=if D.status=2 then 0 else D.status }:=⟨_,rfl⟩
 have hdg:dGo c inp n D=en c inp n D0:=by rw [hD0];rfl
 rw [hdg]
 rw [<-hD0] at hg
 have start:∀ w2:World,Chg (fun j=>j=rb) w w2->Blk w2 rb (dcs tv fv D0 { V with ov:=.slice none 0 0 }) 53->aG W1 w rb tv fv V D.out D0 w2:=by
  intro w2 k2 hb2
  have p:(aw V D.out).Perm (orw V D.out::frw V::rrw V::(fsr V.fs++rsr V.rs)):=((List.Perm.swap _ _ _).cons _).trans (List.Perm.swap _ _ _)
  have o1:=((h.oe.box k2).perm p).sub (M:=frw V::rrw V::(fsr V.fs++rsr V.rs)) (List.sublist_cons_self _ _)
  have o2:=o1.add (r':=orw { V with ov:=.slice none 0 0 } []) (Chg.refl _ _) (World.ownsRow_nil _ _ _ _) (fun g hg=>by cases hg)
  refine h.fin (D':=D0) (V':={ V with ov:=.slice none 0 0 }) o2 ?_ hb2 ?_ ?_
  ·rw [hD0];exact (List.Perm.swap _ _ _).trans ((List.Perm.swap _ _ _).cons _)
  ·rw [hD0]
   have:=h.fe
   unfold az at this ⊢
   simp only
   by_cases q2:D.status=2
   ·rw [if_pos q2,if_pos (.inl rfl)];rw [if_pos (.inr q2)] at this;exact this
   ·rw [if_neg q2];exact this
  ·rw [hD0];exact h.re
 have START:=hid start
 have HBX:=hid (h.bx)
 have HG:=hid hg
 have HI:=hid hi
 have HT:=hid hT
 have HF:=hid hF
 have OK:=hid ok
 have HD0:=hid hD0
 have HR0:Hid (D0.out.length=0/\D0.used=0/\D0.recs.length<=900000000000):=by rw [hD0];exact ⟨rfl,rfl,hrl⟩
 have HV:=hid hov
 clear h hg hi hT hF ok hD0 start hov hdg
 have hkn:∀ a b c:Value,Chg (fun j=>j=rb) w (((w.setCell ⟨rb,7,none⟩ a).setCell ⟨rb,8,none⟩ b).setCell ⟨rb,4,none⟩ c):=fun a b c=>Chg.setCell (S:=fun j=>j=rb) (Chg.setCell (S:=fun j=>j=rb) (Chg.setCell (S:=fun j=>j=rb) (Chg.refl _ _) _ _ (.inl rfl)) _ _ (.inl rfl)) _ _ (.inl rfl)
 have hkm:∀ a b:Value,Chg (fun j=>j=rb) w ((w.setCell ⟨rb,7,none⟩ a).setCell ⟨rb,8,none⟩ b):=fun a b=>Chg.setCell (S:=fun j=>j=rb) (Chg.setCell (S:=fun j=>j=rb) (Chg.refl _ _) _ _ (.inl rfl)) _ _ (.inl rfl)
 have DN1:Hid (D.status=2->aG W1 w rb tv fv V D.out D0 (((w.setCell ⟨rb,7,none⟩ ()).setCell ⟨rb,8,none⟩ oO).setCell ⟨rb,4,none⟩ oO)):=fun q=>by
  refine START.out _ (hkn _ _ _) ?_
  have:=((HBX.out.set 7 (.slice none 0 0)).set 8 (.int .i64 0)).set 4 (.int .i64 0)
  rw [HD0.out,if_pos q]
  exact this
 have DN2:Hid (D.status ≠ 2->aG W1 w rb tv fv V D.out D0 ((w.setCell ⟨rb,7,none⟩ ()).setCell ⟨rb,8,none⟩ oO)):=fun q=>by
  refine START.out _ (hkm _ _) ?_
  have:=(HBX.out.set 7 (.slice none 0 0)).set 8 (.int .i64 0)
  rw [HD0.out,if_neg q]
  exact this
 clear hkn hkm
 rcases Decidable.em (D.status=2) with h2 | h2
 case' inl =>
  have h2':(D.status == 2)=true:=by simp [h2]
  have DN:=DN1.out h2
  go_enter Tryz.func20,Tryz.ntmps20
  go_wp2
  generalize (((w.setCell ⟨rb,7,none⟩ ()).setCell ⟨rb,8,none⟩ oO).setCell ⟨rb,4,none⟩ oO)=w2 at *
 case' inr =>
  have h2':(D.status == 2)=false:=by simp [h2]
  have DN:=DN2.out h2
  go_enter Tryz.func20,Tryz.ntmps20
  go_wp2
  generalize ((w.setCell ⟨rb,7,none⟩ ()).setCell ⟨rb,8,none⟩ oO)=w2 at *
 all_goals
  obtain ⟨V2,d2,e2⟩:=DN
  have D2:=hid d2
  have E2:=hid e2
  clear d2 e2 x4 x7 x8 f4 f7 f8 h2 h2'
  obtain ⟨T,hT⟩:∃ T,en c inp n D0=T:=⟨_,rfl⟩
  have HTT:=hid hT
  clear hT
  go_loopw [6] (fun iv wr=>∃ (k:Nat) (Dk:Dn) (Vk:DV),iv=.int .i64 (k:Int)/\k<=n/\DI W1 wr rb tv fv Dk Vk/\Ev rb (aw V D.out) w (aw Vk Dk.out) wr/\en c inp (n - k) Dk=T/\(Dk.status=2 \/ Gs c inp Dk)/\Dk.out.length<=k/\Dk.used<=k/\Dk.recs.length<=900000000000+k) (fun iv _=>n - (intOf iv).toNat)
  case atStart=>exact ⟨0,D0,V2,rfl,Nat.zero_le _,D2.out,E2.out,HTT.out,.inr HG.out,by have:=HR0.out;omega,by have:=HR0.out;omega,by have:=HR0.out;omega⟩
  case round =>
   clear D2 E2
   obtain ⟨k,Dk,Vk,rfl,hk,dk,ek,hE,hgk,hok,huk,hrk⟩:=hrel
   have DK:=hid dk
   have EK:=hid ek
   have HE:=hid hE
   have HGK:=hid hgk
   have y4:wr.cell? ⟨rb,4,none⟩=some (.int .i64 Dk.status):=dk.bx.cell 4
   clear dk ek hE hgk
   by_cases hlt:k < n
   ·have hlt':(k:Int) < (n:Int):=by omega
    by_cases hst:Dk.status=0
    ·have hst':(Dk.status == 0)=true:=by simp [hst]
     have hgs:Gs c inp Dk:=HGK.out.resolve_left (by omega)
     obtain ⟨⟨R,phi,f,rest,cu⟩,gs1,ho1,hu1⟩:=hgs.step OK.out hst
     have GS1:=hid gs1
     have CU:=hid cu
     obtain ⟨fi,pi,fg,fcap,g2,cap2,cn,hfi,hpi,hfl,hpn,hfv,c3,i0,i1,i2⟩:=qF HF.out (f:=Dk.top.fn) (pc:=Dk.top.pc) (by rw [cu.tp.dfn];exact cu.tp.f0) (by rw [cu.tp.dfn];exact cu.tp.fl) (by rw [cu.tp.pc];exact cu.tp.p0) (by rw [cu.tp.pc,cu.tp.dfn];exact cu.tp.pl)
     obtain ⟨xs,lv,kv,e,hxs⟩:=DK.out.top (.inl hst)
     obtain ⟨g,cap,hg,hg1,hg2,hc1,hc2,d0,d1,d2,d3,fz,gcs,gb⟩:=DK.out.frs e
     have hxl:xs.length=Dk.below.length:=by rw [<-hxs,List.length_map]
     obtain ⟨la,lc,hlv⟩:∃ a c,lv=.slice a Dk.top.locals.length c:=(show aO wr W1.heap.size lv Dk.top.locals from DK.out.ow.ok (vrw lv Dk.top.locals) (by simp [aw,fsr,e])).slice
     obtain ⟨ka,kc,hkv⟩:∃ a c,kv=.slice a Dk.top.stack.length c:=(show aO wr W1.heap.size kv Dk.top.stack from DK.out.ow.ok (vrw kv Dk.top.stack) (by simp [aw,fsr,e])).slice
     simp only [hlv,hkv] at d2 d3
     generalize Dk.top.locals.length=ll at *
     generalize Dk.top.stack.length=kl at *
     have y5:wr.cell? ⟨rb,5,none⟩=some (.slice g (xs.length+1) cap):=by rw [<-hg];exact DK.out.bx.cell 5
     have y1:wr.cell? ⟨rb,1,none⟩=some (.slice fg c.fs.length fcap):=by rw [<-hfv];exact DK.out.bx.cell 1
     have y8:wr.cell? ⟨rb,8,none⟩=some (.int .i64 (Dk.used:Int)):=DK.out.bx.cell 8
     have hxn:xs.length<=1000:=by
      have h1:=cu.sm.bl
      have h2:=cu.sm.d64
      have h3:=cu.bel.len
      omega
     have HC:Hid (∀ w1,((bP c Dk).1=18->Dk.used < inp.length)->Chg () wr w1->Calls Tryz.prog 34 #[.pointer rb,.agg #[.int .i64 (bP c Dk).1,.int .i64 (bP c Dk).2.1,.int .i64 (bP c Dk).2.2],.slice ia inp.length ic] w1 fun e w'=>e=.returned (.tuple #[])/\aG W1 wr rb tv fv Vk Dk.out (aN c inp (bP c Dk) Dk) w'):=fun w1 rd k1 =>
      (mq (DK.out.new k1) (cu.stok OK.out hst rd (by omega) (by omega) (by omega)) HT.out HF.out _ HI.out).mono fun e w' ⟨h1,V',h2,h3⟩=>⟨h1,V',h2,(Ev.new rb _ k1).trans h3⟩
     have HE2:Hid ((if (bP c Dk).1=18/\inp.length<=Dk.used then { Dk with status:=2 } else en c inp (n - (k+1)) (aN c inp (bP c Dk) Dk))=T):=by
      show _=T
      rw [<-HE.out,show n - k=(n - (k+1))+1 by omega]
      conv=>rhs;unfold en
      rw [if_neg (show ¬ (Dk.status ≠ 0) by rw [hst];simp)]
     have HSO:Hid ((aN c inp (bP c Dk) Dk).out.length<=k+1/\(aN c inp (bP c Dk) Dk).used<=k+1/\(aN c inp (bP c Dk) Dk).recs.length<=900000000000+(k+1)):=by
      have:=jw c inp (bP c Dk) Dk
      exact ⟨by omega,by omega,by omega⟩
     rw [hfi] at d0
     rw [hpi] at d1
     have j3:=DK.out.ch.cellF c3
     have j0:=DK.out.ch.cellF i0
     have j1:=DK.out.ch.cellF i1
     have j2:=DK.out.ch.cellF i2
     change wr.cell? _=some (.int .i64 (bP c Dk).1) at j0
     change wr.cell? _=some (.int .i64 (bP c Dk).2.1) at j1
     change wr.cell? _=some (.int .i64 (bP c Dk).2.2) at j2
     have hfi':(fi:Int) < (c.fs.length:Int):=by omega
     have hpi':(pi:Int) < (cn:Int):=by omega
     have hix:(xs.length:Int) < (xs.length:Int)+1:=by omega
     generalize bP c Dk=x at *
     generalize c.fs.length=fln at *
     generalize xs.length=m at *
     clear hgs cu gs1 ho1 hu1 hfi hpi hfl hpn hfv c3 i0 i1 i2 e hxs hg fz gb hxl hlv hkv hst HE hrl START HBX HG DN1 DN2 CU
     go_wp2_with fail
     have m1:rb ≠ wr.heap.size:=Nat.ne_of_lt DK.out.bx.lt
     have m1':=m1.symm
     have m2:g ≠ wr.heap.size:=Nat.ne_of_lt hg2
     have m2':=m2.symm
     have hwm:IntKind.i64.wrap (m:Int)=(m:Int):=by rw [IntKind.wrap_i64];omega
     have kz:Chg () wr (wr.alloc (Obj.cells #[oO,oO,(),()] 72)):=(Chg.refl _ _).alloc _
     have e5:=kz.cellF y5
     have e0:=kz.cellF d0
     have e1:=kz.cellF d1
     have e2:=kz.cellF d2
     have e3:=kz.cellF d3
     clear kz
     go_region
     have k1:Chg () wr (wr.alloc (Obj.cells #[fi,pi,.slice la ll lc,.slice ka kl kc] 72)).drew:=((Chg.refl _ _).alloc _).drew
     obtain ⟨b0,b1',b2',b3',_,_,_,_⟩:=aL (Blk.new wr #[.int .i64 (fi:Int),.int .i64 (pi:Int),.slice la ll lc,.slice ka kl kc] 72).drew
     replace y1:=k1.cellF y1
     replace y8:=k1.cellF y8
     replace j0:=k1.cellF j0
     replace j1:=k1.cellF j1
     replace j2:=k1.cellF j2
     replace j3:=k1.cellF j3
     have K1:=hid k1
     clear e0 e1 e2 e3 e5 k1 y4 y5 d0 d1 d2 d3 m1 m1' m2 m2' hg1 hg2 hc1 hc2
     generalize (wr.alloc (Obj.cells #[fi,pi,.slice la ll lc,.slice ka kl kc] 72)).drew=w3 at *
     generalize wr.heap.size=fb at *
     go_wp2_with fail
     have m1:rb ≠ w3.heap.size:=Nat.ne_of_lt (World.block_lt_of_cell? w3 _ y1)
     have m1':=m1.symm
     have m2:fg ≠ w3.heap.size:=Nat.ne_of_lt (World.block_lt_of_cell? w3 _ j3)
     have m2':=m2.symm
     have m3:g2 ≠ w3.heap.size:=Nat.ne_of_lt (World.block_lt_of_cell? w3 _ j0)
     have m3':=m3.symm
     have m4:fb ≠ w3.heap.size:=Nat.ne_of_lt (World.block_lt_of_cell? w3 _ b0)
     have m4':=m4.symm
     have kz:Chg () w3 (w3.alloc (Obj.cells #[oO,oO,oO] 107)):=(Chg.refl _ _).alloc _
     have e1:=kz.cellF y1
     have e3:=kz.cellF j3
     have e4:=kz.cellF j0
     have e5:=kz.cellF j1
     have e6:=kz.cellF j2
     have e7:=kz.cellF b0
     have e8:=kz.cellF b1'
     clear kz
     go_region
     have k2:Chg () w3 (w3.alloc (Obj.cells #[x.1,x.2.1,x.2.2] 107)).drew:=((Chg.refl _ _).alloc _).drew
     obtain ⟨x0,x1,x2,_,_,_⟩:=i4 (Blk.new w3 #[.int .i64 x.1,.int .i64 x.2.1,.int .i64 x.2.2] 107).drew
     have y8':=k2.cellF y8
     have K2:=hid (K1.out.trans k2)
     clear e1 e3 e4 e5 e6 e7 e8 k2 K1 y1 y8 j0 j1 j2 j3 b0 b1' b2' b3' m1 m1' m2 m2' m3 m3' m4 m4'
     generalize (w3.alloc (Obj.cells #[x.1,x.2.1,x.2.2] 107)).drew=w4 at *
     generalize w3.heap.size=xb at *
     by_cases hop:x.1=18
     ·have hd1:(x.1 == 18)=true:=by simp [hop]
      have HOP:=hid hop
      clear hop
      by_cases hw:inp.length<=Dk.used
      ·as_aux_lemma =>
        have HTD:Hid ({ Dk with status:=2 } = T):=by
         show _=T
         rw [<-HE2.out,if_pos ⟨HOP.out,hw⟩]
        have d5:=DK.out.new K2.out
        have e5:=EK.out.trans (Ev.new rb _ K2.out)
        have y4:w4.cell? ⟨rb,4,none⟩=some (.int .i64 Dk.status):=d5.bx.cell 4
        have f4:=d5.bx.frozen 4
        have D5:=hid d5
        have E5:=hid e5
        have FZ:Hid (aG W1 w4 rb tv fv Vk Dk.out { Dk with status:=2 } (w4.setCell ⟨rb,4,none⟩ (2:Int))):=by
         refine D5.out.nums (D':={ Dk with status:=2 }) (Chg.setCell (S:=fun j=>j=rb) (Chg.refl _ _) _ _ (.inl rfl)) ?_ rfl ?_ rfl
         ·have:=D5.out.bx.set 4 (.int .i64 2)
          exact this
         ·have h0:Dk.status=0:=by simpa using hst'
          unfold az
          rw [if_pos (.inr rfl),if_pos (.inl h0)]
        clear d5 e5 HE2 HC K2 x1 x2
        go_wp2_with fail
        obtain ⟨V5,d5,e5⟩:=FZ.out
        exact ⟨⟨k+1,{ Dk with status:=2 },V5,by simp,by omega,d5,E5.out.trans e5,by rw [rU _ _ _ _ (by simp)];exact HTD.out,.inl rfl,Nat.le_succ_of_le hok,Nat.le_succ_of_le huk,Nat.le_succ_of_le hrk⟩,by simp [intOf];omega⟩
      ·as_aux_lemma =>
        have HTD:Hid (en c inp (n - (k+1)) (aN c inp x Dk)=T):=by
         show _=T
         rw [<-HE2.out,if_neg (fun q=>hw q.2)]
        have HC2:Hid (∀ w1,Chg () wr w1->Calls Tryz.prog 34 #[.pointer rb,.agg #[x.1,x.2.1,x.2.2],.slice ia inp.length ic] w1 fun e w'=>e=.returned (.tuple #[])/\aG W1 wr rb tv fv Vk Dk.out (aN c inp x Dk) w'):=fun w1=>HC.out w1 (fun _=>by omega)
        clear HE2 HC
        go_wp2_with fail
        refine (HC2.out _ K2.out).mono ?_
        rintro ex w5 ⟨rfl,V5,d5,e5⟩
        have D5:=hid d5
        have E5:=hid (EK.out.trans e5)
        clear d5 e5 x0 x1 x2 y8' HC2 K2
        go_wp2
        exact ⟨⟨k+1,aN c inp x Dk,V5,by simp,by omega,D5.out,E5.out,HTD.out,.inr GS1.out,HSO.out.1,HSO.out.2.1,HSO.out.2.2⟩,by simp [intOf];omega⟩
     ·as_aux_lemma =>
       have hd1:(x.1 == 18)=false:=by simp [hop]
       have HTD:Hid (en c inp (n - (k+1)) (aN c inp x Dk)=T):=by
        show _=T
        rw [<-HE2.out,if_neg (fun q=>hop q.1)]
       have HC2:Hid (∀ w1,Chg () wr w1->Calls Tryz.prog 34 #[.pointer rb,.agg #[x.1,x.2.1,x.2.2],.slice ia inp.length ic] w1 fun e w'=>e=.returned (.tuple #[])/\aG W1 wr rb tv fv Vk Dk.out (aN c inp x Dk) w'):=fun w1=>HC.out w1 (fun q=>absurd q hop)
       clear HE2 HC hop
       go_wp2_with fail
       refine (HC2.out _ K2.out).mono ?_
       rintro ex w5 ⟨rfl,V5,d5,e5⟩
       have D5:=hid d5
       have E5:=hid (EK.out.trans e5)
       clear d5 e5 x0 x1 x2 y8' HC2 K2
       go_wp2
       exact ⟨⟨k+1,aN c inp x Dk,V5,by simp,by omega,D5.out,E5.out,HTD.out,.inr GS1.out,HSO.out.1,HSO.out.2.1,HSO.out.2.2⟩,by simp [intOf];omega⟩
    ·have hst':(Dk.status == 0)=false:=by simp [hst]
     have HF2:Hid (Dk=T):=by
      show Dk=T
      rw [<-HE.out]
      cases n - k with
      | zero=>rfl
      | succ q=>unfold en;rw [if_pos hst]
     clear hst
     go_wp2
     refine bodyPost_end (v:=.tuple #[]) (by simp [results,Tryz.results20]) rfl ⟨rfl,?_⟩
     rw [HTT.out,<-HF2.out]
     exact ⟨Vk,DK.out,EK.out⟩
   ·have hlt':(n:Int)<=(k:Int):=by omega
    have HF2:Hid (Dk=T):=by
     show Dk=T
     rw [<-HE.out,show n - k=0 by omega];rfl
    go_wp2
    refine bodyPost_end (v:=.tuple #[]) (by simp [results,Tryz.results20]) rfl ⟨rfl,?_⟩
    rw [HTT.out,<-HF2.out]
    exact ⟨Vk,DK.out,EK.out⟩
end
end Go.Proofs.YtnfnbcbadakofaaGreat
