import Derived.Test.YtnfnbcbadakofaaGreatDgo
import Derived.Test.YtnfnbcbadakofaaGreatBg2
import Derived.Test.YtnfnbcbadakofaaGreatPks
namespace Go.Proofs.YtnfnbcbadakofaaGreat
open Go.RowKit
set_option maxHeartbeats 4000000
set_option maxRecDepth 100000
theorem ts {c:Cx} {D:Dn} {R:Rn} (h:Rel c D R) (inp:List Int):Gs c inp { D with out:=[],used:=0,status:=if D.status=2 then 0 else D.status }:=by
 have hb:=h.bare
 obtain ⟨b1,b2⟩:=i8 R
 generalize bare R=B at *
 refine ⟨{ B with inp:=inp },⟨hb.heap,hb.depth,hb.h0,hb.h4,hb.d1,hb.d64,?_⟩,?_,b2.symm,b1.symm,rfl⟩
 ·rcases hb.st with ⟨q,q',phi,sm⟩ | ⟨q,q'⟩
  ·refine .inl ⟨q,.inl ?_,phi,sm.out rfl rfl rfl rfl rfl rfl rfl rfl rfl rfl⟩
   show (if D.status=2 then 0 else D.status)=0
   rcases q' with q' | q'
   ·rw [if_neg (by omega),q']
   ·rw [if_pos q']
  ·refine .inr ⟨q,?_⟩
   show (if D.status=2 then 0 else D.status)=B.status
   rw [if_neg (by omega),q']
 ·show (if D.status=2 then 0 else D.status)=B.status
  rcases hb.st with ⟨q,q' | q',_⟩ | ⟨q,q'⟩
  ·rw [if_neg (by omega),q,q']
  ·rw [if_pos q',q]
  ·rw [if_neg (by omega),q']
theorem pM (c:Cx) (inp:List Int):∀ (n:Nat) (D:Dn),(en c inp n D).recs.length<=D.recs.length+n:=by
 intro n
 induction n with
 | zero=>intro D;exact Nat.le_refl _
 | succ n ih =>
  intro D
  unfold en
  split
  ·omega
  ·split
   ·show D.recs.length<=_
    omega
   ·have h1:=ih (aN c inp (bP c D) D)
    have h2:=jw c inp (bP c D) D
    omega
theorem gx {s:ByteArray} (hs:s.size<=800):fp (aB s):=by
 intro x hx
 have r1:=ep s 257 hs (by decide) s.size
 have r2:=ep s 263 hs (by decide) s.size
 have r3:=ep s 269 hs (by decide) s.size
 simp only [aB,List.mem_cons,List.not_mem_nil,or_false] at hx
 rcases hx with hx | hx | hx <;> omega
section
variable {W1 w:World} {rb:Nat} {tv fv:Value} {D:Dn} {V:DV} {R:Rn} {img:ByteArray}
def ju (W1 w:World) (rb:Nat) (tv fv:Value) (img:ByteArray) (D:Dn) (V:DV) (e:Ending) (w':World):Prop:=
 ∃ sv' D' R' V',e=.returned (.tuple #[sv',.bool true])/\Rel (cxO img) D' R'/\DI W1 w' rb tv fv D' V'/\ad w' 0 sv' (aJ (aB img) R')/\(∀ g,sv'.ownBlock=some g->¬ bN (aw V' D'.out) g)/\D'.recs.length<=D.recs.length+10000/\Ev rb (aw V D.out) w (aw V' D'.out) w'
theorem mG (hz:(opF img).1=0) (hD:Rel (cxO img) D R) (h:DI W1 w rb tv fv D V) {b1 b2:Nat} (hT:ai W1 b2 tv (cxO img).ls) (hF:aj 93 107 W1 b1 fv (cxO img).fs) (sv:Value) (hs:ad w 0 sv (aJ (aB img) R)) (iv:Value) (inp:List Int) (hi:RdA W1 iv inp) (n:Nat) (hn:n<=10000) (hrl:D.recs.length<=900000000000) (p q:Bool) :
 Calls Tryz.prog 9 #[.string img,sv,.pointer rb,.agg #[iv,n,.bool p,.bool q]] w (ju W1 w rb tv fv img D V):=by
 obtain ⟨ia,ic,rfl⟩:=hi.slice
 obtain ⟨sa,sc,rfl⟩:=hs.slice
 have hg:=ts hD inp
 have HGO:Hid (∀ w1,Chg () w w1->Calls Tryz.prog 20 #[.pointer rb,.slice ia inp.length ic,n] w1 fun e w'=>e=.returned (.tuple #[])/\aG W1 w1 rb tv fv V D.out (dGo (cxO img) inp n D) w'):=fun w1 k=>nW (h.new k) (dg hz) hT hF _ hi n hn hg hrl
 have HGL:Hid (∀ w1,Chg () w w1->Calls Tryz.prog 18 #[.string img,.slice sa (aJ (aB img) R).length sc,.slice ia inp.length ic,n] w1 fun e w'=>∃ sv' ov',e=.returned (.tuple #[.agg #[sv',ov',((cB (cxO img) (bare R) inp n).1.used:Int),.int .i64 (cB (cxO img) (bare R) inp n).2],oO]) /\
  ad w' w1.heap.size sv' (aJ (aB img) (cB (cxO img) (bare R) inp n).1)/\ad w' w1.heap.size ov' (cB (cxO img) (bare R) inp n).1.out/\Chg () w1 w'):=fun w1 k=>tq hz hD _ _ inp 0 (af hs k (fun _ _ q=>q)) ((hi.new h.ch).new k) n hn
 have hsim:=tN (dg hz) inp n hD.bare (i8 R).1 (i8 R).2
 have hgo:=sG (cxO img) n { bare R with inp:=inp }
 have hrc:(dGo (cxO img) inp n D).recs.length<=D.recs.length+n:=pM _ _ _ _
 have hb2:({ bare R with inp:=inp }:Rn).out=[]:=(i8 R).2
 rw [hb2] at hgo
 change Rel _ _ (cB (cxO img) (bare R) inp n).1/\_=(cB (cxO img) (bare R) inp n).1.out/\_=(cB (cxO img) (bare R) inp n).1.used/\_=(cB (cxO img) (bare R) inp n).2/\(cB (cxO img) (bare R) inp n).1.heap=_/\(cB (cxO img) (bare R) inp n).1.depth=_/\_ at hsim
 change (cB (cxO img) (bare R) inp n).1.out.length<=_ at hgo
 generalize cB (cxO img) (bare R) inp n=X at *
 generalize dGo (cxO img) inp n D=E at *
 obtain ⟨r1,eo,eu,es,_,_,_⟩:=hsim
 have R1:=hid r1
 have EO:Hid (E.out=X.1.out):=eo
 have EU:Hid (E.used=X.1.used):=eu
 have ES:Hid (E.status=X.2):=es
 have H:=hid h
 have HOL:Hid (X.1.out.length<=10000):=by show _<=_;simp at hgo;omega
 have HRC:Hid (E.recs.length<=D.recs.length+10000):=by show _<=_;omega
 have HZ:=hid hz
 have hfl:¬ (n:Int) < 0:=by omega
 have hfl2:¬ (10000:Int) < (n:Int):=by omega
 generalize (aJ (aB img) R).length=sn at *
 clear hz hD h hT hF hs hi hg hrl hrc hb2 hgo r1 eo eu es
 go_enter Tryz.func9,Tryz.ntmps9
 go_wp2_with fail
 have kS:Chg () w (w.alloc (Obj.cells #[.slice ia inp.length ic,n,.bool p,.bool q] 28)):=(Chg.refl _ _).alloc _
 have nS:=Blk.new w #[.slice ia inp.length ic,.int .i64 (n:Int),.bool p,.bool q] 28
 refine (HGL.out _ kS).mono ?_
 rintro e w1 ⟨sv',ov',rfl,hs1,ho1,k1⟩
 obtain ⟨xa,xc,rfl⟩:=hs1.slice
 obtain ⟨oa,oc,rfl⟩:=ho1.slice
 have kA:Chg () w1 (w1.alloc (Obj.cells #[.slice xa (aJ (aB img) X.1).length xc,.slice oa X.1.out.length oc,X.1.used,X.2] 76)):=(Chg.refl _ _).alloc _
 have nX:=Blk.new w1 #[.slice xa (aJ (aB img) X.1).length xc,.slice oa X.1.out.length oc,.int .i64 (X.1.used:Int),.int .i64 X.2] 76
 have nS1:=(nS.chg k1 (fun q=>q)).chg kA (fun q=>q)
 have s0:(w1.alloc (Obj.cells #[.slice xa (aJ (aB img) X.1).length xc,.slice oa X.1.out.length oc,X.1.used,X.2] 76)).cell? ⟨w.heap.size,0,none⟩=some (.slice ia inp.length ic):=nS1.cell 0
 have s1:(w1.alloc (Obj.cells #[.slice xa (aJ (aB img) X.1).length xc,.slice oa X.1.out.length oc,X.1.used,X.2] 76)).cell? ⟨w.heap.size,1,none⟩=some (.int .i64 (n:Int)):=nS1.cell 1
 have kX:Chg () w (w1.alloc (Obj.cells #[.slice xa (aJ (aB img) X.1).length xc,.slice oa X.1.out.length oc,X.1.used,X.2] 76)):=(kS.trans k1).trans kA
 have hz1:w.heap.size<=(w.alloc (Obj.cells #[.slice ia inp.length ic,n,.bool p,.bool q] 28)).heap.size:=kS.size
 have hz2:=k1.size
 have hz3:=kA.size
 have HS1:Hid (ad (w1.alloc (Obj.cells #[.slice xa (aJ (aB img) X.1).length xc,.slice oa X.1.out.length oc,X.1.used,X.2] 76)) w.heap.size (.slice xa (aJ (aB img) X.1).length xc) (aJ (aB img) X.1)):=am (af hs1 kA (fun _ _ q=>q)) hz1
 have HO1:Hid (ad (w1.alloc (Obj.cells #[.slice xa (aJ (aB img) X.1).length xc,.slice oa X.1.out.length oc,X.1.used,X.2] 76)) w.heap.size (.slice oa X.1.out.length oc) X.1.out):=am (af ho1 kA (fun _ _ q=>q)) hz1
 have HSL:Hid (∀ g,(Value.slice xa (aJ (aB img) X.1).length xc).ownBlock=some g->w.heap.size<=g/\g < (w1.alloc (Obj.cells #[.slice xa (aJ (aB img) X.1).length xc,.slice oa X.1.out.length oc,X.1.used,X.2] 76)).heap.size):=fun g hg=>by
  have:=cy hs1 hg
  exact ⟨by omega,by omega⟩
 have NX:=hid nX
 have KX:=hid kX
 have hw1:w.heap.size<=w1.heap.size:=by omega
 clear kS nS nS1 hs1 ho1 k1 kA nX kX hz1 hz2 hz3 HGL
 go_wp2_with fail
 refine (HGO.out _ KX.out).mono ?_
 rintro e w2 ⟨rfl,V2,d2,e2⟩
 have off:∀ g,w.heap.size<=g->¬ (g=rb \/ bN (aw V D.out) g):=fun g hg q=>by
  rcases q with q | q
  ·have:=H.out.bx.lt;omega
  ·have:=(H.out.ow.lt q).2;omega
 obtain ⟨c0,c1,c2,c3,_,_,_,_⟩:=aL (NX.out.chg e2.ch (off _ hw1))
 have HS2:Hid (ad w2 w.heap.size (.slice xa (aJ (aB img) X.1).length xc) (aJ (aB img) X.1)):=af HS1.out e2.ch (fun g hg=>off g (cy HS1.out hg).1)
 have HO2:Hid (ad w2 w.heap.size (.slice oa X.1.out.length oc) X.1.out):=af HO1.out e2.ch (fun g hg=>off g (cy HO1.out hg).1)
 have HNB:Hid (∀ g,(Value.slice xa (aJ (aB img) X.1).length xc).ownBlock=some g->¬ bN (aw V2 E.out) g):=fun g hg q=>by
  obtain ⟨q1,q2⟩:=HSL.out g hg
  rcases e2.nw g q with z | z
  ·exact off g q1 (.inr z)
  ·omega
 have hov:ad w2 W1.heap.size V2.ov E.out:=d2.ow.ok (orw V2 E.out) (by simp [aw])
 rw [EO.out] at hov
 obtain ⟨pa,pc,hpv⟩:=hov.slice
 rw [hpv] at hov
 have x7:w2.cell? ⟨rb,7,none⟩=some (.slice pa X.1.out.length pc):=by rw [<-hpv];exact d2.bx.cell 7
 have x8:w2.cell? ⟨rb,8,none⟩=some (.int .i64 (X.1.used:Int)):=by rw [<-EU.out];exact d2.bx.cell 8
 have x4:w2.cell? ⟨rb,4,none⟩=some (.int .i64 X.2):=by rw [<-ES.out];exact d2.bx.cell 4
 have x2:w2.cell? ⟨rb,2,none⟩=some (.int .i64 E.heap):=d2.bx.cell 2
 have x3:w2.cell? ⟨rb,3,none⟩=some (.int .i64 E.depth):=d2.bx.cell 3
 have HOV:=hid hov
 have D2:=hid d2
 have E2:Hid (Ev rb (aw V D.out) w (aw V2 E.out) w2):=(Ev.new rb _ KX.out).trans e2
 have HSM:Hid (∀ w',ad w' w.heap.size (.slice xa (aJ (aB img) X.1).length xc) (aJ (aB img) X.1)->Calls Tryz.prog 13 #[.slice xa (aJ (aB img) X.1).length xc,E.heap,E.depth] w' fun e w''=>e=.returned (.bool true)/\w''=w'):=fun w' hI=>by
  have r:=R1.out
  obtain ⟨l1,l2,_,_⟩:=gf (dg HZ.out) (ms:=aB img) rfl (gx (cQ HZ.out)) r
  rw [r.heap,r.depth]
  exact eZ _ _ _ _ _ _ hI ⟨r.h0,r.h4⟩ ⟨r.d1,r.d64⟩ l1 (fun x hx=>by have:=l2 x hx;omega)
 clear d2 e2 off hov hpv HS1 HO1 HSL NX KX HGO s0 s1
 go_wp2_with fail
 go_quiet ((go_at_call 21;exact Calls.quiet_of (iH _ _ w.heap.size W1.heap.size X.1.out _ HOL.out HO2.out HOV.out)))
 have z0:(w2.drewN nq).cell? ⟨w1.heap.size,0,none⟩=_:=c0
 have z2:(w2.drewN nq).cell? ⟨w1.heap.size,2,none⟩=_:=c2
 have z3:(w2.drewN nq).cell? ⟨w1.heap.size,3,none⟩=_:=c3
 have y8:(w2.drewN nq).cell? ⟨rb,8,none⟩=_:=x8
 have y4:(w2.drewN nq).cell? ⟨rb,4,none⟩=_:=x4
 have y2:(w2.drewN nq).cell? ⟨rb,2,none⟩=_:=x2
 have y3:(w2.drewN nq).cell? ⟨rb,3,none⟩=_:=x3
 have HS3:Hid (ad (w2.drewN nq) w.heap.size (.slice xa (aJ (aB img) X.1).length xc) (aJ (aB img) X.1)):=af HS2.out ((Chg.refl () _).drewN nq) (fun _ _ q=>q)
 have D3:=hid (D2.out.drewN nq)
 have E3:=hid (E2.out.drewN nq)
 clear c0 c1 c2 c3 x8 x4 x2 x3 x7 HS2 HO2 HOV D2 E2
 generalize w2.drewN nq=w3 at *
 go_wp2_with fail
 go_quiet ((go_at_call 13;exact Calls.quiet_of_same (HSM.out _ HS3.out)))
 have t0:(w3.drewN nq).cell? ⟨w1.heap.size,0,none⟩=_:=z0
 have t2:(w3.drewN nq).cell? ⟨w1.heap.size,2,none⟩=_:=z2
 have t3:(w3.drewN nq).cell? ⟨w1.heap.size,3,none⟩=_:=z3
 have t8:(w3.drewN nq).cell? ⟨rb,8,none⟩=_:=y8
 have t4:(w3.drewN nq).cell? ⟨rb,4,none⟩=_:=y4
 have HS4:Hid (ad (w3.drewN nq) 0 (.slice xa (aJ (aB img) X.1).length xc) (aJ (aB img) X.1)):=am (af HS3.out ((Chg.refl () _).drewN nq) (fun _ _ q=>q)) (Nat.zero_le _)
 have D4:=hid (D3.out.drewN nq)
 have E4:=hid (E3.out.drewN nq)
 clear z0 z2 z3 y8 y4 y2 y3 HS3 D3 E3 HSM
 generalize w3.drewN nq=w5 at *
 go_wp2_with fail
 go_quiet ((go_at_call 8;exact Calls.quiet_of_same (cX _ _)))
 go_wp2
 refine bodyPost_ret (v:=.tuple #[.slice xa (aJ (aB img) X.1).length xc,.bool true]) (by simp [results,Tryz.results9,go_sem]) rfl ?_
 exact ⟨_,E,X.1,V2,rfl,R1.out,D4.out.drewN nq,af HS4.out ((Chg.refl () _).drewN nq) (fun _ _ q=>q),HNB.out,HRC.out,E4.out.drewN nq⟩
theorem pI (w:World):Calls Tryz.prog 19 #[.agg #[(),(),oO,oO]] w fun e w'=>e=.returned (.bool true)/\Chg () w w':=by
 have e47:=fun wx:World=>Lib.run_eql_slice_nil (P:=Tryz.prog) wx 23 3 none 0 0 0 0 Tryz.underlying23
 have kS:Chg () w (w.alloc (Obj.cells #[(),(),oO,oO] 76)):=(Chg.refl _ _).alloc _
 go_enter Tryz.func19,Tryz.ntmps19
 go_wp2
 go_ret
 exact ⟨rfl,kS⟩
theorem p7 (hz:(opF img).1=0) (hD:Rel (cxO img) D R) (h:DI W1 w rb tv fv D V) (sv:Value) (hs:ad w 0 sv (aJ (aB img) R)) (hsn:∀ g,sv.ownBlock=some g->¬ bN (aw V D.out) g) (iv:Value) (inp:List Int) (hi:RdA W1 iv inp) (f:Int) (hf:f < 0 \/ 10000 < f) (p q:Bool) :
 Calls Tryz.prog 9 #[.string img,sv,.pointer rb,.agg #[iv,f,.bool p,.bool q]] w (ju W1 w rb tv fv img D V):=by
 obtain ⟨ia,ic,rfl⟩:=hi.slice
 obtain ⟨sa,sc,rfl⟩:=hs.slice
 have HGL:Hid (∀ w1,Chg () w w1->Calls Tryz.prog 18 #[.string img,.slice sa (aJ (aB img) R).length sc,.slice ia inp.length ic,f] w1 fun e w'=>e=.returned (.tuple #[.agg #[(),(),oO,oO],(4:Int)])/\Chg () w1 w'):=fun w1 k=>by
  have ht:=fE (dg hz) (aB img) hD
  refine (oR img _ _ _ inp f w1 (show ad w1 0 _ _ from af hs k (fun _ _ q=>q)).rdA ((hi.new h.ch).new k) (fun _ R' q=>by rw [ht] at q;cases q;exact ⟨D,hD.bare⟩)).mono ?_
  rintro e w' ⟨k,_,hO⟩
  exact ⟨((hO hz).2 _ ht).1 hf,k⟩
 have FIN:Hid (∀ w',Chg () w w'->ju W1 w rb tv fv img D V (.returned (.tuple #[.slice sa (aJ (aB img) R).length sc,.bool true])) w'):=fun w' k =>
  ⟨_,D,R,V,rfl,hD,h.new k,af hs k (fun _ _ q=>q),hsn,by omega,Ev.new rb _ k⟩
 generalize (aJ (aB img) R).length=sn at *
 have HF:=hid hf
 clear hz hD h hs hsn hi hf
 by_cases hf0:f < 0
 case' neg=>have hf1:10000 < f:=by have:=HF.out;omega
 all_goals
  go_enter Tryz.func9,Tryz.ntmps9
  go_wp2_with fail
  have kS:Chg () w (w.alloc (Obj.cells #[.slice ia inp.length ic,f,.bool p,.bool q] 28)):=(Chg.refl _ _).alloc _
  have nS:=Blk.new w #[.slice ia inp.length ic,.int .i64 f,.bool p,.bool q] 28
  refine (HGL.out _ kS).mono ?_
  rintro e w1 ⟨rfl,k1⟩
  have kA:Chg () w1 (w1.alloc (Obj.cells #[(),(),oO,oO] 76)):=(Chg.refl _ _).alloc _
  obtain ⟨c0,c1,c2,c3,_,_,_,_⟩:=aL (Blk.new w1 #[.slice none 0 0,.slice none 0 0,.int .i64 0,.int .i64 0] 76)
  obtain ⟨s0,s1,_,_,_,_,_,_⟩:=aL ((nS.chg k1 (fun q=>q)).chg kA (fun q=>q))
  have KX:=hid ((kS.trans k1).trans kA)
  clear kS nS k1 kA HGL
  go_wp2_with fail
  refine (pI _).mono ?_
  rintro e w2 ⟨rfl,k2⟩
  have K2:=hid (KX.out.trans k2)
  clear k2 KX c0 c1 c2 c3 s0 s1
  go_wp2_with fail
  refine (cX 4 _).mono ?_
  rintro e w4 ⟨rfl,hw4⟩
  have hw4:=hw4.symm
  subst hw4
  go_wp2
  exact bodyPost_ret (v:=.tuple #[.slice sa sn sc,.bool true]) (by simp [results,Tryz.results9,go_sem]) rfl (FIN.out _ K2.out)
theorem nC (hz:(opF img).1=0) (hD:Rel (cxO img) D R) (h:DI W1 w rb tv fv D V) {b1 b2:Nat} (hT:ai W1 b2 tv (cxO img).ls) (hF:aj 93 107 W1 b1 fv (cxO img).fs) (sv:Value) (hs:ad w 0 sv (aJ (aB img) R)) (hsn:∀ g,sv.ownBlock=some g->¬ bN (aw V D.out) g) (iv:Value) (inp:List Int) (hi:RdA W1 iv inp) (f:Int) (hrl:D.recs.length<=900000000000) (p q:Bool) :
 Calls Tryz.prog 9 #[.string img,sv,.pointer rb,.agg #[iv,f,.bool p,.bool q]] w (ju W1 w rb tv fv img D V):=by
 by_cases hf:f < 0 \/ 10000 < f
 ·exact p7 hz hD h sv hs hsn iv inp hi f hf p q
 ·obtain ⟨n,rfl⟩:∃ n:Nat,f=(n:Int):=⟨f.toNat,by omega⟩
  exact mG hz hD h hT hF sv hs iv inp hi n (by omega) hrl p q
end
end Go.Proofs.YtnfnbcbadakofaaGreat
