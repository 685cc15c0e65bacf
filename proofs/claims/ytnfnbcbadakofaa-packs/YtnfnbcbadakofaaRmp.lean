import Derived.Test.YtnfnbcbadakofaaOpn
namespace Go.Proofs.Ytnfnbcbadakofaa
open Go.RowKit
section
variable {w:World} {img:ByteArray} {D:Dn} {R:Rn}
theorem go_lay (hz:(opF img).1=0) (hD:Rel (cxO img) D R) (sv iv:Value) (inp:List Int) (b1:Nat) (hs:IntsV w b1 sv (layR (mksP img) R)) (hi:RdA w iv inp) (n:Nat) (hn:n<=10000) :
 Calls Try.prog 35 #[.string img,sv,iv,.int .i64 (n:Int)] w fun e w'=>∃ sv' ov',e=.returned (.tuple #[.agg #[sv',ov',.int .i64 ((goStP (cxO img) (bare R) inp n).1.used:Int),.int .i64 (goStP (cxO img) (bare R) inp n).2],.int .i64 0]) /\
  IntsV w' w.heap.size sv' (layR (mksP img) (goStP (cxO img) (bare R) inp n).1)/\IntsV w' w.heap.size ov' (goStP (cxO img) (bare R) inp n).1.out/\Chg (fun _=>False) w w':=by
 have ht:=take_lay (cx_ok hz) (mksP img) hD
 refine (go_any img sv iv _ inp n w hs.rdA hi (fun R' q=>by rw [ht] at q;cases q;exact ⟨D,hD.bare⟩)).mono ?_
 rintro e w' ⟨k,_,hO⟩
 obtain ⟨sv',ov',h1,h2,h3,_⟩:=((hO hz).2 _ ht).2 (by omega)
 rw [Int.toNat_natCast] at h1 h2 h3
 exact ⟨sv',ov',h1,h2,h3,k⟩
theorem pack_lay (hz:(opF img).1=0) (hD:Rel (cxO img) D R) (sv:Value) (b1:Nat) (hs:IntsV w b1 sv (layR (mksP img) R)) :
 Calls Try.prog 37 #[.string img,sv] w fun e w'=>∃ u,e=.returned (.tuple #[u,.int .i64 0])/\IntsV w' w.heap.size u (layR (mksP img) (clrP (cxO img) (bare R)))/\Chg (fun _=>False) w w':=by
 have ht:=take_lay (cx_ok hz) (mksP img) hD
 refine (pack_any img sv _ w hs.rdA (fun R' q=>by rw [ht] at q;cases q;exact ⟨D,hD.bare⟩)).mono ?_
 rintro e w' ⟨k,_,hO⟩
 obtain ⟨u,h1,h2⟩:=(hO hz).2 _ ht
 exact ⟨u,h1,h2,k⟩
theorem live_lay (hz:(opF img).1=0) (hD:Rel (cxO img) D R) (sv:Value) (b1:Nat) (hs:IntsV w b1 sv (layR (mksP img) R)) :
 Calls Try.prog 29 #[.string img,sv] w fun e w'=>e=.returned (.tuple #[.int .i64 (liveP D:Int),.int .i64 0])/\Chg (fun _=>False) w w':=by
 have ht:=take_lay (cx_ok hz) (mksP img) hD
 refine (live_any img sv _ w hs.rdA (fun R' q=>by rw [ht] at q;cases q;exact ⟨D,hD.bare⟩)).mono ?_
 rintro e w' ⟨k,_,hO⟩
 rw [(hO hz).2 _ ht,(clr_rel hD).2.1]
 exact ⟨rfl,k⟩
end
theorem bare_x (R:Rn):(bare R).used=0/\(bare R).out=[]:=by unfold bare;split <;> exact ⟨rfl,rfl⟩
theorem go_out (c:Cx):∀ (n:Nat) (R:Rn),(goOnP c n R).1.out.length<=R.out.length+n:=by
 intro n
 induction n with
 | zero=>intro R;exact Nat.le_refl _
 | succ n ih =>
  intro R
  unfold goOnP
  split
  ·exact Nat.le_add_right _ _
  ·split
   ·exact Nat.le_add_right _ _
   ·have h1:=ih (doP c (nxtP c R) R)
    have h2:=(do_ou c (nxtP c R) R).1
    show (goOnP c n (doP c (nxtP c R) R)).1.out.length<=_
    omega
theorem packs_plain {c:Cx} (ok:CxOk c) {D0:Dn} {R0:Rn} (h0:Rel c D0 R0) (inp:List Int) (a b:Nat) (_ha:a<=10000) (hb:b<=10000) :
 ∃ D1,Rel c D1 (goStP c (bare R0) inp a).1/\∃ P,P=clrP c (bare (goStP c (bare R0) inp a).1)/\Rel c D1 P/\∃ Q,Q=clrP c (bare P)/\Rel c D1 Q/\∃ Y Z,Y=goStP c (bare (goStP c (bare R0) inp a).1) inp b/\Z=goStP c (bare Q) inp b/\Y.1.out=Z.1.out/\Y.1.used=Z.1.used/\Y.2=Z.2/\Y.1.out.length<=10000:=by
 obtain ⟨b1,b2⟩:=bare_x R0
 obtain ⟨r1,_⟩:=go_sim ok inp a h0.bare b1 b2
 refine ⟨_,r1,_,rfl,(clr_rel r1).1,_,rfl,(clr_rel (clr_rel r1).1).1,_,_,rfl,rfl,?_⟩
 have r2:=(clr_rel (clr_rel r1).1).1
 obtain ⟨c1,c2⟩:=bare_x (goStP c (bare R0) inp a).1
 obtain ⟨d1,d2⟩:=bare_x (clrP c (bare (clrP c (bare (goStP c (bare R0) inp a).1))))
 obtain ⟨_,y1,y2,y3,_⟩:=go_sim ok inp b r1.bare c1 c2
 obtain ⟨_,z1,z2,z3,_⟩:=go_sim ok inp b r2.bare d1 d2
 refine ⟨y1.symm.trans z1,y2.symm.trans z2,y3.symm.trans z3,?_⟩
 have:=go_out c b { bare (goStP c (bare R0) inp a).1 with inp:=inp }
 have e:({ bare (goStP c (bare R0) inp a).1 with inp:=inp }:Rn).out=[]:=c2
 rw [e] at this
 unfold goStP at this ⊢
 simp only [List.length_nil] at this
 omega
set_option maxHeartbeats 4000000 in
set_option maxRecDepth 100000 in
theorem packs_walk (img:ByteArray) (h d:Int) (iv:Value) (inp:List Int) (a b:Int) (w:World) (hi:RdA w iv inp) :
 Calls Try.prog 12 #[.string img,.int .i64 h,.int .i64 d,iv,.int .i64 a,.int .i64 b] w fun e w'=>e=.returned (.bool true)/\Chg (fun _=>False) w w':=by
 have HF:Hid (∀ w,Calls Try.prog 31 #[.string img] w fun e w'=>e=.returned (.bool ((opF img).1 == 0))/\Chg (fun _=>False) w w'):=fun w=>fits_any img w
 have HS:Hid (∀ w,Calls Try.prog 32 #[.string img,.int .i64 h,.int .i64 d] w (SuEnd w img (opF img) h d)):=fun w=>start_any img h d w
 obtain ⟨ia,ic,hiv⟩:=hi.slice
 subst hiv
 have HI:Hid (RdA w (.slice ia inp.length ic) inp):=hi
 clear hi
 by_cases hz:(opF img).1=0
 ·have hz':((opF img).1 == 0)=true:=by simp [hz]
  rw [hz'] at HF
  have HZ:Hid ((opF img).1=0):=hz
  clear hz hz'
  by_cases hb:badR h d
  ·have hrg:rgB h d=false:=by cases q:rgB h d with | true=>exact absurd hb (rgB_iff.1 q) | false=>rfl
   have HB:Hid (badR h d):=hb
   have HRG:Hid (∀ w,Calls Try.prog 33 #[.int .i64 h,.int .i64 d] w fun e w'=>e=.returned (.bool false)/\w'=w):=fun w=>by rw [<-hrg];exact ranged_any h d w
   clear hb hrg
   go_enter Try.func12,Try.ntmps12
   go_wp2_with fail
   refine (HF.out _).mono ?_
   rintro e w1 ⟨rfl,k1⟩
   go_wp2_with fail
   refine (HS.out _).mono ?_
   rintro e w2 ⟨sa,sn,sc,er,pl,rfl,k2,_,hB,_⟩
   obtain ⟨rfl,rfl,hn⟩:=hB HZ.out HB.out
   simp only [Value.slice.injEq] at hn
   obtain ⟨rfl,rfl,rfl⟩:=hn
   have K2:Hid (Chg (fun _=>False) w w2):=k1.trans k2
   clear k1 k2
   have e47:=fun wx:World=>Lib.run_eql_slice_nil (P:=Try.prog) wx 47 3 none 0 0 0 0 Try.underlying47
   go_wp2_with fail
   refine (HRG.out _).mono ?_
   rintro e w3 ⟨rfl,hw3⟩
   have hw3:=hw3.symm
   subst hw3
   go_wp2_with fail
   refine (num_any 4 _).mono ?_
   rintro e w4 ⟨rfl,hw4⟩
   have hw4:=hw4.symm
   subst hw4
   go_wp2
   go_ret
   exact ⟨rfl,K2.out⟩
  ·have hrg:rgB h d=true:=rgB_iff.2 hb
   have HB:Hid (¬ badR h d):=hb
   have HRG:Hid (∀ w,Calls Try.prog 33 #[.int .i64 h,.int .i64 d] w fun e w'=>e=.returned (.bool true)/\w'=w):=fun w=>by rw [<-hrg];exact ranged_any h d w
   have HR0:Hid (Rel (cxO img) (stD (cxO img) h d) (stR (cxO img) h d)):=by
    have hb':=hb
    unfold badR at hb'
    exact rel_start (cx_ok HZ.out) (by omega) (by omega) (by omega) (by omega)
   clear hb hrg
   by_cases hfa:0<=a/\a<=10000
   ·have HFA:Hid (∀ w,Calls Try.prog 34 #[.int .i64 a] w fun e w'=>e=.returned (.bool true)/\w'=w):=fun w=>by
     have e:decide (0<=a/\a<=10000)=true:=by simp [hfa]
     rw [<-e];exact fuelled_any a w
    by_cases hfb:0<=b/\b<=10000
    ·have HFB:Hid (∀ w,Calls Try.prog 34 #[.int .i64 b] w fun e w'=>e=.returned (.bool true)/\w'=w):=fun w=>by
      have e:decide (0<=b/\b<=10000)=true:=by simp [hfb]
      rw [<-e];exact fuelled_any b w
     obtain ⟨na,hna⟩:∃ n:Nat,a=(n:Int):=⟨a.toNat,by omega⟩
     obtain ⟨nb,hnb⟩:∃ n:Nat,b=(n:Int):=⟨b.toNat,by omega⟩
     subst hna hnb
     have hA4:na<=10000:=by omega
     have hB4:nb<=10000:=by omega
     obtain ⟨D1,r1,P,hP,rP,Q,hQ,rQ,Y,Z,hY,hZ,e1,e2,e3,e4⟩:=packs_plain (cx_ok HZ.out) HR0.out inp na nb hA4 hB4
     obtain ⟨X,hX⟩:∃ X,goStP (cxO img) (bare (stR (cxO img) h d)) inp na=X:=⟨_,rfl⟩
     rw [hX] at r1 hP hY
     have HX:Hid (goStP (cxO img) (bare (stR (cxO img) h d)) inp na=X):=hX
     have R1:Hid (Rel (cxO img) D1 X.1):=r1
     have RP:Hid (Rel (cxO img) D1 P):=rP
     have RQ:Hid (Rel (cxO img) D1 Q):=rQ
     have HP:Hid (clrP (cxO img) (bare X.1)=P):=hP.symm
     have HQ:Hid (clrP (cxO img) (bare P)=Q):=hQ.symm
     have HY:Hid (goStP (cxO img) (bare X.1) inp nb=Y):=hY.symm
     have HZZ:Hid (goStP (cxO img) (bare Q) inp nb=Z):=hZ.symm
     have E1:Hid (Y.1.out=Z.1.out):=e1
     have E2:Hid (Y.1.used=Z.1.used):=e2
     have E3:Hid (Y.2=Z.2):=e3
     have E4:Hid (Y.1.out.length<=10000):=e4
     clear r1 rP rQ hP hQ hY hZ e1 e2 e3 e4 hX hfa hfb
     go_enter Try.func12,Try.ntmps12
     go_wp2_with fail
     refine (HF.out _).mono ?_
     rintro e w1 ⟨rfl,k1⟩
     go_wp2_with fail
     refine (HS.out _).mono ?_
     rintro e w2 ⟨sa,sn,sc,er,pl,rfl,k2,_,_,hG⟩
     obtain ⟨rfl,rfl,hS⟩:=hG HZ.out HB.out
     rw [start_lay] at hS
     have K2:Hid (Chg (fun _=>False) w w2):=k1.trans k2
     have HSS:Hid (IntsV w2 w1.heap.size (.slice sa sn sc) (layR (mksP img) (stR (cxO img) h d))):=hS
     clear k1 k2 hS hG HF HS
     go_wp2_with fail
     refine (HRG.out _).mono ?_
     rintro e w3 ⟨rfl,hw3⟩
     have hw3:=hw3.symm
     subst hw3
     go_wp2_with fail
     refine (HFA.out _).mono ?_
     rintro e w3 ⟨rfl,hw3⟩
     have hw3:=hw3.symm
     subst hw3
     go_wp2_with fail
     refine (HFB.out _).mono ?_
     rintro e w3 ⟨rfl,hw3⟩
     have hw3:=hw3.symm
     subst hw3
     go_wp2_with fail
     refine (go_lay HZ.out HR0.out _ _ inp _ HSS.out (HI.out.new K2.out) na hA4).mono ?_
     rw [HX.out]
     rintro e w3 ⟨sv,ov,rfl,hs3,ho3,k3⟩
     obtain ⟨xa,xc,rfl⟩:=hs3.slice
     obtain ⟨oa,oc,rfl⟩:=ho3.slice
     have k4:Chg (fun _=>False) w2 (w3.alloc (Obj.cells #[.slice xa (layR (mksP img) X.1).length xc,.slice oa X.1.out.length oc,.int .i64 (X.1.used:Int),.int .i64 X.2] 71)):=k3.alloc _
     have nX:=Blk.new w3 #[.slice xa (layR (mksP img) X.1).length xc,.slice oa X.1.out.length oc,.int .i64 (X.1.used:Int),.int .i64 X.2] 71
     have HS3:Hid (IntsV (w3.alloc (Obj.cells #[.slice xa (layR (mksP img) X.1).length xc,.slice oa X.1.out.length oc,.int .i64 (X.1.used:Int),.int .i64 X.2] 71)) 0 (.slice xa (layR (mksP img) X.1).length xc) (layR (mksP img) X.1)):=own_chg (own_mono hs3 (Nat.zero_le _)) ((Chg.refl _ w3).alloc _) (fun _ _ q=>q)
     have K4:Hid (Chg (fun _=>False) w (w3.alloc (Obj.cells #[.slice xa (layR (mksP img) X.1).length xc,.slice oa X.1.out.length oc,.int .i64 (X.1.used:Int),.int .i64 X.2] 71))):=K2.out.trans k4
     clear hs3 ho3 k3 k4 HSS
     have c0:(w3.alloc (Obj.cells #[.slice xa (layR (mksP img) X.1).length xc,.slice oa X.1.out.length oc,.int .i64 (X.1.used:Int),.int .i64 X.2] 71)).cell? ⟨w3.heap.size,0,none⟩=some (.slice xa (layR (mksP img) X.1).length xc):=nX.cell 0
     go_wp2_with fail
     refine (pack_lay HZ.out R1.out _ _ HS3.out).mono ?_
     rw [HP.out]
     rintro e w5 ⟨u5,rfl,hu5,k5⟩
     obtain ⟨pa,pc,rfl⟩:=hu5.slice
     have nX5:=nX.chg k5 (fun q=>q)
     have K5:Hid (Chg (fun _=>False) w w5):=K4.out.trans k5
     have HS5:Hid (IntsV w5 0 (.slice xa (layR (mksP img) X.1).length xc) (layR (mksP img) X.1)):=own_chg HS3.out k5 (fun _ _ q=>q)
     have HP5:Hid (IntsV w5 0 (.slice pa (layR (mksP img) P).length pc) (layR (mksP img) P)):=own_mono hu5 (Nat.zero_le _)
     clear c0 nX k5 hu5 HS3
     go_wp2_with fail
     generalize w3.heap.size=xb at *
     refine (pack_lay HZ.out RP.out _ _ HP5.out).mono ?_
     rw [HQ.out]
     rintro e w6 ⟨u6,rfl,hu6,k6⟩
     obtain ⟨qa,qc,rfl⟩:=hu6.slice
     have nX6:=nX5.chg k6 (fun q=>q)
     have K6:Hid (Chg (fun _=>False) w w6):=K5.out.trans k6
     have HS6:Hid (IntsV w6 0 (.slice xa (layR (mksP img) X.1).length xc) (layR (mksP img) X.1)):=own_chg HS5.out k6 (fun _ _ q=>q)
     have HQ6:Hid (IntsV w6 0 (.slice qa (layR (mksP img) Q).length qc) (layR (mksP img) Q)):=own_mono hu6 (Nat.zero_le _)
     have c0:w6.cell? ⟨xb,0,none⟩=some (.slice xa (layR (mksP img) X.1).length xc):=nX6.cell 0
     clear nX5 k6 hu6 HS5 HP5
     go_wp2_with fail
     refine (live_lay HZ.out R1.out _ _ HS6.out).mono ?_
     rintro e w7 ⟨rfl,k7⟩
     have nX7:=nX6.chg k7 (fun q=>q)
     have K7:Hid (Chg (fun _=>False) w w7):=K6.out.trans k7
     have HS7:Hid (IntsV w7 0 (.slice xa (layR (mksP img) X.1).length xc) (layR (mksP img) X.1)):=own_chg HS6.out k7 (fun _ _ q=>q)
     have HQ7:Hid (IntsV w7 0 (.slice qa (layR (mksP img) Q).length qc) (layR (mksP img) Q)):=own_chg HQ6.out k7 (fun _ _ q=>q)
     clear c0 nX6 k7 HS6 HQ6
     go_wp2_with fail
     refine (live_lay HZ.out RQ.out _ _ HQ7.out).mono ?_
     rintro e w8 ⟨rfl,k8⟩
     have nX8:=nX7.chg k8 (fun q=>q)
     have K8:Hid (Chg (fun _=>False) w w8):=K7.out.trans k8
     have HS8:Hid (IntsV w8 0 (.slice xa (layR (mksP img) X.1).length xc) (layR (mksP img) X.1)):=own_chg HS7.out k8 (fun _ _ q=>q)
     have HQ8:Hid (IntsV w8 0 (.slice qa (layR (mksP img) Q).length qc) (layR (mksP img) Q)):=own_chg HQ7.out k8 (fun _ _ q=>q)
     clear nX7 k8 HS7 HQ7
     generalize (liveP D1:Int)=lv at *
     go_wp2_with fail
     refine (num_any 0 _).mono ?_
     rintro e w3' ⟨rfl,hw3⟩
     have hw3:=hw3.symm
     subst hw3
     go_wp2_with fail
     refine (num_any 0 _).mono ?_
     rintro e w3' ⟨rfl,hw3⟩
     have hw3:=hw3.symm
     subst hw3
     go_wp2_with fail
     refine (num_any 0 _).mono ?_
     rintro e w3' ⟨rfl,hw3⟩
     have hw3:=hw3.symm
     subst hw3
     go_wp2_with fail
     refine (num_any 0 _).mono ?_
     rintro e w3' ⟨rfl,hw3⟩
     have hw3:=hw3.symm
     subst hw3
     go_wp2_with fail
     refine (num_any 0 _).mono ?_
     rintro e w3' ⟨rfl,hw3⟩
     have hw3:=hw3.symm
     subst hw3
     have c0:w8.cell? ⟨xb,0,none⟩=some (.slice xa (layR (mksP img) X.1).length xc):=nX8.cell 0
     go_wp2_with fail
     refine (go_lay HZ.out R1.out _ _ inp _ HS8.out (HI.out.new K8.out) nb hB4).mono ?_
     rw [HY.out]
     rintro e w9 ⟨sv9,ov9,rfl,hs9,ho9,k9⟩
     obtain ⟨ya,yc,rfl⟩:=hs9.slice
     obtain ⟨yo,yd,rfl⟩:=ho9.slice
     have nY:=Blk.new w9 #[.slice ya (layR (mksP img) Y.1).length yc,.slice yo Y.1.out.length yd,.int .i64 (Y.1.used:Int),.int .i64 Y.2] 71
     have k10:Chg (fun _=>False) w8 (w9.alloc (Obj.cells #[.slice ya (layR (mksP img) Y.1).length yc,.slice yo Y.1.out.length yd,.int .i64 (Y.1.used:Int),.int .i64 Y.2] 71)):=k9.alloc _
     have K10:Hid (Chg (fun _=>False) w (w9.alloc (Obj.cells #[.slice ya (layR (mksP img) Y.1).length yc,.slice yo Y.1.out.length yd,.int .i64 (Y.1.used:Int),.int .i64 Y.2] 71))):=K8.out.trans k10
     have HQ10:Hid (IntsV (w9.alloc (Obj.cells #[.slice ya (layR (mksP img) Y.1).length yc,.slice yo Y.1.out.length yd,.int .i64 (Y.1.used:Int),.int .i64 Y.2] 71)) 0 (.slice qa (layR (mksP img) Q).length qc) (layR (mksP img) Q)):=own_chg HQ8.out k10 (fun _ _ q=>q)
     have HO10:Hid (IntsV (w9.alloc (Obj.cells #[.slice ya (layR (mksP img) Y.1).length yc,.slice yo Y.1.out.length yd,.int .i64 (Y.1.used:Int),.int .i64 Y.2] 71)) 0 (.slice yo Y.1.out.length yd) Y.1.out):=own_chg (own_mono ho9 (Nat.zero_le _)) ((Chg.refl _ w9).alloc _) (fun _ _ q=>q)
     clear c0 nX8 hs9 ho9 k9 k10 HS8 HQ8
     go_wp2_with fail
     generalize w9.alloc (Obj.cells #[.slice ya (layR (mksP img) Y.1).length yc,.slice yo Y.1.out.length yd,.int .i64 (Y.1.used:Int),.int .i64 Y.2] 71)=w10 at *
     generalize w9.heap.size=yb at *
     refine (go_lay HZ.out RQ.out _ _ inp _ HQ10.out (HI.out.new K10.out) nb hB4).mono ?_
     rw [HZZ.out]
     rintro e w11 ⟨sv11,ov11,rfl,hs11,ho11,k11⟩
     obtain ⟨za,zc,rfl⟩:=hs11.slice
     obtain ⟨zo,zd,rfl⟩:=ho11.slice
     have nZ:=Blk.new w11 #[.slice za (layR (mksP img) Z.1).length zc,.slice zo Z.1.out.length zd,.int .i64 (Z.1.used:Int),.int .i64 Z.2] 71
     have k12:Chg (fun _=>False) w10 (w11.alloc (Obj.cells #[.slice za (layR (mksP img) Z.1).length zc,.slice zo Z.1.out.length zd,.int .i64 (Z.1.used:Int),.int .i64 Z.2] 71)):=k11.alloc _
     have nY12:=nY.chg k12 (fun q=>q)
     have K12:Hid (Chg (fun _=>False) w (w11.alloc (Obj.cells #[.slice za (layR (mksP img) Z.1).length zc,.slice zo Z.1.out.length zd,.int .i64 (Z.1.used:Int),.int .i64 Z.2] 71))):=K10.out.trans k12
     have HO12:Hid (IntsV (w11.alloc (Obj.cells #[.slice za (layR (mksP img) Z.1).length zc,.slice zo Z.1.out.length zd,.int .i64 (Z.1.used:Int),.int .i64 Z.2] 71)) 0 (.slice yo Y.1.out.length yd) Y.1.out):=own_chg HO10.out k12 (fun _ _ q=>q)
     have HZ12:Hid (IntsV (w11.alloc (Obj.cells #[.slice za (layR (mksP img) Z.1).length zc,.slice zo Z.1.out.length zd,.int .i64 (Z.1.used:Int),.int .i64 Z.2] 71)) 0 (.slice zo Z.1.out.length zd) Z.1.out):=own_chg (own_mono ho11 (Nat.zero_le _)) ((Chg.refl _ w11).alloc _) (fun _ _ q=>q)
     obtain ⟨y0,y1,y2,y3,_,_,_,_⟩:=cells4 nY12
     obtain ⟨z0,z1,z2,z3,_,_,_,_⟩:=cells4 nZ
     clear nY nY12 nZ k11 k12 hs11 ho11 HQ10 HO10
     go_wp2_with fail
     refine (sameInts_true _ _ 0 0 Y.1.out _ E4.out HO12.out (by rw [E1.out];exact HZ12.out)).mono ?_
     rintro e w13 ⟨rfl,m13,hw13⟩
     have hw13:=hw13.symm
     subst hw13
     have u2:((w11.alloc (Obj.cells #[.slice za (layR (mksP img) Z.1).length zc,.slice zo Z.1.out.length zd,.int .i64 (Z.1.used:Int),.int .i64 Z.2] 71)).drewN m13).cell? ⟨yb,2,none⟩=some (.int .i64 (Y.1.used:Int)):=y2
     have u3:((w11.alloc (Obj.cells #[.slice za (layR (mksP img) Z.1).length zc,.slice zo Z.1.out.length zd,.int .i64 (Z.1.used:Int),.int .i64 Z.2] 71)).drewN m13).cell? ⟨yb,3,none⟩=some (.int .i64 Y.2):=y3
     have v2:((w11.alloc (Obj.cells #[.slice za (layR (mksP img) Z.1).length zc,.slice zo Z.1.out.length zd,.int .i64 (Z.1.used:Int),.int .i64 Z.2] 71)).drewN m13).cell? ⟨w11.heap.size,2,none⟩=some (.int .i64 (Z.1.used:Int)):=z2
     have v3:((w11.alloc (Obj.cells #[.slice za (layR (mksP img) Z.1).length zc,.slice zo Z.1.out.length zd,.int .i64 (Z.1.used:Int),.int .i64 Z.2] 71)).drewN m13).cell? ⟨w11.heap.size,3,none⟩=some (.int .i64 Z.2):=z3
     have K13:Hid (Chg (fun _=>False) w ((w11.alloc (Obj.cells #[.slice za (layR (mksP img) Z.1).length zc,.slice zo Z.1.out.length zd,.int .i64 (Z.1.used:Int),.int .i64 Z.2] 71)).drewN m13)):=K12.out.drewN m13
     have hbu:((Y.1.used:Int) == (Z.1.used:Int))=true:=by rw [E2.out];simp
     have hbs:(Y.2 == Z.2)=true:=by rw [E3.out];simp
     have hbx:(Y.1.used:Int)=(Z.1.used:Int):=by rw [E2.out]
     clear y0 y1 y2 y3 z0 z1 z2 z3 HO12 HZ12
     go_wp2_with fail
     generalize (w11.alloc (Obj.cells #[.slice za (layR (mksP img) Z.1).length zc,.slice zo Z.1.out.length zd,.int .i64 (Z.1.used:Int),.int .i64 Z.2] 71)).drewN m13=w14 at *
     refine (num_any 0 _).mono ?_
     rintro e w15 ⟨rfl,hw15⟩
     have hw15:=hw15.symm
     subst hw15
     go_wp2_with fail
     refine (num_any 0 _).mono ?_
     rintro e w15 ⟨rfl,hw15⟩
     have hw15:=hw15.symm
     subst hw15
     go_wp2
     go_ret
     exact ⟨by simp,K13.out⟩
    ·have HFB:Hid (∀ w,Calls Try.prog 34 #[.int .i64 b] w fun e w'=>e=.returned (.bool false)/\w'=w):=fun w=>by
      have e:decide (0<=b/\b<=10000)=false:=by simp only [decide_eq_false_iff_not];exact hfb
      rw [<-e];exact fuelled_any b w
     clear hfa hfb
     go_enter Try.func12,Try.ntmps12
     go_wp2_with fail
     refine (HF.out _).mono ?_
     rintro e w1 ⟨rfl,k1⟩
     go_wp2_with fail
     refine (HS.out _).mono ?_
     rintro e w2 ⟨sa,sn,sc,er,pl,rfl,k2,_,_,hG⟩
     obtain ⟨rfl,rfl,hS⟩:=hG HZ.out HB.out
     have K2:Hid (Chg (fun _=>False) w w2):=k1.trans k2
     clear k1 k2 hS hG HF HS
     go_wp2_with fail
     refine (HRG.out _).mono ?_
     rintro e w3 ⟨rfl,hw3⟩
     have hw3:=hw3.symm
     subst hw3
     go_wp2_with fail
     refine (HFA.out _).mono ?_
     rintro e w3 ⟨rfl,hw3⟩
     have hw3:=hw3.symm
     subst hw3
     go_wp2_with fail
     refine (HFB.out _).mono ?_
     rintro e w3 ⟨rfl,hw3⟩
     have hw3:=hw3.symm
     subst hw3
     go_wp2
     go_ret
     exact ⟨rfl,K2.out⟩
   ·have HFA:Hid (∀ w,Calls Try.prog 34 #[.int .i64 a] w fun e w'=>e=.returned (.bool false)/\w'=w):=fun w=>by
     have e:decide (0<=a/\a<=10000)=false:=by simp only [decide_eq_false_iff_not];exact hfa
     rw [<-e];exact fuelled_any a w
    clear hfa
    go_enter Try.func12,Try.ntmps12
    go_wp2_with fail
    refine (HF.out _).mono ?_
    rintro e w1 ⟨rfl,k1⟩
    go_wp2_with fail
    refine (HS.out _).mono ?_
    rintro e w2 ⟨sa,sn,sc,er,pl,rfl,k2,_,_,hG⟩
    obtain ⟨rfl,rfl,hS⟩:=hG HZ.out HB.out
    have K2:Hid (Chg (fun _=>False) w w2):=k1.trans k2
    clear k1 k2 hS hG HF HS
    go_wp2_with fail
    refine (HRG.out _).mono ?_
    rintro e w3 ⟨rfl,hw3⟩
    have hw3:=hw3.symm
    subst hw3
    go_wp2_with fail
    refine (HFA.out _).mono ?_
    rintro e w3 ⟨rfl,hw3⟩
    have hw3:=hw3.symm
    subst hw3
    go_wp2
    go_ret
    exact ⟨rfl,K2.out⟩
 ·have hz':((opF img).1 == 0)=false:=by simp [hz]
  rw [hz'] at HF
  have HZ:Hid ((opF img).1 ≠ 0):=hz
  have hzn:((opF img).1 != 0)=true:=by simp [hz]
  clear hz hz'
  go_enter Try.func12,Try.ntmps12
  go_wp2_with fail
  refine (HF.out _).mono ?_
  rintro e w1 ⟨rfl,k1⟩
  go_wp2_with fail
  refine (HS.out _).mono ?_
  rintro e w2 ⟨sa,sn,sc,er,pl,rfl,k2,hE,_,_⟩
  obtain ⟨rfl,rfl,hn⟩:=hE HZ.out
  simp only [Value.slice.injEq] at hn
  obtain ⟨rfl,rfl,rfl⟩:=hn
  have K2:Hid (Chg (fun _=>False) w w2):=k1.trans k2
  have e47:=fun wx:World=>Lib.run_eql_slice_nil (P:=Try.prog) wx 47 3 none 0 0 0 0 Try.underlying47
  clear k1 k2 hE
  generalize (opF img).1=er0 at *
  go_wp2_with fail
  refine (num_any er0 _).mono ?_
  rintro e w4 ⟨rfl,hw4⟩
  have hw4:=hw4.symm
  subst hw4
  go_wp2
  go_ret
  exact ⟨by simp,K2.out⟩
end Go.Proofs.Ytnfnbcbadakofaa
namespace Go.Proofs.Ytnfnbcbadakofaa
open Go.RowKit
def rmD (m f:Int) (D:Dn):Dn:={ D with heap:=D.heap+m,depth:=D.depth+f }
section
variable {c:Cx} {inp:List Int} {m f:Int}
theorem drec_rm (hm:0<=m) (x:Int × Int × Int) (D:Dn) (h4:(drecP c x D).status ≠ 4):drecP c x (rmD m f D)=rmD m f (drecP c x D):=by
 unfold drecP at h4 ⊢
 by_cases h7:x.1=7
 ·rw [if_pos h7] at h4 ⊢
  rw [if_pos h7]
  by_cases hf:D.heap < (liveP D:Int)+1+((flds c.ls x.2.1).length:Int)
  ·rw [if_pos hf] at h4;exact absurd rfl h4
  ·have e:¬ (rmD m f D).heap < (liveP (rmD m f D):Int)+1+((flds c.ls x.2.1).length:Int):=by
    show ¬ D.heap+m < (liveP D:Int)+1+((flds c.ls x.2.1).length:Int)
    omega
   rw [if_neg e,if_neg hf];rfl
 rw [if_neg h7]
 rw [if_neg h7]
 by_cases h8:x.1=8
 ·rw [if_pos h8,if_pos h8]
  by_cases hz:(dpopV D.top.stack).1=0
  ·rw [if_pos hz];exact if_pos hz
  ·rw [if_neg hz];exact if_neg hz
 rw [if_neg h8,if_neg h8]
 by_cases h9:x.1=9
 ·rw [if_pos h9,if_pos h9]
  by_cases hz:(dpopV D.top.stack.dropLast).1=0
  ·rw [if_pos hz];exact if_pos hz
  ·rw [if_neg hz];exact if_neg hz
 rw [if_neg h9,if_neg h9]
 by_cases h10:x.1=10
 ·rw [if_pos h10,if_pos h10];rfl
 rw [if_neg h10,if_neg h10]
 by_cases h11:x.1=11
 ·rw [if_pos h11,if_pos h11];rfl
 rw [if_neg h11,if_neg h11]
 by_cases h12:x.1=12
 ·rw [if_pos h12,if_pos h12];rfl
 rw [if_neg h12,if_neg h12]
theorem dcall_rm (hf0:0<=f) (g:Int) (D:Dn) (h5:(dcallP c g D).status ≠ 5):dcallP c g (rmD m f D)=rmD m f (dcallP c g D):=by
 unfold dcallP at h5 ⊢
 by_cases hd:D.depth<=(D.below.length:Int)+1
 ·rw [if_pos hd] at h5;exact absurd rfl h5
 ·have e:¬ (rmD m f D).depth<=((rmD m f D).below.length:Int)+1:=by
   show ¬ D.depth+f<=(D.below.length:Int)+1
   omega
  rw [if_neg e,if_neg hd];rfl
theorem dret_rm (D:Dn):dretP (rmD m f D)=rmD m f (dretP D):=by
 unfold dretP
 by_cases h:D.below=[]
 ·rw [dif_pos h];exact dif_pos h
 ·rw [dif_neg h];exact dif_neg h
theorem dst_rm (hm:0<=m) (hf0:0<=f) (x:Int × Int × Int) (D:Dn) (h4:(dstP c inp x D).status ≠ 4) (h5:(dstP c inp x D).status ≠ 5):dstP c inp x (rmD m f D)=rmD m f (dstP c inp x D):=by
 unfold dstP dst2P at h4 h5 ⊢
 have e0:dincR (rmD m f D)=rmD m f (dincR D):=rfl
 rw [e0]
 generalize dincR D=E at *
 by_cases h0:x.1=0
 ·rw [if_pos h0,if_pos h0];rfl
 rw [if_neg h0] at h4 h5 ⊢
 rw [if_neg h0]
 by_cases h1:x.1=1 \/ x.1=2 \/ x.1=3 \/ x.1=4
 ·rw [if_pos h1,if_pos h1];rfl
 rw [if_neg h1] at h4 h5 ⊢
 rw [if_neg h1]
 by_cases q5:x.1=5
 ·rw [if_pos q5,if_pos q5];rfl
 rw [if_neg q5] at h4 h5 ⊢
 rw [if_neg q5]
 by_cases q6:x.1=6
 ·rw [if_pos q6,if_pos q6];rfl
 rw [if_neg q6] at h4 h5 ⊢
 rw [if_neg q6]
 by_cases q13:x.1=13
 ·rw [if_pos q13,if_pos q13];rfl
 rw [if_neg q13] at h4 h5 ⊢
 rw [if_neg q13]
 by_cases q14:x.1=14
 ·rw [if_pos q14,if_pos q14];rfl
 rw [if_neg q14] at h4 h5 ⊢
 rw [if_neg q14]
 by_cases q15:x.1=15
 ·rw [if_pos q15] at h4 h5 ⊢
  rw [if_pos q15];exact dcall_rm hf0 _ _ h5
 rw [if_neg q15] at h4 h5 ⊢
 rw [if_neg q15]
 by_cases q16:x.1=16
 ·rw [if_pos q16,if_pos q16];exact dret_rm _
 rw [if_neg q16] at h4 h5 ⊢
 rw [if_neg q16]
 by_cases q17:x.1=17
 ·rw [if_pos q17,if_pos q17];rfl
 rw [if_neg q17] at h4 h5 ⊢
 rw [if_neg q17]
 by_cases q18:x.1=18
 ·rw [if_pos q18,if_pos q18];rfl
 rw [if_neg q18] at h4 h5 ⊢
 rw [if_neg q18]
 exact drec_rm hm _ _ h4
theorem dst_out (x:Int × Int × Int) (D:Dn) (h0:D.status=0):D.out.length<=(dstP c inp x D).out.length/\((dstP c inp x D).status=4 \/ (dstP c inp x D).status=5->(dstP c inp x D).out=D.out):=by
 have e0:(dincR D).out=D.out/\(dincR D).status=0:=⟨rfl,h0⟩
 unfold dstP
 rw [<-e0.1]
 have h0:=e0.2
 clear e0
 generalize dincR D=E at *
 unfold dst2P
 repeat' split
 all_goals first
  | exact ⟨Nat.le_refl _,fun _=>rfl⟩
  | skip
 ·unfold dcallP;split
  ·exact ⟨Nat.le_refl _,fun _=>rfl⟩
  ·exact ⟨Nat.le_refl _,fun _=>rfl⟩
 ·unfold dretP;split
  ·refine ⟨by simp,fun q=>?_⟩
   rcases q with q | q <;> (have:(1:Int)=_:=q;omega)
  ·exact ⟨Nat.le_refl _,fun _=>rfl⟩
 ·refine ⟨by simp,fun q=>?_⟩
  have:E.status=4 \/ E.status=5:=q
  omega
 ·unfold drecP
  repeat' split
  all_goals exact ⟨Nat.le_refl _,fun _=>rfl⟩
theorem dgo_out:∀ (n:Nat) (D:Dn),D.out.length<=(dgoP c inp n D).out.length:=by
 intro n
 induction n with
 | zero=>intro D;exact Nat.le_refl _
 | succ n ih =>
  intro D
  unfold dgoP
  split
  ·exact Nat.le_refl _
  ·rename_i h0
   split
   ·exact Nat.le_refl _
   ·exact Nat.le_trans (dst_out (c:=c) (inp:=inp) (dnxtP c D) D (by simpa using h0)).1 (ih _)
theorem dgo_rm (hm:0<=m) (hf0:0<=f):∀ (n:Nat) (D:Dn),((dgoP c inp n D).status ≠ 4/\(dgoP c inp n D).status ≠ 5->dgoP c inp n (rmD m f D)=rmD m f (dgoP c inp n D))/\(dgoP c inp n D).out.length<=(dgoP c inp n (rmD m f D)).out.length:=by
 intro n
 induction n with
 | zero=>intro D;exact ⟨fun _=>rfl,Nat.le_refl _⟩
 | succ n ih =>
  intro D
  have stop:∀ (k:Nat) (E:Dn),E.status ≠ 0->dgoP c inp k E=E:=by
   intro k E hE
   cases k with
   | zero=>rfl
   | succ k=>unfold dgoP;rw [if_pos hE]
  by_cases h0:D.status ≠ 0
  ·rw [stop _ D h0,stop _ (rmD m f D) h0]
   exact ⟨fun _=>rfl,Nat.le_refl _⟩
  ·have h0':¬ (rmD m f D).status ≠ 0:=h0
   by_cases hw:(dnxtP c D).1=18/\inp.length<=D.used
   ·have e1:dgoP c inp (n+1) D = { D with status:=2 }:=by conv=>lhs;unfold dgoP;rw [if_neg h0,if_pos hw]
    have e2:dgoP c inp (n+1) (rmD m f D) = { rmD m f D with status:=2 }:=by conv=>lhs;unfold dgoP;rw [if_neg h0',if_pos (show (dnxtP c (rmD m f D)).1=18/\inp.length<=(rmD m f D).used from hw)]
    rw [e1,e2]
    exact ⟨fun _=>rfl,Nat.le_refl _⟩
   ·have e1:dgoP c inp (n+1) D=dgoP c inp n (dstP c inp (dnxtP c D) D):=by conv=>lhs;unfold dgoP;rw [if_neg h0,if_neg hw]
    have e2:dgoP c inp (n+1) (rmD m f D)=dgoP c inp n (dstP c inp (dnxtP c D) (rmD m f D)):=by
     conv=>lhs;unfold dgoP
     rw [if_neg h0',if_neg (show ¬ ((dnxtP c (rmD m f D)).1=18/\inp.length<=(rmD m f D).used) from hw)]
     rfl
    rw [e1,e2]
    have hs0:D.status=0:=by simpa using h0
    by_cases hb:(dstP c inp (dnxtP c D) D).status=4 \/ (dstP c inp (dnxtP c D) D).status=5
    ·rw [stop n _ (by omega)]
     refine ⟨fun q=>by omega,?_⟩
     rw [(dst_out (c:=c) (inp:=inp) (dnxtP c D) D hs0).2 hb]
     exact Nat.le_trans (dst_out (c:=c) (inp:=inp) (dnxtP c D) (rmD m f D) hs0).1 (dgo_out n _)
    ·rw [dst_rm hm hf0 _ D (fun q=>hb (.inl q)) (fun q=>hb (.inr q))]
     exact ih _
end
theorem roomy_plain {c:Cx} (ok:CxOk c) {h d m f:Int} (h0:0<=h) (h4:h+m<=4000) (d1:1<=d) (d64:d+f<=64) (hm:0<=m) (hf:0<=f) (inp:List Int) (n:Nat) (hn:n<=10000) (X Y:Rn × Int) (hX:goStP c (bare (stR c h d)) inp n=X) (hY:goStP c (bare (stR c (h+m) (d+f))) inp n=Y) :
 (X.2=4 \/ X.2=5->X.1.out.length<=Y.1.out.length)/\(X.2 ≠ 4->X.2 ≠ 5->X.1.out=Y.1.out/\X.1.used=Y.1.used/\X.2=Y.2)/\X.1.out.length<=10000:=by
 have r1:=rel_start ok h0 (by omega) d1 (show d<=64 by omega) (h:=h)
 have r2:=rel_start ok (show 0<=h+m by omega) h4 (show 1<=d+f by omega) d64
 obtain ⟨b1,b2⟩:=bare_x (stR c h d)
 obtain ⟨b3,b4⟩:=bare_x (stR c (h+m) (d+f))
 obtain ⟨_,x1,x2,x3,_⟩:=go_sim ok inp n r1.bare b1 b2
 obtain ⟨_,y1,y2,y3,_⟩:=go_sim ok inp n r2.bare b3 b4
 have hX':goOnP c n { bare (stR c h d) with inp:=inp } = X:=hX
 have hY':goOnP c n { bare (stR c (h+m) (d+f)) with inp:=inp } = Y:=hY
 rw [hX'] at x1 x2 x3
 rw [hY'] at y1 y2 y3
 have hg:=dgo_rm (c:=c) (inp:=inp) hm hf n { stD c h d with out:=[],used:=0,status:=if (stD c h d).status=2 then 0 else (stD c h d).status }
 have ex:dGo c inp n (stD c h d)=dgoP c inp n { stD c h d with out:=[],used:=0,status:=if (stD c h d).status=2 then 0 else (stD c h d).status }:=rfl
 have ey:dGo c inp n (stD c (h+m) (d+f))=dgoP c inp n (rmD m f { stD c h d with out:=[],used:=0,status:=if (stD c h d).status=2 then 0 else (stD c h d).status }):=rfl
 rw [<-ex,<-ey] at hg
 refine ⟨fun _=>by rw [<-x1,<-y1];exact hg.2,fun q4 q5=>?_,?_⟩
 ·have:=hg.1 ⟨by rw [x3];exact q4,by rw [x3];exact q5⟩
  rw [this] at y1 y2 y3
  exact ⟨x1.symm.trans y1,x2.symm.trans y2,x3.symm.trans y3⟩
 ·have:=go_out c n { bare (stR c h d) with inp:=inp }
  have e:({ bare (stR c h d) with inp:=inp }:Rn).out=[]:=b2
  rw [e,hX'] at this
  simp only [List.length_nil] at this
  omega
end Go.Proofs.Ytnfnbcbadakofaa
