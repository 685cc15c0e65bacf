import Derived.Test.YtnfnbcbadakofaaRmp
namespace Go.Proofs.Ytnfnbcbadakofaa
open Go.RowKit
set_option maxHeartbeats 4000000 in
set_option maxRecDepth 100000 in
theorem roomy_walk (img:ByteArray) (h d m f:Int) (iv:Value) (inp:List Int) (fuel:Int) (w:World) (hi:RdA w iv inp) :
 Calls Try.prog 13 #[.string img,.int .i64 h,.int .i64 d,.int .i64 m,.int .i64 f,iv,.int .i64 fuel] w fun e w'=>e=.returned (.bool true)/\Chg (fun _=>False) w w':=by
 have HF:Hid (∀ w,Calls Try.prog 31 #[.string img] w fun e w'=>e=.returned (.bool ((opF img).1 == 0))/\Chg (fun _=>False) w w'):=fun w=>fits_any img w
 have HS:Hid (∀ w,Calls Try.prog 32 #[.string img,.int .i64 h,.int .i64 d] w (SuEnd w img (opF img) h d)):=fun w=>start_any img h d w
 obtain ⟨ia,ic,hiv⟩:=hi.slice
 subst hiv
 have HI:Hid (RdA w (.slice ia inp.length ic) inp):=hi
 clear hi
 by_cases hz:(opF img).1=0
 ·have hz':((opF img).1 == 0)=true:=by simp [hz]
  rw [hz'] at HF
  have HZ:Hid ((opF img).1=0):=hz
  clear hz hz'
  by_cases hb:badR h d
  ·have hrg:rgB h d=false:=by cases q:rgB h d with | true=>exact absurd hb (rgB_iff.1 q) | false=>rfl
   have HB:Hid (badR h d):=hb
   have HRG:Hid (∀ w,Calls Try.prog 33 #[.int .i64 h,.int .i64 d] w fun e w'=>e=.returned (.bool false)/\w'=w):=fun w=>by rw [<-hrg];exact ranged_any h d w
   clear hb hrg
   go_enter Try.func13,Try.ntmps13
   go_wp2_with fail
   refine (HF.out _).mono ?_
   rintro e w1 ⟨rfl,k1⟩
   go_wp2_with fail
   refine (HS.out _).mono ?_
   rintro e w2 ⟨sa,sn,sc,er,pl,rfl,k2,_,hB,_⟩
   obtain ⟨rfl,rfl,hn⟩:=hB HZ.out HB.out
   simp only [Value.slice.injEq] at hn
   obtain ⟨rfl,rfl,rfl⟩:=hn
   have K2:Hid (Chg (fun _=>False) w w2):=k1.trans k2
   clear k1 k2
   have e47:=fun wx:World=>Lib.run_eql_slice_nil (P:=Try.prog) wx 47 3 none 0 0 0 0 Try.underlying47
   go_wp2_with fail
   refine (HRG.out _).mono ?_
   rintro e w3 ⟨rfl,hw3⟩
   have hw3:=hw3.symm
   subst hw3
   go_wp2_with fail
   refine (num_any 4 _).mono ?_
   rintro e w4 ⟨rfl,hw4⟩
   have hw4:=hw4.symm
   subst hw4
   go_wp2
   go_ret
   exact ⟨rfl,K2.out⟩
  ·have hrg:rgB h d=true:=rgB_iff.2 hb
   have HB:Hid (¬ badR h d):=hb
   have HRG:Hid (∀ w,Calls Try.prog 33 #[.int .i64 h,.int .i64 d] w fun e w'=>e=.returned (.bool true)/\w'=w):=fun w=>by rw [<-hrg];exact ranged_any h d w
   have HR0:Hid (Rel (cxO img) (stD (cxO img) h d) (stR (cxO img) h d)):=by
    have hb':=hb
    unfold badR at hb'
    exact rel_start (cx_ok HZ.out) (by omega) (by omega) (by omega) (by omega)
   clear hb hrg
   obtain ⟨hh0,hh4,hd1,hd6⟩:0<=h/\h<=4000/\1<=d/\d<=64:=by have:=HB.out;unfold badR at this;omega
   by_cases hfa:0<=fuel/\fuel<=10000
   ·have HFA:Hid (∀ w,Calls Try.prog 34 #[.int .i64 fuel] w fun e w'=>e=.returned (.bool true)/\w'=w):=fun w=>by
     have e:decide (0<=fuel/\fuel<=10000)=true:=by simp [hfa]
     rw [<-e];exact fuelled_any fuel w
    obtain ⟨n,hn⟩:∃ n:Nat,fuel=(n:Int):=⟨fuel.toNat,by omega⟩
    subst hn
    have hn4:n<=10000:=by omega
    clear hfa
    by_cases hm0:m < 0
    ·go_enter Try.func13,Try.ntmps13
     go_wp2_with fail
     refine (HF.out _).mono ?_
     rintro e w1 ⟨rfl,k1⟩
     go_wp2_with fail
     refine (HS.out _).mono ?_
     rintro e w2 ⟨sa,sn,sc,er,pl,rfl,k2,_,_,hG⟩
     obtain ⟨rfl,rfl,hS⟩:=hG HZ.out HB.out
     rw [start_lay] at hS
     have K2:Hid (Chg (fun _=>False) w w2):=k1.trans k2
     have HSS:Hid (IntsV w2 w1.heap.size (.slice sa sn sc) (layR (mksP img) (stR (cxO img) h d))):=hS
     clear k1 k2 hS hG HF HS
     go_wp2_with fail
     refine (HRG.out _).mono ?_
     rintro e w3 ⟨rfl,hw3⟩
     have hw3:=hw3.symm
     subst hw3
     go_wp2_with fail
     refine (HFA.out _).mono ?_
     rintro e w3 ⟨rfl,hw3⟩
     have hw3:=hw3.symm
     subst hw3
     go_wp2
     go_ret
     exact ⟨rfl,K2.out⟩
    by_cases hf0:f < 0
    ·go_enter Try.func13,Try.ntmps13
     go_wp2_with fail
     refine (HF.out _).mono ?_
     rintro e w1 ⟨rfl,k1⟩
     go_wp2_with fail
     refine (HS.out _).mono ?_
     rintro e w2 ⟨sa,sn,sc,er,pl,rfl,k2,_,_,hG⟩
     obtain ⟨rfl,rfl,hS⟩:=hG HZ.out HB.out
     rw [start_lay] at hS
     have K2:Hid (Chg (fun _=>False) w w2):=k1.trans k2
     have HSS:Hid (IntsV w2 w1.heap.size (.slice sa sn sc) (layR (mksP img) (stR (cxO img) h d))):=hS
     clear k1 k2 hS hG HF HS
     go_wp2_with fail
     refine (HRG.out _).mono ?_
     rintro e w3 ⟨rfl,hw3⟩
     have hw3:=hw3.symm
     subst hw3
     go_wp2_with fail
     refine (HFA.out _).mono ?_
     rintro e w3 ⟨rfl,hw3⟩
     have hw3:=hw3.symm
     subst hw3
     go_wp2
     go_ret
     exact ⟨rfl,K2.out⟩
    by_cases hm4:4000 - h < m
    ·go_enter Try.func13,Try.ntmps13
     go_wp2_with fail
     refine (HF.out _).mono ?_
     rintro e w1 ⟨rfl,k1⟩
     go_wp2_with fail
     refine (HS.out _).mono ?_
     rintro e w2 ⟨sa,sn,sc,er,pl,rfl,k2,_,_,hG⟩
     obtain ⟨rfl,rfl,hS⟩:=hG HZ.out HB.out
     rw [start_lay] at hS
     have K2:Hid (Chg (fun _=>False) w w2):=k1.trans k2
     have HSS:Hid (IntsV w2 w1.heap.size (.slice sa sn sc) (layR (mksP img) (stR (cxO img) h d))):=hS
     clear k1 k2 hS hG HF HS
     go_wp2_with fail
     refine (HRG.out _).mono ?_
     rintro e w3 ⟨rfl,hw3⟩
     have hw3:=hw3.symm
     subst hw3
     go_wp2_with fail
     refine (HFA.out _).mono ?_
     rintro e w3 ⟨rfl,hw3⟩
     have hw3:=hw3.symm
     subst hw3
     go_wp2
     go_ret
     exact ⟨rfl,K2.out⟩
    by_cases hf6:64 - d < f
    ·go_enter Try.func13,Try.ntmps13
     go_wp2_with fail
     refine (HF.out _).mono ?_
     rintro e w1 ⟨rfl,k1⟩
     go_wp2_with fail
     refine (HS.out _).mono ?_
     rintro e w2 ⟨sa,sn,sc,er,pl,rfl,k2,_,_,hG⟩
     obtain ⟨rfl,rfl,hS⟩:=hG HZ.out HB.out
     rw [start_lay] at hS
     have K2:Hid (Chg (fun _=>False) w w2):=k1.trans k2
     have HSS:Hid (IntsV w2 w1.heap.size (.slice sa sn sc) (layR (mksP img) (stR (cxO img) h d))):=hS
     clear k1 k2 hS hG HF HS
     go_wp2_with fail
     refine (HRG.out _).mono ?_
     rintro e w3 ⟨rfl,hw3⟩
     have hw3:=hw3.symm
     subst hw3
     go_wp2_with fail
     refine (HFA.out _).mono ?_
     rintro e w3 ⟨rfl,hw3⟩
     have hw3:=hw3.symm
     subst hw3
     go_wp2
     go_ret
     exact ⟨rfl,K2.out⟩
    have HB2:Hid (¬ badR (h+m) (d+f)):=by show ¬ badR (h+m) (d+f);unfold badR;omega
    have HS2:Hid (∀ w,Calls Try.prog 32 #[.string img,.int .i64 (h+m),.int .i64 (d+f)] w (SuEnd w img (opF img) (h+m) (d+f))):=fun w=>start_any img (h+m) (d+f) w
    obtain ⟨X,hX⟩:∃ X,goStP (cxO img) (bare (stR (cxO img) h d)) inp n=X:=⟨_,rfl⟩
    obtain ⟨Y,hY⟩:∃ Y,goStP (cxO img) (bare (stR (cxO img) (h+m) (d+f))) inp n=Y:=⟨_,rfl⟩
    obtain ⟨pa,pb,pc⟩:=roomy_plain (cx_ok HZ.out) hh0 (by omega) hd1 (by omega) (by omega) (by omega) inp n hn4 X Y hX hY
    have R1:Hid (Rel (cxO img) (stD (cxO img) h d) (stR (cxO img) h d)):=HR0.out
    have R2:Hid (Rel (cxO img) (stD (cxO img) (h+m) (d+f)) (stR (cxO img) (h+m) (d+f))):=rel_start (cx_ok HZ.out) (by omega) (by omega) (by omega) (by omega)
    have HX:Hid (goStP (cxO img) (bare (stR (cxO img) h d)) inp n=X):=hX
    have HY:Hid (goStP (cxO img) (bare (stR (cxO img) (h+m) (d+f))) inp n=Y):=hY
    have HA:Hid (X.2=4 \/ X.2=5->X.1.out.length<=Y.1.out.length):=pa
    have HBX:Hid (X.2 ≠ 4->X.2 ≠ 5->X.1.out=Y.1.out/\X.1.used=Y.1.used/\X.2=Y.2):=pb
    have HLE:Hid (X.1.out.length<=10000):=pc
    clear hX hY pa pb pc HR0
    by_cases q4:X.2=4
    ·have b4:(X.2 == 4)=true:=by simp [q4]
     have HQ4:Hid (X.2=4 \/ X.2=5):=.inl q4
     clear q4
     go_enter Try.func13,Try.ntmps13
     go_wp2_with fail
     refine (HF.out _).mono ?_
     rintro e w1 ⟨rfl,k1⟩
     go_wp2_with fail
     refine (HS.out _).mono ?_
     rintro e w2 ⟨sa,sn,sc,er,pl,rfl,k2,_,_,hG⟩
     obtain ⟨rfl,rfl,hS⟩:=hG HZ.out HB.out
     rw [start_lay] at hS
     have K2:Hid (Chg (fun _=>False) w w2):=k1.trans k2
     have HSS:Hid (IntsV w2 w1.heap.size (.slice sa sn sc) (layR (mksP img) (stR (cxO img) h d))):=hS
     clear k1 k2 hS hG HF HS
     go_wp2_with fail
     refine (HRG.out _).mono ?_
     rintro e w3 ⟨rfl,hw3⟩
     have hw3:=hw3.symm
     subst hw3
     go_wp2_with fail
     refine (HFA.out _).mono ?_
     rintro e w3 ⟨rfl,hw3⟩
     have hw3:=hw3.symm
     subst hw3
     go_wp2_with fail
     refine (HS2.out _).mono ?_
     rintro e w3 ⟨ta,tn,tc,er,pl,rfl,k3,_,_,hG⟩
     obtain ⟨rfl,rfl,hS⟩:=hG HZ.out HB2.out
     rw [start_lay] at hS
     have K3:Hid (Chg (fun _=>False) w w3):=K2.out.trans k3
     have HS3:Hid (IntsV w3 w1.heap.size (.slice sa sn sc) (layR (mksP img) (stR (cxO img) h d))):=own_chg HSS.out k3 (fun _ _ q=>q)
     have HT3:Hid (IntsV w3 w2.heap.size (.slice ta tn tc) (layR (mksP img) (stR (cxO img) (h+m) (d+f)))):=hS
     clear k3 hS hG HS2 HSS
     go_wp2_with fail
     refine (go_lay HZ.out R1.out _ _ inp _ HS3.out (HI.out.new K3.out) n hn4).mono ?_
     rw [HX.out]
     rintro e w4 ⟨sv,ov,rfl,hs4,ho4,k4⟩
     obtain ⟨xa,xc,rfl⟩:=hs4.slice
     obtain ⟨oa,oc,rfl⟩:=ho4.slice
     have nX:=Blk.new w4 #[.slice xa (layR (mksP img) X.1).length xc,.slice oa X.1.out.length oc,.int .i64 (X.1.used:Int),.int .i64 X.2] 71
     have k5:Chg (fun _=>False) w3 (w4.alloc (Obj.cells #[.slice xa (layR (mksP img) X.1).length xc,.slice oa X.1.out.length oc,.int .i64 (X.1.used:Int),.int .i64 X.2] 71)):=k4.alloc _
     have K5:Hid (Chg (fun _=>False) w (w4.alloc (Obj.cells #[.slice xa (layR (mksP img) X.1).length xc,.slice oa X.1.out.length oc,.int .i64 (X.1.used:Int),.int .i64 X.2] 71))):=K3.out.trans k5
     have HT5:Hid (IntsV (w4.alloc (Obj.cells #[.slice xa (layR (mksP img) X.1).length xc,.slice oa X.1.out.length oc,.int .i64 (X.1.used:Int),.int .i64 X.2] 71)) w2.heap.size (.slice ta tn tc) (layR (mksP img) (stR (cxO img) (h+m) (d+f)))):=own_chg HT3.out k5 (fun _ _ q=>q)
     have HO5:Hid (IntsV (w4.alloc (Obj.cells #[.slice xa (layR (mksP img) X.1).length xc,.slice oa X.1.out.length oc,.int .i64 (X.1.used:Int),.int .i64 X.2] 71)) 0 (.slice oa X.1.out.length oc) X.1.out):=own_chg (own_mono ho4 (Nat.zero_le _)) ((Chg.refl _ w4).alloc _) (fun _ _ q=>q)
     clear hs4 ho4 k4 k5 HS3 HT3
     go_wp2_with fail
     generalize w4.alloc (Obj.cells #[.slice xa (layR (mksP img) X.1).length xc,.slice oa X.1.out.length oc,.int .i64 (X.1.used:Int),.int .i64 X.2] 71)=w5 at *
     generalize w4.heap.size=xb at *
     refine (go_lay HZ.out R2.out _ _ inp _ HT5.out (HI.out.new K5.out) n hn4).mono ?_
     rw [HY.out]
     rintro e w6 ⟨sv6,ov6,rfl,hs6,ho6,k6⟩
     obtain ⟨ya,yc,rfl⟩:=hs6.slice
     obtain ⟨yo,yd,rfl⟩:=ho6.slice
     have nY:=Blk.new w6 #[.slice ya (layR (mksP img) Y.1).length yc,.slice yo Y.1.out.length yd,.int .i64 (Y.1.used:Int),.int .i64 Y.2] 71
     have k7:Chg (fun _=>False) w5 (w6.alloc (Obj.cells #[.slice ya (layR (mksP img) Y.1).length yc,.slice yo Y.1.out.length yd,.int .i64 (Y.1.used:Int),.int .i64 Y.2] 71)):=k6.alloc _
     have nX7:=nX.chg k7 (fun q=>q)
     have K7:Hid (Chg (fun _=>False) w (w6.alloc (Obj.cells #[.slice ya (layR (mksP img) Y.1).length yc,.slice yo Y.1.out.length yd,.int .i64 (Y.1.used:Int),.int .i64 Y.2] 71))):=K5.out.trans k7
     have HO7:Hid (IntsV (w6.alloc (Obj.cells #[.slice ya (layR (mksP img) Y.1).length yc,.slice yo Y.1.out.length yd,.int .i64 (Y.1.used:Int),.int .i64 Y.2] 71)) 0 (.slice oa X.1.out.length oc) X.1.out):=own_chg HO5.out k7 (fun _ _ q=>q)
     have HY7:Hid (IntsV (w6.alloc (Obj.cells #[.slice ya (layR (mksP img) Y.1).length yc,.slice yo Y.1.out.length yd,.int .i64 (Y.1.used:Int),.int .i64 Y.2] 71)) 0 (.slice yo Y.1.out.length yd) Y.1.out):=own_chg (own_mono ho6 (Nat.zero_le _)) ((Chg.refl _ w6).alloc _) (fun _ _ q=>q)
     clear nX hs6 ho6 k6 k7 HT5 HO5
     go_wp2_with fail
     generalize w6.alloc (Obj.cells #[.slice ya (layR (mksP img) Y.1).length yc,.slice yo Y.1.out.length yd,.int .i64 (Y.1.used:Int),.int .i64 Y.2] 71)=w7 at *
     generalize w6.heap.size=yb at *
     obtain ⟨x0,x1,x2,x3,_,_,_,_⟩:=cells4 nX7
     obtain ⟨y0,y1,y2,y3,_,_,_,_⟩:=cells4 nY
     clear nX7 nY
     refine (num_any 0 _).mono ?_
     rintro e w8 ⟨rfl,hw3⟩
     have hw3:=hw3.symm
     subst hw3
     go_wp2_with fail
     refine (num_any 0 _).mono ?_
     rintro e w8 ⟨rfl,hw3⟩
     have hw3:=hw3.symm
     subst hw3
     have hle:=HA.out HQ4.out
     have hle':(X.1.out.length:Int)<=(Y.1.out.length:Int):=by omega
     go_wp2
     go_ret
     exact ⟨rfl,K7.out⟩
    have b4:(X.2 == 4)=false:=by simp [q4]
    by_cases q5:X.2=5
    ·have b5:(X.2 == 5)=true:=by simp [q5]
     have HQ4:Hid (X.2=4 \/ X.2=5):=.inr q5
     clear q4 q5
     go_enter Try.func13,Try.ntmps13
     go_wp2_with fail
     refine (HF.out _).mono ?_
     rintro e w1 ⟨rfl,k1⟩
     go_wp2_with fail
     refine (HS.out _).mono ?_
     rintro e w2 ⟨sa,sn,sc,er,pl,rfl,k2,_,_,hG⟩
     obtain ⟨rfl,rfl,hS⟩:=hG HZ.out HB.out
     rw [start_lay] at hS
     have K2:Hid (Chg (fun _=>False) w w2):=k1.trans k2
     have HSS:Hid (IntsV w2 w1.heap.size (.slice sa sn sc) (layR (mksP img) (stR (cxO img) h d))):=hS
     clear k1 k2 hS hG HF HS
     go_wp2_with fail
     refine (HRG.out _).mono ?_
     rintro e w3 ⟨rfl,hw3⟩
     have hw3:=hw3.symm
     subst hw3
     go_wp2_with fail
     refine (HFA.out _).mono ?_
     rintro e w3 ⟨rfl,hw3⟩
     have hw3:=hw3.symm
     subst hw3
     go_wp2_with fail
     refine (HS2.out _).mono ?_
     rintro e w3 ⟨ta,tn,tc,er,pl,rfl,k3,_,_,hG⟩
     obtain ⟨rfl,rfl,hS⟩:=hG HZ.out HB2.out
     rw [start_lay] at hS
     have K3:Hid (Chg (fun _=>False) w w3):=K2.out.trans k3
     have HS3:Hid (IntsV w3 w1.heap.size (.slice sa sn sc) (layR (mksP img) (stR (cxO img) h d))):=own_chg HSS.out k3 (fun _ _ q=>q)
     have HT3:Hid (IntsV w3 w2.heap.size (.slice ta tn tc) (layR (mksP img) (stR (cxO img) (h+m) (d+f)))):=hS
     clear k3 hS hG HS2 HSS
     go_wp2_with fail
     refine (go_lay HZ.out R1.out _ _ inp _ HS3.out (HI.out.new K3.out) n hn4).mono ?_
     rw [HX.out]
     rintro e w4 ⟨sv,ov,rfl,hs4,ho4,k4⟩
     obtain ⟨xa,xc,rfl⟩:=hs4.slice
     obtain ⟨oa,oc,rfl⟩:=ho4.slice
     have nX:=Blk.new w4 #[.slice xa (layR (mksP img) X.1).length xc,.slice oa X.1.out.length oc,.int .i64 (X.1.used:Int),.int .i64 X.2] 71
     have k5:Chg (fun _=>False) w3 (w4.alloc (Obj.cells #[.slice xa (layR (mksP img) X.1).length xc,.slice oa X.1.out.length oc,.int .i64 (X.1.used:Int),.int .i64 X.2] 71)):=k4.alloc _
     have K5:Hid (Chg (fun _=>False) w (w4.alloc (Obj.cells #[.slice xa (layR (mksP img) X.1).length xc,.slice oa X.1.out.length oc,.int .i64 (X.1.used:Int),.int .i64 X.2] 71))):=K3.out.trans k5
     have HT5:Hid (IntsV (w4.alloc (Obj.cells #[.slice xa (layR (mksP img) X.1).length xc,.slice oa X.1.out.length oc,.int .i64 (X.1.used:Int),.int .i64 X.2] 71)) w2.heap.size (.slice ta tn tc) (layR (mksP img) (stR (cxO img) (h+m) (d+f)))):=own_chg HT3.out k5 (fun _ _ q=>q)
     have HO5:Hid (IntsV (w4.alloc (Obj.cells #[.slice xa (layR (mksP img) X.1).length xc,.slice oa X.1.out.length oc,.int .i64 (X.1.used:Int),.int .i64 X.2] 71)) 0 (.slice oa X.1.out.length oc) X.1.out):=own_chg (own_mono ho4 (Nat.zero_le _)) ((Chg.refl _ w4).alloc _) (fun _ _ q=>q)
     clear hs4 ho4 k4 k5 HS3 HT3
     go_wp2_with fail
     generalize w4.alloc (Obj.cells #[.slice xa (layR (mksP img) X.1).length xc,.slice oa X.1.out.length oc,.int .i64 (X.1.used:Int),.int .i64 X.2] 71)=w5 at *
     generalize w4.heap.size=xb at *
     refine (go_lay HZ.out R2.out _ _ inp _ HT5.out (HI.out.new K5.out) n hn4).mono ?_
     rw [HY.out]
     rintro e w6 ⟨sv6,ov6,rfl,hs6,ho6,k6⟩
     obtain ⟨ya,yc,rfl⟩:=hs6.slice
     obtain ⟨yo,yd,rfl⟩:=ho6.slice
     have nY:=Blk.new w6 #[.slice ya (layR (mksP img) Y.1).length yc,.slice yo Y.1.out.length yd,.int .i64 (Y.1.used:Int),.int .i64 Y.2] 71
     have k7:Chg (fun _=>False) w5 (w6.alloc (Obj.cells #[.slice ya (layR (mksP img) Y.1).length yc,.slice yo Y.1.out.length yd,.int .i64 (Y.1.used:Int),.int .i64 Y.2] 71)):=k6.alloc _
     have nX7:=nX.chg k7 (fun q=>q)
     have K7:Hid (Chg (fun _=>False) w (w6.alloc (Obj.cells #[.slice ya (layR (mksP img) Y.1).length yc,.slice yo Y.1.out.length yd,.int .i64 (Y.1.used:Int),.int .i64 Y.2] 71))):=K5.out.trans k7
     have HO7:Hid (IntsV (w6.alloc (Obj.cells #[.slice ya (layR (mksP img) Y.1).length yc,.slice yo Y.1.out.length yd,.int .i64 (Y.1.used:Int),.int .i64 Y.2] 71)) 0 (.slice oa X.1.out.length oc) X.1.out):=own_chg HO5.out k7 (fun _ _ q=>q)
     have HY7:Hid (IntsV (w6.alloc (Obj.cells #[.slice ya (layR (mksP img) Y.1).length yc,.slice yo Y.1.out.length yd,.int .i64 (Y.1.used:Int),.int .i64 Y.2] 71)) 0 (.slice yo Y.1.out.length yd) Y.1.out):=own_chg (own_mono ho6 (Nat.zero_le _)) ((Chg.refl _ w6).alloc _) (fun _ _ q=>q)
     clear nX hs6 ho6 k6 k7 HT5 HO5
     go_wp2_with fail
     generalize w6.alloc (Obj.cells #[.slice ya (layR (mksP img) Y.1).length yc,.slice yo Y.1.out.length yd,.int .i64 (Y.1.used:Int),.int .i64 Y.2] 71)=w7 at *
     generalize w6.heap.size=yb at *
     obtain ⟨x0,x1,x2,x3,_,_,_,_⟩:=cells4 nX7
     obtain ⟨y0,y1,y2,y3,_,_,_,_⟩:=cells4 nY
     clear nX7 nY
     refine (num_any 0 _).mono ?_
     rintro e w8 ⟨rfl,hw3⟩
     have hw3:=hw3.symm
     subst hw3
     go_wp2_with fail
     refine (num_any 0 _).mono ?_
     rintro e w8 ⟨rfl,hw3⟩
     have hw3:=hw3.symm
     subst hw3
     have hle:=HA.out HQ4.out
     have hle':(X.1.out.length:Int)<=(Y.1.out.length:Int):=by omega
     go_wp2
     go_ret
     exact ⟨rfl,K7.out⟩
    have b5:(X.2 == 5)=false:=by simp [q5]
    have HQ4:Hid (X.2 ≠ 4):=q4
    have HQ5:Hid (X.2 ≠ 5):=q5
    clear q4 q5
    go_enter Try.func13,Try.ntmps13
    go_wp2_with fail
    refine (HF.out _).mono ?_
    rintro e w1 ⟨rfl,k1⟩
    go_wp2_with fail
    refine (HS.out _).mono ?_
    rintro e w2 ⟨sa,sn,sc,er,pl,rfl,k2,_,_,hG⟩
    obtain ⟨rfl,rfl,hS⟩:=hG HZ.out HB.out
    rw [start_lay] at hS
    have K2:Hid (Chg (fun _=>False) w w2):=k1.trans k2
    have HSS:Hid (IntsV w2 w1.heap.size (.slice sa sn sc) (layR (mksP img) (stR (cxO img) h d))):=hS
    clear k1 k2 hS hG HF HS
    go_wp2_with fail
    refine (HRG.out _).mono ?_
    rintro e w3 ⟨rfl,hw3⟩
    have hw3:=hw3.symm
    subst hw3
    go_wp2_with fail
    refine (HFA.out _).mono ?_
    rintro e w3 ⟨rfl,hw3⟩
    have hw3:=hw3.symm
    subst hw3
    go_wp2_with fail
    refine (HS2.out _).mono ?_
    rintro e w3 ⟨ta,tn,tc,er,pl,rfl,k3,_,_,hG⟩
    obtain ⟨rfl,rfl,hS⟩:=hG HZ.out HB2.out
    rw [start_lay] at hS
    have K3:Hid (Chg (fun _=>False) w w3):=K2.out.trans k3
    have HS3:Hid (IntsV w3 w1.heap.size (.slice sa sn sc) (layR (mksP img) (stR (cxO img) h d))):=own_chg HSS.out k3 (fun _ _ q=>q)
    have HT3:Hid (IntsV w3 w2.heap.size (.slice ta tn tc) (layR (mksP img) (stR (cxO img) (h+m) (d+f)))):=hS
    clear k3 hS hG HS2 HSS
    go_wp2_with fail
    refine (go_lay HZ.out R1.out _ _ inp _ HS3.out (HI.out.new K3.out) n hn4).mono ?_
    rw [HX.out]
    rintro e w4 ⟨sv,ov,rfl,hs4,ho4,k4⟩
    obtain ⟨xa,xc,rfl⟩:=hs4.slice
    obtain ⟨oa,oc,rfl⟩:=ho4.slice
    have nX:=Blk.new w4 #[.slice xa (layR (mksP img) X.1).length xc,.slice oa X.1.out.length oc,.int .i64 (X.1.used:Int),.int .i64 X.2] 71
    have k5:Chg (fun _=>False) w3 (w4.alloc (Obj.cells #[.slice xa (layR (mksP img) X.1).length xc,.slice oa X.1.out.length oc,.int .i64 (X.1.used:Int),.int .i64 X.2] 71)):=k4.alloc _
    have K5:Hid (Chg (fun _=>False) w (w4.alloc (Obj.cells #[.slice xa (layR (mksP img) X.1).length xc,.slice oa X.1.out.length oc,.int .i64 (X.1.used:Int),.int .i64 X.2] 71))):=K3.out.trans k5
    have HT5:Hid (IntsV (w4.alloc (Obj.cells #[.slice xa (layR (mksP img) X.1).length xc,.slice oa X.1.out.length oc,.int .i64 (X.1.used:Int),.int .i64 X.2] 71)) w2.heap.size (.slice ta tn tc) (layR (mksP img) (stR (cxO img) (h+m) (d+f)))):=own_chg HT3.out k5 (fun _ _ q=>q)
    have HO5:Hid (IntsV (w4.alloc (Obj.cells #[.slice xa (layR (mksP img) X.1).length xc,.slice oa X.1.out.length oc,.int .i64 (X.1.used:Int),.int .i64 X.2] 71)) 0 (.slice oa X.1.out.length oc) X.1.out):=own_chg (own_mono ho4 (Nat.zero_le _)) ((Chg.refl _ w4).alloc _) (fun _ _ q=>q)
    clear hs4 ho4 k4 k5 HS3 HT3
    go_wp2_with fail
    generalize w4.alloc (Obj.cells #[.slice xa (layR (mksP img) X.1).length xc,.slice oa X.1.out.length oc,.int .i64 (X.1.used:Int),.int .i64 X.2] 71)=w5 at *
    generalize w4.heap.size=xb at *
    refine (go_lay HZ.out R2.out _ _ inp _ HT5.out (HI.out.new K5.out) n hn4).mono ?_
    rw [HY.out]
    rintro e w6 ⟨sv6,ov6,rfl,hs6,ho6,k6⟩
    obtain ⟨ya,yc,rfl⟩:=hs6.slice
    obtain ⟨yo,yd,rfl⟩:=ho6.slice
    have nY:=Blk.new w6 #[.slice ya (layR (mksP img) Y.1).length yc,.slice yo Y.1.out.length yd,.int .i64 (Y.1.used:Int),.int .i64 Y.2] 71
    have k7:Chg (fun _=>False) w5 (w6.alloc (Obj.cells #[.slice ya (layR (mksP img) Y.1).length yc,.slice yo Y.1.out.length yd,.int .i64 (Y.1.used:Int),.int .i64 Y.2] 71)):=k6.alloc _
    have nX7:=nX.chg k7 (fun q=>q)
    have K7:Hid (Chg (fun _=>False) w (w6.alloc (Obj.cells #[.slice ya (layR (mksP img) Y.1).length yc,.slice yo Y.1.out.length yd,.int .i64 (Y.1.used:Int),.int .i64 Y.2] 71))):=K5.out.trans k7
    have HO7:Hid (IntsV (w6.alloc (Obj.cells #[.slice ya (layR (mksP img) Y.1).length yc,.slice yo Y.1.out.length yd,.int .i64 (Y.1.used:Int),.int .i64 Y.2] 71)) 0 (.slice oa X.1.out.length oc) X.1.out):=own_chg HO5.out k7 (fun _ _ q=>q)
    have HY7:Hid (IntsV (w6.alloc (Obj.cells #[.slice ya (layR (mksP img) Y.1).length yc,.slice yo Y.1.out.length yd,.int .i64 (Y.1.used:Int),.int .i64 Y.2] 71)) 0 (.slice yo Y.1.out.length yd) Y.1.out):=own_chg (own_mono ho6 (Nat.zero_le _)) ((Chg.refl _ w6).alloc _) (fun _ _ q=>q)
    clear nX hs6 ho6 k6 k7 HT5 HO5
    go_wp2_with fail
    generalize w6.alloc (Obj.cells #[.slice ya (layR (mksP img) Y.1).length yc,.slice yo Y.1.out.length yd,.int .i64 (Y.1.used:Int),.int .i64 Y.2] 71)=w7 at *
    generalize w6.heap.size=yb at *
    obtain ⟨x0,x1,x2,x3,_,_,_,_⟩:=cells4 nX7
    obtain ⟨y0,y1,y2,y3,_,_,_,_⟩:=cells4 nY
    clear nX7 nY
    refine (num_any 0 _).mono ?_
    rintro e w8 ⟨rfl,hw3⟩
    have hw3:=hw3.symm
    subst hw3
    go_wp2_with fail
    refine (num_any 0 _).mono ?_
    rintro e w8 ⟨rfl,hw3⟩
    have hw3:=hw3.symm
    subst hw3
    obtain ⟨e1,e2,e3⟩:=HBX.out HQ4.out HQ5.out
    have E1:Hid (X.1.out=Y.1.out):=e1
    have hbu:((X.1.used:Int) == (Y.1.used:Int))=true:=by rw [e2];simp
    have hbs:(X.2 == Y.2)=true:=by rw [e3];simp
    have hbx:(X.1.used:Int)=(Y.1.used:Int):=by rw [e2]
    clear e1 e2 e3
    go_wp2_with fail
    refine (sameInts_true _ _ 0 0 X.1.out _ HLE.out HO7.out (by rw [E1.out];exact HY7.out)).mono ?_
    rintro e w9 ⟨rfl,m9,hw9⟩
    have hw9:=hw9.symm
    subst hw9
    have u2:(w7.drewN m9).cell? ⟨xb,2,none⟩=some (.int .i64 (X.1.used:Int)):=x2
    have u3:(w7.drewN m9).cell? ⟨xb,3,none⟩=some (.int .i64 X.2):=x3
    have v2:(w7.drewN m9).cell? ⟨yb,2,none⟩=some (.int .i64 (Y.1.used:Int)):=y2
    have v3:(w7.drewN m9).cell? ⟨yb,3,none⟩=some (.int .i64 Y.2):=y3
    have K9:Hid (Chg (fun _=>False) w (w7.drewN m9)):=K7.out.drewN m9
    clear x0 x1 x2 x3 y0 y1 y2 y3 HO7 HY7
    generalize w7.drewN m9=w9 at *
    go_wp2
    go_ret
    exact ⟨by simp,K9.out⟩
   ·have HFA:Hid (∀ w,Calls Try.prog 34 #[.int .i64 fuel] w fun e w'=>e=.returned (.bool false)/\w'=w):=fun w=>by
     have e:decide (0<=fuel/\fuel<=10000)=false:=by simp only [decide_eq_false_iff_not];exact hfa
     rw [<-e];exact fuelled_any fuel w
    clear hfa
    go_enter Try.func13,Try.ntmps13
    go_wp2_with fail
    refine (HF.out _).mono ?_
    rintro e w1 ⟨rfl,k1⟩
    go_wp2_with fail
    refine (HS.out _).mono ?_
    rintro e w2 ⟨sa,sn,sc,er,pl,rfl,k2,_,_,hG⟩
    obtain ⟨rfl,rfl,hS⟩:=hG HZ.out HB.out
    rw [start_lay] at hS
    have K2:Hid (Chg (fun _=>False) w w2):=k1.trans k2
    have HSS:Hid (IntsV w2 w1.heap.size (.slice sa sn sc) (layR (mksP img) (stR (cxO img) h d))):=hS
    clear k1 k2 hS hG HF HS
    go_wp2_with fail
    refine (HRG.out _).mono ?_
    rintro e w3 ⟨rfl,hw3⟩
    have hw3:=hw3.symm
    subst hw3
    go_wp2_with fail
    refine (HFA.out _).mono ?_
    rintro e w3 ⟨rfl,hw3⟩
    have hw3:=hw3.symm
    subst hw3
    go_wp2
    go_ret
    exact ⟨rfl,K2.out⟩
 ·have hz':((opF img).1 == 0)=false:=by simp [hz]
  rw [hz'] at HF
  have HZ:Hid ((opF img).1 ≠ 0):=hz
  have hzn:((opF img).1 != 0)=true:=by simp [hz]
  clear hz hz'
  go_enter Try.func13,Try.ntmps13
  go_wp2_with fail
  refine (HF.out _).mono ?_
  rintro e w1 ⟨rfl,k1⟩
  go_wp2_with fail
  refine (HS.out _).mono ?_
  rintro e w2 ⟨sa,sn,sc,er,pl,rfl,k2,hE,_,_⟩
  obtain ⟨rfl,rfl,hn⟩:=hE HZ.out
  simp only [Value.slice.injEq] at hn
  obtain ⟨rfl,rfl,rfl⟩:=hn
  have K2:Hid (Chg (fun _=>False) w w2):=k1.trans k2
  have e47:=fun wx:World=>Lib.run_eql_slice_nil (P:=Try.prog) wx 47 3 none 0 0 0 0 Try.underlying47
  clear k1 k2 hE
  generalize (opF img).1=er0 at *
  go_wp2_with fail
  refine (num_any er0 _).mono ?_
  rintro e w4 ⟨rfl,hw4⟩
  have hw4:=hw4.symm
  subst hw4
  go_wp2
  go_ret
  exact ⟨by simp,K2.out⟩
end Go.Proofs.Ytnfnbcbadakofaa
