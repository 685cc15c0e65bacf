import Derived.Test.YtnfnbcbadakofaaRmp
namespace Go.Proofs.Ytnfnbcbadakofaa
open Go.RowKit
theorem add_add (a:Addr) (i j:Nat):(a.add i).add j=a.add (i+j):=by
 unfold Addr.add
 by_cases hi:i=0
 ·subst hi;simp
 ·by_cases hj:j=0
  ·subst hj;simp
  ·rw [if_neg hi,if_neg hj,if_neg (by omega)];simp [Nat.add_assoc]
theorem size3 (w:World):(Go.sizeOf 3).run Try.prog w=.ok 1 w:=by
 obtain ⟨i,i1,_,i3,_⟩:=info3
 simp [Go.sizeOf,typeInfo,i1,i3,go_sem]
theorem slice_tail {w:World} {ia:Option Addr} {ic:Nat} {inp:List Int} (h:RdA w (.slice ia inp.length ic) inp) {u:Nat} (hu:u<=inp.length) :
 ∃ ta tn tc,(∀ wx,(Instr.slice 47 (.slice ia inp.length ic) (some (.int .i64 (u:Int))) none none).run Try.prog wx=.ok (.slice ta tn tc) wx)/\∀ w',RdA w' (.slice ia inp.length ic) inp->RdA w' (.slice ta tn tc) (inp.drop u):=by
 have ht:Try.prog.underlying 47=some (.slice (Try.prog.elem 47)):=by simp [Program.elem,Try.underlying47]
 have he:Try.prog.elem 47=3:=by simp [Program.elem,Try.underlying47]
 have hrun:∀ wx,(Instr.slice 47 (.slice ia inp.length ic) (some (.int .i64 (u:Int))) none none).run Try.prog wx=.ok (sliced ia u inp.length ic 1) wx:=by
  intro wx
  rw [run_slice_l (P:=Try.prog) (w:=wx) 47 ia inp.length ic ht .i64 (u:Int) (by omega) (by omega),he,size3]
  simp [Result.andThen]
 refine ⟨_,_,_,hrun,fun w' h'=>?_⟩
 have hl:(inp.drop u).length=inp.length - u:=List.length_drop
 unfold RdA at h' ⊢
 rcases h' with ⟨e1,e2⟩ | ⟨a,c,e,h1,h2,h3⟩
 ·simp only [Value.slice.injEq] at e1
  obtain ⟨rfl,_,rfl⟩:=e1
  subst e2
  simp only [List.length_nil,Nat.le_zero] at hu
  subst hu
  exact .inl ⟨rfl,rfl⟩
 ·simp only [Value.slice.injEq] at e
  obtain ⟨rfl,_,rfl⟩:=e
  by_cases hm:ic=u
  ·refine .inr ⟨a,ic - u,?_,by rw [hl];omega,by omega,fun j hj=>by rw [hl] at hj;omega⟩
   rw [if_pos hm,hl]
  ·refine .inr ⟨a.add u,ic - u,?_,by rw [hl];omega,by omega,fun j hj=>?_⟩
   ·rw [if_neg hm,hl];simp
   ·rw [hl] at hj
    rw [add_add,h3 (u+j) (by omega),List.getD_eq_getElem?_getD,List.getD_eq_getElem?_getD,List.getElem?_drop]
theorem cut6 {K:Act->World->Prop} {Q:Exit->Act->World->Prop} {act:World->Nat->Option Addr->Nat->Option Addr->Nat->Act} {C:World->Nat->Option Addr->Nat->Option Addr->Nat->Prop} {G:Prop} (h2:(∀ W a b c d e,C W a b c d e->Exit.then K Q .normal (act W a b c d e) W)->G) (h1:∀ W a b c d e,C W a b c d e->Exit.then K Q .normal (act W a b c d e) W):G:=h2 h1
theorem go_us (c:Cx):∀ (n:Nat) (R:Rn),(goOnP c n R).1.used<=R.used+n:=by
 intro n
 induction n with
 | zero=>intro R;exact Nat.le_refl _
 | succ n ih =>
  intro R
  unfold goOnP
  split
  ·exact Nat.le_add_right _ _
  ·split
   ·exact Nat.le_add_right _ _
   ·have h1:=ih (doP c (nxtP c R) R)
    have h2:=(do_ou c (nxtP c R) R).2
    show (goOnP c n (doP c (nxtP c R) R)).1.used<=_
    omega
theorem splits_rel {c:Cx} (ok:CxOk c) {D0:Dn} {R0:Rn} (h0:Rel c D0 R0) (inp:List Int) (a b:Nat) (hab:a+b<=10000) (X Y Z:Rn × Int) (hX:goStP c (bare R0) inp a=X) (hY:goStP c (bare X.1) (inp.drop X.1.used) b=Y) (hZ:goStP c (bare R0) inp (a+b)=Z) :
 (∃ D1,Rel c D1 X.1)/\X.1.used<=inp.length/\X.1.out++Y.1.out=Z.1.out/\(Y.2=Z.2 \/ (X.2=2/\b=0/\Z.2=2))/\X.1.used+Y.1.used=Z.1.used/\Z.1.out.length<=10000/\Z.1.used<=10000:=by
 obtain ⟨b1,b2⟩:=bare_x R0
 obtain ⟨r1,_⟩:=go_sim ok inp a h0.bare b1 b2
 have e:goOnP c a { bare R0 with inp:=inp } = X:=hX
 rw [e] at r1
 obtain ⟨p1,p2,p3,p4⟩:=splits_plain c (bare R0) b1 inp a b X Y Z hX hY hZ
 refine ⟨⟨_,r1⟩,p1,p2,p3,p4,?_⟩
 have:=go_out c (a+b) { bare R0 with inp:=inp }
 have e2:goOnP c (a+b) { bare R0 with inp:=inp } = Z:=hZ
 have e3:({ bare R0 with inp:=inp }:Rn).out=[]:=b2
 rw [e2,e3,List.length_nil] at this
 have h2:=go_us c (a+b) { bare R0 with inp:=inp }
 have e4:({ bare R0 with inp:=inp }:Rn).used=0:=b1
 rw [e2,e4] at h2
 omega
set_option maxHeartbeats 4000000 in
set_option maxRecDepth 100000 in
theorem splits_walk (img:ByteArray) (h d:Int) (iv:Value) (inp:List Int) (a b:Int) (w:World) (hi:RdA w iv inp) :
 Calls Try.prog 11 #[.string img,.int .i64 h,.int .i64 d,iv,.int .i64 a,.int .i64 b] w fun e w'=>e=.returned (.bool true)/\Chg (fun _=>False) w w':=by
 have HF:Hid (∀ w,Calls Try.prog 31 #[.string img] w fun e w'=>e=.returned (.bool ((opF img).1 == 0))/\Chg (fun _=>False) w w'):=fun w=>fits_any img w
 have HS:Hid (∀ w,Calls Try.prog 32 #[.string img,.int .i64 h,.int .i64 d] w (SuEnd w img (opF img) h d)):=fun w=>start_any img h d w
 obtain ⟨ia,ic,hiv⟩:=hi.slice
 subst hiv
 have HI:Hid (RdA w (.slice ia inp.length ic) inp):=hi
 clear hi
 by_cases hz:(opF img).1=0
 ·have hz':((opF img).1 == 0)=true:=by simp [hz]
  rw [hz'] at HF
  have HZ:Hid ((opF img).1=0):=hz
  clear hz hz'
  by_cases hb:badR h d
  ·have hrg:rgB h d=false:=by cases q:rgB h d with | true=>exact absurd hb (rgB_iff.1 q) | false=>rfl
   have HB:Hid (badR h d):=hb
   have HRG:Hid (∀ w,Calls Try.prog 33 #[.int .i64 h,.int .i64 d] w fun e w'=>e=.returned (.bool false)/\w'=w):=fun w=>by rw [<-hrg];exact ranged_any h d w
   clear hb hrg
   go_enter Try.func11,Try.ntmps11
   go_wp2_with fail
   refine (HF.out _).mono ?_
   rintro e w1 ⟨rfl,k1⟩
   go_wp2_with fail
   refine (HS.out _).mono ?_
   rintro e w2 ⟨sa,sn,sc,er,pl,rfl,k2,_,hB,_⟩
   obtain ⟨rfl,rfl,hn⟩:=hB HZ.out HB.out
   simp only [Value.slice.injEq] at hn
   obtain ⟨rfl,rfl,rfl⟩:=hn
   have K2:Hid (Chg (fun _=>False) w w2):=k1.trans k2
   clear k1 k2
   have e47:=fun wx:World=>Lib.run_eql_slice_nil (P:=Try.prog) wx 47 3 none 0 0 0 0 Try.underlying47
   go_wp2_with fail
   refine (HRG.out _).mono ?_
   rintro e w3 ⟨rfl,hw3⟩
   have hw3:=hw3.symm
   subst hw3
   go_wp2_with fail
   refine (num_any 4 _).mono ?_
   rintro e w4 ⟨rfl,hw4⟩
   have hw4:=hw4.symm
   subst hw4
   go_wp2
   go_ret
   exact ⟨rfl,K2.out⟩
  ·have hrg:rgB h d=true:=rgB_iff.2 hb
   have HB:Hid (¬ badR h d):=hb
   have HRG:Hid (∀ w,Calls Try.prog 33 #[.int .i64 h,.int .i64 d] w fun e w'=>e=.returned (.bool true)/\w'=w):=fun w=>by rw [<-hrg];exact ranged_any h d w
   have HR0:Hid (Rel (cxO img) (stD (cxO img) h d) (stR (cxO img) h d)):=by
    have hb':=hb
    unfold badR at hb'
    exact rel_start (cx_ok HZ.out) (by omega) (by omega) (by omega) (by omega)
   clear hb hrg
   have HFT:Hid (∀ n:Int,0<=n->n<=10000->∀ w,Calls Try.prog 34 #[.int .i64 n] w fun e w'=>e=.returned (.bool true)/\w'=w):=fun n h1 h2 w=>by
    have e:decide (0<=n/\n<=10000)=true:=by simp [h1,h2]
    rw [<-e];exact fuelled_any n w
   have HFF:Hid (∀ n:Int,¬ (0<=n/\n<=10000)->∀ w,Calls Try.prog 34 #[.int .i64 n] w fun e w'=>e=.returned (.bool false)/\w'=w):=fun n h1 w=>by
    have e:decide (0<=n/\n<=10000)=false:=by simp only [decide_eq_false_iff_not];exact h1
    rw [<-e];exact fuelled_any n w
   go_enter Try.func11,Try.ntmps11
   go_wp2_with fail
   refine (HF.out _).mono ?_
   rintro e w1 ⟨rfl,k1⟩
   go_wp2_with fail
   refine (HS.out _).mono ?_
   rintro e w2 ⟨sa,sn,sc,er,pl,rfl,k2,_,_,hG⟩
   obtain ⟨rfl,rfl,hS⟩:=hG HZ.out HB.out
   rw [start_lay] at hS
   have K2:Hid (Chg (fun _=>False) w w2):=k1.trans k2
   have HSS:Hid (IntsV w2 w1.heap.size (.slice sa sn sc) (layR (mksP img) (stR (cxO img) h d))):=hS
   clear k1 k2 hS hG HF HS
   go_wp2_with fail
   refine (HRG.out _).mono ?_
   rintro e w3 ⟨rfl,hw3⟩
   have hw3:=hw3.symm
   subst hw3
   go_wp2_with fail
   by_cases hfa:0<=a/\a<=10000
   case neg =>
    refine (HFF.out a hfa _).mono ?_
    rintro e w3 ⟨rfl,hw3⟩
    have hw3:=hw3.symm
    subst hw3
    go_wp2
    go_ret
    exact ⟨rfl,K2.out⟩
   refine (HFT.out a hfa.1 hfa.2 _).mono ?_
   rintro e w3 ⟨rfl,hw3⟩
   have hw3:=hw3.symm
   subst hw3
   go_wp2_with fail
   by_cases hfb:0<=b/\b<=10000
   case neg =>
    refine (HFF.out b hfb _).mono ?_
    rintro e w3 ⟨rfl,hw3⟩
    have hw3:=hw3.symm
    subst hw3
    go_wp2
    go_ret
    exact ⟨rfl,K2.out⟩
   refine (HFT.out b hfb.1 hfb.2 _).mono ?_
   rintro e w3 ⟨rfl,hw3⟩
   have hw3:=hw3.symm
   subst hw3
   go_wp2_with fail
   by_cases hfc:0<=a+b/\a+b<=10000
   case neg =>
    refine (HFF.out (a+b) hfc _).mono ?_
    rintro e w3 ⟨rfl,hw3⟩
    have hw3:=hw3.symm
    subst hw3
    go_wp2
    go_ret
    exact ⟨rfl,K2.out⟩
   refine (HFT.out (a+b) hfc.1 hfc.2 _).mono ?_
   rintro e w3 ⟨rfl,hw3⟩
   have hw3:=hw3.symm
   subst hw3
   obtain ⟨na,hna⟩:∃ n:Nat,a=(n:Int):=⟨a.toNat,by omega⟩
   obtain ⟨nb,hnb⟩:∃ n:Nat,b=(n:Int):=⟨b.toNat,by omega⟩
   subst hna hnb
   have hA4:na<=10000:=by omega
   have hB4:nb<=10000:=by omega
   have hC4:na+nb<=10000:=by omega
   clear hfa hfb hfc HFT HFF HRG
   obtain ⟨X,hX⟩:∃ X,goStP (cxO img) (bare (stR (cxO img) h d)) inp na=X:=⟨_,rfl⟩
   obtain ⟨Y,hY⟩:∃ Y,goStP (cxO img) (bare X.1) (inp.drop X.1.used) nb=Y:=⟨_,rfl⟩
   obtain ⟨Z,hZZ⟩:∃ Z,goStP (cxO img) (bare (stR (cxO img) h d)) inp (na+nb)=Z:=⟨_,rfl⟩
   obtain ⟨⟨D1,r1⟩,p1,p2,p3,p4,p5,p6⟩:=splits_rel (cx_ok HZ.out) HR0.out inp na nb hC4 X Y Z hX hY hZZ
   have HX:Hid (goStP (cxO img) (bare (stR (cxO img) h d)) inp na=X):=hX
   have HY:Hid (goStP (cxO img) (bare X.1) (inp.drop X.1.used) nb=Y):=hY
   have HZZ:Hid (goStP (cxO img) (bare (stR (cxO img) h d)) inp (na+nb)=Z):=hZZ
   have R1:Hid (Rel (cxO img) D1 X.1):=r1
   have P1:Hid (X.1.used<=inp.length):=p1
   have P2:Hid (X.1.out++Y.1.out=Z.1.out):=p2
   have P3:Hid (Y.2=Z.2 \/ (X.2=2/\nb=0/\Z.2=2)):=p3
   have P4:Hid (X.1.used+Y.1.used=Z.1.used):=p4
   have P5:Hid (Z.1.out.length<=10000):=p5
   have P6:Hid (Z.1.used<=10000):=p6
   clear hX hY hZZ r1 p1 p2 p3 p4 p5 p6
   go_wp2_with fail
   refine (go_lay HZ.out HR0.out _ _ inp _ HSS.out (HI.out.new K2.out) na hA4).mono ?_
   rw [HX.out]
   rintro e w3 ⟨sv,ov,rfl,hs3,ho3,k3⟩
   obtain ⟨xa,xc,rfl⟩:=hs3.slice
   obtain ⟨oa,oc,rfl⟩:=ho3.slice
   have k4:Chg (fun _=>False) w2 (w3.alloc (Obj.cells #[.slice xa (layR (mksP img) X.1).length xc,.slice oa X.1.out.length oc,.int .i64 (X.1.used:Int),.int .i64 X.2] 71)):=k3.alloc _
   have nX:=Blk.new w3 #[.slice xa (layR (mksP img) X.1).length xc,.slice oa X.1.out.length oc,.int .i64 (X.1.used:Int),.int .i64 X.2] 71
   have HX3:Hid (IntsV (w3.alloc (Obj.cells #[.slice xa (layR (mksP img) X.1).length xc,.slice oa X.1.out.length oc,.int .i64 (X.1.used:Int),.int .i64 X.2] 71)) 0 (.slice xa (layR (mksP img) X.1).length xc) (layR (mksP img) X.1)):=own_chg (own_mono hs3 (Nat.zero_le _)) ((Chg.refl _ w3).alloc _) (fun _ _ q=>q)
   have HO3:Hid (IntsV (w3.alloc (Obj.cells #[.slice xa (layR (mksP img) X.1).length xc,.slice oa X.1.out.length oc,.int .i64 (X.1.used:Int),.int .i64 X.2] 71)) 0 (.slice oa X.1.out.length oc) X.1.out):=own_chg (own_mono ho3 (Nat.zero_le _)) ((Chg.refl _ w3).alloc _) (fun _ _ q=>q)
   have HS3:Hid (IntsV (w3.alloc (Obj.cells #[.slice xa (layR (mksP img) X.1).length xc,.slice oa X.1.out.length oc,.int .i64 (X.1.used:Int),.int .i64 X.2] 71)) 0 (.slice sa sn sc) (layR (mksP img) (stR (cxO img) h d))):=own_chg (own_mono HSS.out (Nat.zero_le _)) k4 (fun _ _ q=>q)
   have K4:Hid (Chg (fun _=>False) w (w3.alloc (Obj.cells #[.slice xa (layR (mksP img) X.1).length xc,.slice oa X.1.out.length oc,.int .i64 (X.1.used:Int),.int .i64 X.2] 71))):=K2.out.trans k4
   clear hs3 ho3 k3 k4 HSS
   obtain ⟨c0,c1,c2,c3,_,_,_,_⟩:=cells4 nX
   have hu0:¬ (X.1.used:Int) < 0:=by omega
   have hu1:¬ (inp.length:Int) < (X.1.used:Int):=by have:=P1.out;omega
   go_wp2_with fail
   generalize w3.alloc (Obj.cells #[.slice xa (layR (mksP img) X.1).length xc,.slice oa X.1.out.length oc,.int .i64 (X.1.used:Int),.int .i64 X.2] 71)=W at *
   generalize w3.heap.size=xb at *
   refine (num_any 0 _).mono ?_
   rintro e w4 ⟨rfl,hw4⟩
   have hw4:=hw4.symm
   subst hw4
   obtain ⟨ta,tn,tc,hsl,htl⟩:=slice_tail HI.out P1.out
   have HT:Hid (∀ w',RdA w' (.slice ia inp.length ic) inp->RdA w' (.slice ta tn tc) (inp.drop X.1.used)):=htl
   clear htl
   have HSL:Hid (∀ wx,(Instr.slice 47 (.slice ia inp.length ic) (some (.int .i64 (X.1.used:Int))) none none).run Try.prog wx=.ok (.slice ta tn tc) wx):=hsl
   go_wp2_with fail
   rename_i K aK
   apply cut6 (K:=K) (C:=fun Wy yb ya yc yo yd=>Blk Wy yb #[.slice ya (layR (mksP img) Y.1).length yc,.slice yo Y.1.out.length yd,.int .i64 (Y.1.used:Int),.int .i64 Y.2] 71/\IntsV Wy 0 (.slice yo Y.1.out.length yd) Y.1.out/\Chg (fun _=>False) W Wy)
   case h2 =>
    intro key
    have kA:Chg (fun _=>False) W (W.alloc (Obj.cells #[.slice none 0 0,.slice none 0 0,.int .i64 0,.int .i64 0] 71)).drew:=((Chg.refl _ W).alloc _).drew
    have nbA:Blk (W.alloc (Obj.cells #[.slice none 0 0,.slice none 0 0,.int .i64 0,.int .i64 0] 71)).drew W.heap.size #[.slice none 0 0,.slice none 0 0,.int .i64 0,.int .i64 0] 71:=(Blk.new W _ 71).drew
    have HGO:Hid (∀ w',Chg (fun _=>False) W w'->Calls Try.prog 35 #[.string img,.slice xa (layR (mksP img) X.1).length xc,.slice ta tn tc,.int .i64 (nb:Int)] w' fun e w''=>∃ ya yc yo yd,e=.returned (.tuple #[.agg #[.slice ya (layR (mksP img) Y.1).length yc,.slice yo Y.1.out.length yd,.int .i64 (Y.1.used:Int),.int .i64 Y.2],.int .i64 0])/\IntsV w'' w'.heap.size (.slice yo Y.1.out.length yd) Y.1.out/\Chg (fun _=>False) w' w''):=fun w' k'=>by
     refine (go_lay HZ.out R1.out _ _ (inp.drop X.1.used) _ (own_chg HX3.out k' (fun _ _ q=>q)) (HT.out _ (HI.out.new (K4.out.trans k'))) nb hB4).mono ?_
     rw [HY.out]
     rintro e w'' ⟨sv,ov,rfl,hs,ho,k⟩
     obtain ⟨ya,yc,rfl⟩:=hs.slice
     obtain ⟨yo,yd,rfl⟩:=ho.slice
     exact ⟨ya,yc,yo,yd,rfl,ho,k⟩
    have NX:Hid (Blk W xb #[.slice xa (layR (mksP img) X.1).length xc,.slice oa X.1.out.length oc,.int .i64 (X.1.used:Int),.int .i64 X.2] 71):=nX
    have fA:∀ (w1:World),Chg (fun _=>False) (W.alloc (Obj.cells #[.slice none 0 0,.slice none 0 0,.int .i64 0,.int .i64 0] 71)).drew w1->w1.cell? ⟨xb,0,none⟩=some (.slice xa (layR (mksP img) X.1).length xc)/\w1.cell? ⟨xb,2,none⟩=some (.int .i64 (X.1.used:Int)):=fun w1 k1=>⟨(NX.out.chg (kA.trans k1) (fun q=>q)).cell 0,(NX.out.chg (kA.trans k1) (fun q=>q)).cell 2⟩
    have fB:∀ (w1:World),Chg (fun _=>False) W.drew w1->w1.cell? ⟨xb,0,none⟩=some (.slice xa (layR (mksP img) X.1).length xc)/\w1.cell? ⟨xb,2,none⟩=some (.int .i64 (X.1.used:Int)):=fun w1 k1=>⟨(NX.out.drew.chg k1 (fun q=>q)).cell 0,(NX.out.drew.chg k1 (fun q=>q)).cell 2⟩
    have n1:xb ≠ W.heap.size:=Nat.ne_of_lt nX.lt
    have n1':W.heap.size ≠ xb:=n1.symm
    go_region_held3 (fun w'=>w'.cell? ⟨xb,0,none⟩=some (.slice xa (layR (mksP img) X.1).length xc)/\w'.cell? ⟨xb,2,none⟩=some (.int .i64 (X.1.used:Int))) (go_keep) (first | (go_at_call 35;first | (refine (HGO.out _ kA).mono ?_;rintro e w1 ⟨ya,yc,yo,yd,rfl,ho1,k1⟩;have q2:=(fA w1 k1).1;have q0:=(fA w1 k1).2;obtain ⟨o0,o1,o2,o3,z0,z1,z2,z3⟩:=cells4 (nbA.chg k1 (fun q=>q))) | (refine (HGO.out _ ((Chg.refl _ W).drew)).mono ?_;rintro e w1 ⟨ya,yc,yo,yd,rfl,ho1,k1⟩;have q2:=(fB w1 k1).1;have q0:=(fB w1 k1).2)))
    all_goals
     first
     | (obtain ⟨nY,kY⟩:=set4new (nbA.chg k1 (fun q=>q)) (kA.trans k1) (Nat.le_refl _) (.slice ya (layR (mksP img) Y.1).length yc) (.slice yo Y.1.out.length yd) (.int .i64 (Y.1.used:Int)) (.int .i64 Y.2)
        have hoF:IntsV ((((w1.setCell ⟨W.heap.size,0,none⟩ (.slice ya (layR (mksP img) Y.1).length yc)).setCell ⟨W.heap.size,1,none⟩ (.slice yo Y.1.out.length yd)).setCell ⟨W.heap.size,2,none⟩ (.int .i64 (Y.1.used:Int))).setCell ⟨W.heap.size,3,none⟩ (.int .i64 Y.2)) 0 (.slice yo Y.1.out.length yd) Y.1.out:=own_chg (own_mono ho1 (Nat.zero_le _)) (Chg.set4 (w:=w1) (b:=W.heap.size) _ _ _ _) (fun g hg q=>own_ne ho1 (nbA.chg k1 (fun q=>q)) (by decide) (by rw [hg,q]))
        generalize ((((w1.setCell ⟨W.heap.size,0,none⟩ (.slice ya (layR (mksP img) Y.1).length yc)).setCell ⟨W.heap.size,1,none⟩ (.slice yo Y.1.out.length yd)).setCell ⟨W.heap.size,2,none⟩ (.int .i64 (Y.1.used:Int))).setCell ⟨W.heap.size,3,none⟩ (.int .i64 Y.2))=wX at nY kY hoF ⊢
        generalize hfb:W.heap.size=fb at nY ⊢
        exact key wX fb ya yc yo yd ⟨nY,hoF,kY⟩)
     | (have nY:=Blk.new w1 #[.slice ya (layR (mksP img) Y.1).length yc,.slice yo Y.1.out.length yd,.int .i64 (Y.1.used:Int),.int .i64 Y.2] 71
        have kY:Chg (fun _=>False) W _:=(((Chg.refl _ W).drew).trans k1).alloc (Obj.cells #[.slice ya (layR (mksP img) Y.1).length yc,.slice yo Y.1.out.length yd,.int .i64 (Y.1.used:Int),.int .i64 Y.2] 71)
        have hoF:IntsV (w1.alloc (Obj.cells #[.slice ya (layR (mksP img) Y.1).length yc,.slice yo Y.1.out.length yd,.int .i64 (Y.1.used:Int),.int .i64 Y.2] 71)) 0 (.slice yo Y.1.out.length yd) Y.1.out:=own_chg (own_mono ho1 (Nat.zero_le _)) ((Chg.refl _ w1).alloc _) (fun _ _ q=>q)
        generalize w1.alloc (Obj.cells #[.slice ya (layR (mksP img) Y.1).length yc,.slice yo Y.1.out.length yd,.int .i64 (Y.1.used:Int),.int .i64 Y.2] 71)=wX at nY kY hoF ⊢
        generalize hfb:w1.heap.size=fb at nY ⊢
        exact key wX fb ya yc yo yd ⟨nY,hoF,kY⟩)
   case h1 =>
    rintro Wy yb ya yc yo yd ⟨nY,hoY,kY⟩
    have nX2:=nX.chg kY (fun q=>q)
    have K5:Hid (Chg (fun _=>False) w Wy):=K4.out.trans kY
    have HO5:Hid (IntsV Wy 0 (.slice oa X.1.out.length oc) X.1.out):=own_chg HO3.out kY (fun _ _ q=>q)
    have HS5:Hid (IntsV Wy 0 (.slice sa sn sc) (layR (mksP img) (stR (cxO img) h d))):=own_chg HS3.out kY (fun _ _ q=>q)
    have HY5:Hid (IntsV Wy 0 (.slice yo Y.1.out.length yd) Y.1.out):=hoY
    clear c0 c1 c2 c3 nX kY hoY hsl HSL HT HX3 HO3 HS3
    go_wp2_with fail
    have hab:(na:Int)+(nb:Int)=((na+nb:Nat):Int):=by omega
    rw [hab]
    clear hab
    refine (go_lay HZ.out HR0.out _ _ inp _ HS5.out (HI.out.new K5.out) (na+nb) hC4).mono ?_
    rw [HZZ.out]
    rintro e w6 ⟨sv6,ov6,rfl,hs6,ho6,k6⟩
    obtain ⟨za,zc,rfl⟩:=hs6.slice
    obtain ⟨zo,zd,rfl⟩:=ho6.slice
    have nZ:=Blk.new w6 #[.slice za (layR (mksP img) Z.1).length zc,.slice zo Z.1.out.length zd,.int .i64 (Z.1.used:Int),.int .i64 Z.2] 71
    have k7:Chg (fun _=>False) Wy (w6.alloc (Obj.cells #[.slice za (layR (mksP img) Z.1).length zc,.slice zo Z.1.out.length zd,.int .i64 (Z.1.used:Int),.int .i64 Z.2] 71)):=k6.alloc _
    have nX7:=nX2.chg k7 (fun q=>q)
    have nY7:=nY.chg k7 (fun q=>q)
    have K7:Hid (Chg (fun _=>False) w (w6.alloc (Obj.cells #[.slice za (layR (mksP img) Z.1).length zc,.slice zo Z.1.out.length zd,.int .i64 (Z.1.used:Int),.int .i64 Z.2] 71))):=K5.out.trans k7
    have HO7:Hid (IntsV (w6.alloc (Obj.cells #[.slice za (layR (mksP img) Z.1).length zc,.slice zo Z.1.out.length zd,.int .i64 (Z.1.used:Int),.int .i64 Z.2] 71)) 0 (.slice oa X.1.out.length oc) X.1.out):=own_chg HO5.out k7 (fun _ _ q=>q)
    have HY7:Hid (IntsV (w6.alloc (Obj.cells #[.slice za (layR (mksP img) Z.1).length zc,.slice zo Z.1.out.length zd,.int .i64 (Z.1.used:Int),.int .i64 Z.2] 71)) 0 (.slice yo Y.1.out.length yd) Y.1.out):=own_chg HY5.out k7 (fun _ _ q=>q)
    have HZ7:Hid (IntsV (w6.alloc (Obj.cells #[.slice za (layR (mksP img) Z.1).length zc,.slice zo Z.1.out.length zd,.int .i64 (Z.1.used:Int),.int .i64 Z.2] 71)) 0 (.slice zo Z.1.out.length zd) Z.1.out):=own_chg (own_mono ho6 (Nat.zero_le _)) ((Chg.refl _ w6).alloc _) (fun _ _ q=>q)
    clear nX2 nY hs6 ho6 k6 k7 HO5 HY5 HS5
    go_wp2_with fail
    generalize w6.alloc (Obj.cells #[.slice za (layR (mksP img) Z.1).length zc,.slice zo Z.1.out.length zd,.int .i64 (Z.1.used:Int),.int .i64 Z.2] 71)=W7 at *
    generalize w6.heap.size=zb at *
    refine (num_any 0 _).mono ?_
    rintro e w8 ⟨rfl,hw3⟩
    have hw3:=hw3.symm
    subst hw3
    go_wp2_with fail
    refine (num_any 0 _).mono ?_
    rintro e w8 ⟨rfl,hw3⟩
    have hw3:=hw3.symm
    subst hw3
    obtain ⟨x0,x1,x2,x3,_,_,_,_⟩:=cells4 nX7
    obtain ⟨y0,y1,y2,y3,_,_,_,_⟩:=cells4 nY7
    obtain ⟨z0,z1,z2,z3,_,_,_,_⟩:=cells4 nZ
    have hxo:X.1.out.length<=10000:=by have:=P5.out;rw [<-P2.out,List.length_append] at this;omega
    have hyo:Y.1.out.length<=10000:=by have:=P5.out;rw [<-P2.out,List.length_append] at this;omega
    go_wp2_with fail
    refine (ljoin_any _ _ X.1.out Y.1.out _ 0 0 HO7.out HY7.out (by omega) (by omega)).mono ?_
    rintro e w8 ⟨u8,rfl,hu8,k8⟩
    obtain ⟨ja,jc,rfl⟩:=hu8.slice
    have K8:Hid (Chg (fun _=>False) w w8):=K7.out.trans k8
    rw [P2.out] at hu8
    have hj8:IntsV w8 W7.heap.size (.slice ja (X.1.out++Y.1.out).length jc) Z.1.out:=by rw [P2.out];exact hu8
    have HJ8:Hid (IntsV w8 W7.heap.size (.slice ja (X.1.out++Y.1.out).length jc) Z.1.out):=hj8
    clear hj8
    have HZ8:Hid (IntsV w8 0 (.slice zo Z.1.out.length zd) Z.1.out):=own_chg HZ7.out k8 (fun _ _ q=>q)
    have p1:w8.cell? ⟨zb,1,none⟩=some (.slice zo Z.1.out.length zd):=k8.cellF z1
    have p2:w8.cell? ⟨xb,2,none⟩=some (.int .i64 (X.1.used:Int)):=k8.cellF x2
    have p3:w8.cell? ⟨xb,3,none⟩=some (.int .i64 X.2):=k8.cellF x3
    have p4:w8.cell? ⟨yb,2,none⟩=some (.int .i64 (Y.1.used:Int)):=k8.cellF y2
    have p5:w8.cell? ⟨yb,3,none⟩=some (.int .i64 Y.2):=k8.cellF y3
    have p6:w8.cell? ⟨zb,2,none⟩=some (.int .i64 (Z.1.used:Int)):=k8.cellF z2
    have p7:w8.cell? ⟨zb,3,none⟩=some (.int .i64 Z.2):=k8.cellF z3
    generalize (X.1.out++Y.1.out).length=jn at *
    clear x0 x1 x2 x3 y0 y1 y2 y3 z0 z1 z2 z3 k8 hu8 nX7 nY7 nZ HO7 HY7 HZ7 P2
    go_wp2_with fail
    refine (sameInts_true _ _ _ 0 Z.1.out _ P5.out HJ8.out HZ8.out).mono ?_
    rintro e w9 ⟨rfl,m9,hw9⟩
    have hw9:=hw9.symm
    subst hw9
    have r2:(w8.drewN m9).cell? ⟨xb,2,none⟩=some (.int .i64 (X.1.used:Int)):=p2
    have r3:(w8.drewN m9).cell? ⟨xb,3,none⟩=some (.int .i64 X.2):=p3
    have r4:(w8.drewN m9).cell? ⟨yb,2,none⟩=some (.int .i64 (Y.1.used:Int)):=p4
    have r5:(w8.drewN m9).cell? ⟨yb,3,none⟩=some (.int .i64 Y.2):=p5
    have r6:(w8.drewN m9).cell? ⟨zb,2,none⟩=some (.int .i64 (Z.1.used:Int)):=p6
    have r7:(w8.drewN m9).cell? ⟨zb,3,none⟩=some (.int .i64 Z.2):=p7
    have K9:Hid (Chg (fun _=>False) w (w8.drewN m9)):=K8.out.drewN m9
    clear p1 p2 p3 p4 p5 p6 p7 HJ8 HZ8 K8
    generalize w8.drewN m9=W9 at *
    have hus:(X.1.used:Int)+(Y.1.used:Int)=(Z.1.used:Int):=by have:=P4.out;omega
    have hu9:(Z.1.used:Int)<=10000:=by have:=P6.out;omega
    rcases P3.out with q | ⟨q1,q2,q3⟩
    ·have hyz:(Y.2 == Z.2)=true:=by simp [q]
     have HUS:Hid ((X.1.used:Int)+(Y.1.used:Int)=(Z.1.used:Int)):=hus
     clear q
     go_wp2
     go_ret
     exact ⟨by simp,K9.out⟩
    ·have b1:(X.2 == 2)=true:=by simp [q1]
     have b2:((nb:Int) == 0)=true:=by simp [q2]
     have b3:(Z.2 == 2)=true:=by simp [q3]
     have HUS:Hid ((X.1.used:Int)+(Y.1.used:Int)=(Z.1.used:Int)):=hus
     have HNB:Hid (nb=0):=q2
     clear q1 q2 q3
     by_cases q:Y.2=Z.2
     ·have hyz:(Y.2 == Z.2)=true:=by simp [q]
      clear q
      go_wp2
      go_ret
      exact ⟨by simp,K9.out⟩
     ·have hyz:(Y.2 == Z.2)=false:=by simp [q]
      clear q
      go_wp2
      go_ret
      exact ⟨by simp,K9.out⟩
 ·have hz':((opF img).1 == 0)=false:=by simp [hz]
  rw [hz'] at HF
  have HZ:Hid ((opF img).1 ≠ 0):=hz
  have hzn:((opF img).1 != 0)=true:=by simp [hz]
  clear hz hz'
  go_enter Try.func11,Try.ntmps11
  go_wp2_with fail
  refine (HF.out _).mono ?_
  rintro e w1 ⟨rfl,k1⟩
  go_wp2_with fail
  refine (HS.out _).mono ?_
  rintro e w2 ⟨sa,sn,sc,er,pl,rfl,k2,hE,_,_⟩
  obtain ⟨rfl,rfl,hn⟩:=hE HZ.out
  simp only [Value.slice.injEq] at hn
  obtain ⟨rfl,rfl,rfl⟩:=hn
  have K2:Hid (Chg (fun _=>False) w w2):=k1.trans k2
  have e47:=fun wx:World=>Lib.run_eql_slice_nil (P:=Try.prog) wx 47 3 none 0 0 0 0 Try.underlying47
  clear k1 k2 hE
  generalize (opF img).1=er0 at *
  go_wp2_with fail
  refine (num_any er0 _).mono ?_
  rintro e w4 ⟨rfl,hw4⟩
  have hw4:=hw4.symm
  subst hw4
  go_wp2
  go_ret
  exact ⟨by simp,K2.out⟩
end Go.Proofs.Ytnfnbcbadakofaa
