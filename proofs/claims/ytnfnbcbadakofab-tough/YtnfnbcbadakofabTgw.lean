import Derived.Test.YtnfnbcbadakofabStr
import Derived.Test.YtnfnbcbadakofabRnw
import Derived.Test.YtnfnbcbadakofabPks
import Derived.Test.YtnfnbcbadakofabSfp
namespace Go.Proofs.Ytnfnbcbadakofab
open Go.RowKit
set_option maxHeartbeats 4000000
set_option maxRecDepth 100000
theorem nq_nil (t e:TypeId) (a:Option Addr) (n c:Nat) (h:Try.prog.underlying t=some (.slice e)) (w:World):(binOp .neq t (.slice a n c) (.slice none 0 0)).run Try.prog w=.ok (.bool (!a.isNone)) w:=by
 simp only [binOp]
 simp [Op.equal,Op.maxDepth,Lib.run_equalIn_slice_nil w 9999 t e a n c 0 0 h]
theorem tu_bare {c:Cx} {ms ns:List Int} {R:Rn} (h:tuP c ms ns=some R):bare R=R:=by
 obtain ⟨h1,h2,h3,h4⟩:=tu_form h
 unfold bare
 split
 ·rcases R with ⟨a,b,c,d,e,f,g,i,j⟩
  simp only at h1 h2 h3
  subst h1 h2 h3
  rfl
 ·rename_i q
  obtain ⟨g1,g2,g3⟩:=h4 q
  rcases R with ⟨a,b,c,d,e,f,g,i,j⟩
  simp only at h1 h2 h3 g1 g2 g3
  subst h1 h2 h3 g1 g2 g3
  rfl
section
variable {img:ByteArray} {nv iv:Value} {ns inp:List Int} {fuel:Int} {w:World}
theorem tgh_rel (hz:(opF img).1=0) {R:Rn} (q:tuP (cxO img) (mksP img) ns=some R):∃ D,Rel (cxO img) D R:=take_rel (cx_ok hz) q
theorem tgh_A (hn:RdA w nv ns) (hi:RdA w iv inp) (hz:(opF img).1 ≠ 0) :
 Calls Try.prog 4 #[.string img,nv,iv,fuel] w fun e w'=>e=.returned (.bool true)/\Chg () w w':=by
 have HRC:Hid (∀ w,Calls Try.prog 14 #[.string img] w _):=fun w=>rcheck_any img w
 have HGO:Hid (∀ w',Chg () w w'->Calls Try.prog 11 #[.string img,nv,iv,fuel] w' fun e w''=>e=.returned (.tuple #[.agg #[(),(),oO,oO],(opF img).1])/\Chg () w' w''):=fun w' k =>
  (go_any img nv iv ns inp fuel w' (hn.new k) (hi.new k) (fun q=>absurd q hz)).mono fun e w'' h=>⟨h.2.1 hz,h.1⟩
 have HPK:Hid (∀ w',Chg () w w'->Calls Try.prog 15 #[.string img,nv] w' fun e w''=>e=.returned (.tuple #[(),(opF img).1])/\Chg () w' w''):=fun w' k =>
  (pack_any img nv ns w' (hn.new k) (fun q=>absurd q hz)).mono fun e w'' h=>⟨h.2.1 hz,h.1⟩
 have HLV:Hid (∀ w',Chg () w w'->Calls Try.prog 12 #[.string img,nv] w' fun e w''=>e=.returned (.tuple #[oO,(opF img).1])/\Chg () w' w''):=fun w' k =>
  (live_any img nv ns w' (hn.new k) (fun q=>absurd q hz)).mono fun e w'' h=>⟨h.2.1 hz,h.1⟩
 obtain ⟨na,nc,rfl⟩:=hn.slice
 obtain ⟨ia,ic,rfl⟩:=hi.slice
 generalize opF img=O at *
 have hx1:(O.1 != 0)=true:=by simp [hz]
 have hx2:(O.1 == 0)=false:=by simp [hz]
 generalize O.1=X at *
 have e24:=fun wx:World=>Lib.run_eql_slice_nil (P:=Try.prog) wx 24 3 none 0 0 0 0 Try.underlying24
 clear hn hi
 go_enter Try.func4,Try.ntmps4
 go_wp2_with fail
 refine (HRC.out _).mono ?_
 rintro e w1 ⟨tv,fv,rfl,hty,hfv,k1⟩
 obtain ⟨ta,tc,rfl⟩:=hty.slice
 obtain ⟨fa,fc,rfl⟩:=hfv.slice
 clear HRC hty hfv
 go_wp2_with fail
 refine (HGO.out _ (k1.alloc _)).mono ?_
 rintro e w2 ⟨rfl,k2⟩
 have K2:Hid (Chg () w w2):=(k1.alloc _).trans k2
 clear k1 k2 HGO
 go_wp2_with fail
 refine (HPK.out _ (K2.out.alloc _)).mono ?_
 rintro e w3 ⟨rfl,k3⟩
 have nX:=(Blk.new w2 #[.slice none 0 0,.slice none 0 0,.int .i64 0,.int .i64 0] 34).chg k3 (fun q=>q)
 have K3:Hid (Chg () w w3):=(K2.out.alloc _).trans k3
 clear k3 HPK K2
 go_wp2_with fail
 refine (HLV.out _ K3.out).mono ?_
 rintro e w4 ⟨rfl,k4⟩
 have K4:=hid (K3.out.trans k4)
 obtain ⟨c0,c1,c2,c3,_,_,_,_⟩:=cells4 (nX.chg k4 (fun q=>q))
 clear k4 HLV K3 nX
 go_wp2_with fail
 refine (zero_any _).mono ?_
 rintro e w5 ⟨rfl,k5⟩
 have K5:=hid (K4.out.trans k5)
 clear k5 K4 c0 c1 c2 c3
 go_wp2_with fail
 refine (num_any X _).mono ?_
 rintro e w6 ⟨rfl,hw⟩
 have hw:=hw.symm
 subst hw
 go_wp2_with fail
 refine (num_any X _).mono ?_
 rintro e w6 ⟨rfl,hw⟩
 have hw:=hw.symm
 subst hw
 go_wp2_with fail
 refine (num_any X _).mono ?_
 rintro e w6 ⟨rfl,hw⟩
 have hw:=hw.symm
 subst hw
 go_wp2
 go_ret
 exact ⟨rfl,K5.out⟩
theorem tgh_B (hn:RdA w nv ns) (hi:RdA w iv inp) (hz:(opF img).1=0) (hu:tuP (cxO img) (mksP img) ns=none) :
 Calls Try.prog 4 #[.string img,nv,iv,fuel] w fun e w'=>e=.returned (.bool true)/\Chg () w w':=by
 have HRC:Hid (∀ w,Calls Try.prog 14 #[.string img] w _):=fun w=>rcheck_any img w
 have HGO:Hid (∀ w',Chg () w w'->Calls Try.prog 11 #[.string img,nv,iv,fuel] w' fun e w''=>e=.returned (.tuple #[.agg #[(),(),oO,oO],(5:Int)])/\Chg () w' w''):=fun w' k =>
  (go_any img nv iv ns inp fuel w' (hn.new k) (hi.new k) (fun q R=>tgh_rel q)).mono fun e w'' h=>⟨(h.2.2 hz).1 hu,h.1⟩
 have HPK:Hid (∀ w',Chg () w w'->Calls Try.prog 15 #[.string img,nv] w' fun e w''=>e=.returned (.tuple #[(),(5:Int)])/\Chg () w' w''):=fun w' k =>
  (pack_any img nv ns w' (hn.new k) (fun q R=>tgh_rel q)).mono fun e w'' h=>⟨(h.2.2 hz).1 hu,h.1⟩
 have HLV:Hid (∀ w',Chg () w w'->Calls Try.prog 12 #[.string img,nv] w' fun e w''=>e=.returned (.tuple #[oO,(5:Int)])/\Chg () w' w''):=fun w' k =>
  (live_any img nv ns w' (hn.new k) (fun q R=>tgh_rel q)).mono fun e w'' h=>⟨(h.2.2 hz).1 hu,h.1⟩
 have HFU:Hid (∀ w,Calls Try.prog 10 #[fuel] w fun e w'=>e=.returned (.bool (decide (0<=fuel/\fuel<=10000)))/\w'=w):=fun w=>fuelled_any fuel w
 generalize decide (0<=fuel/\fuel<=10000)=fb at *
 obtain ⟨na,nc,rfl⟩:=hn.slice
 obtain ⟨ia,ic,rfl⟩:=hi.slice
 generalize opF img=O at *
 obtain ⟨o1,o2,o3,o4⟩:=O
 simp only at hz
 subst hz
 have e24:=fun wx:World=>nq_nil 24 3 none 0 0 Try.underlying24 wx
 clear hn hi hu
 go_enter Try.func4,Try.ntmps4
 go_wp2_with fail
 refine (HRC.out _).mono ?_
 rintro e w1 ⟨tv,fv,rfl,hty,hfv,k1⟩
 obtain ⟨ta,tc,rfl⟩:=hty.slice
 obtain ⟨fa,fc,rfl⟩:=hfv.slice
 clear HRC hty hfv
 go_wp2_with fail
 refine (HGO.out _ (k1.alloc _)).mono ?_
 rintro e w2 ⟨rfl,k2⟩
 have K2:Hid (Chg () w w2):=(k1.alloc _).trans k2
 clear k1 k2 HGO
 go_wp2_with fail
 refine (HPK.out _ (K2.out.alloc _)).mono ?_
 rintro e w3 ⟨rfl,k3⟩
 have nX:=(Blk.new w2 #[.slice none 0 0,.slice none 0 0,.int .i64 0,.int .i64 0] 34).chg k3 (fun q=>q)
 have K3:Hid (Chg () w w3):=(K2.out.alloc _).trans k3
 clear k3 HPK K2
 go_wp2_with fail
 refine (HLV.out _ K3.out).mono ?_
 rintro e w4 ⟨rfl,k4⟩
 have K4:=hid (K3.out.trans k4)
 obtain ⟨c0,c1,c2,c3,_,_,_,_⟩:=cells4 (nX.chg k4 (fun q=>q))
 clear k4 HLV K3 nX
 iterate 5
  go_wp2_with fail
  refine (num_any 5 _).mono ?_
  rintro e w6 ⟨rfl,hw⟩
  have hw:=hw.symm
  subst hw
 go_wp2_with fail
 refine (zero_any _).mono ?_
 rintro e w5 ⟨rfl,k5⟩
 have K5:=hid (K4.out.trans k5)
 clear k5 K4 c0 c1 c2 c3
 go_wp2_with fail
 refine (num_any 5 _).mono ?_
 rintro e w6 ⟨rfl,hw⟩
 have hw:=hw.symm
 subst hw
 go_wp2
 go_ret
 exact ⟨rfl,K5.out⟩
theorem tgh_C (hn:RdA w nv ns) (hi:RdA w iv inp) (hz:(opF img).1=0) {R:Rn} (hu:tuP (cxO img) (mksP img) ns=some R) (hf:fuel < 0 \/ 10000 < fuel) :
 Calls Try.prog 4 #[.string img,nv,iv,fuel] w fun e w'=>e=.returned (.bool true)/\Chg () w w':=by
 have HRC:Hid (∀ w,Calls Try.prog 14 #[.string img] w _):=fun w=>rcheck_any img w
 have HGO:Hid (∀ w',Chg () w w'->Calls Try.prog 11 #[.string img,nv,iv,fuel] w' fun e w''=>e=.returned (.tuple #[.agg #[(),(),oO,oO],(4:Int)])/\Chg () w' w''):=fun w' k =>
  (go_any img nv iv ns inp fuel w' (hn.new k) (hi.new k) (fun q R=>tgh_rel q)).mono fun e w'' h=>⟨((h.2.2 hz).2 _ hu).1 hf,h.1⟩
 have HPK:Hid (∀ w',Chg () w w'->Calls Try.prog 15 #[.string img,nv] w' fun e w''=>∃ u:Value,e=.returned (.tuple #[u,oO])/\(∃ a n c,u=.slice a n c)/\Chg () w' w''):=fun w' k =>
  (pack_any img nv ns w' (hn.new k) (fun q R=>tgh_rel q)).mono fun e w'' h=>by
    obtain ⟨u,h1,h2⟩:=(h.2.2 hz).2 _ hu
    obtain ⟨a,c,h3⟩:=h2.slice
    exact ⟨u,h1,⟨_,_,_,h3⟩,h.1⟩
 have HLV:Hid (∀ w',Chg () w w'->Calls Try.prog 12 #[.string img,nv] w' fun e w''=>∃ n:Int,e=.returned (.tuple #[n,oO])/\Chg () w' w''):=fun w' k =>
  (live_any img nv ns w' (hn.new k) (fun q R=>tgh_rel q)).mono fun e w'' h=>⟨_,(h.2.2 hz).2 _ hu,h.1⟩
 have HFU:Hid (∀ w,Calls Try.prog 10 #[fuel] w fun e w'=>e=.returned (.bool false)/\w'=w):=fun w=>by
  have e:decide (0<=fuel/\fuel<=10000)=false:=by simp only [decide_eq_false_iff_not];omega
  rw [<-e];exact fuelled_any fuel w
 obtain ⟨na,nc,rfl⟩:=hn.slice
 obtain ⟨ia,ic,rfl⟩:=hi.slice
 generalize opF img=O at *
 obtain ⟨o1,o2,o3,o4⟩:=O
 simp only at hz
 subst hz
 clear hn hi hu hf
 go_enter Try.func4,Try.ntmps4
 go_wp2_with fail
 refine (HRC.out _).mono ?_
 rintro e w1 ⟨tv,fv,rfl,hty,hfv,k1⟩
 obtain ⟨ta,tc,rfl⟩:=hty.slice
 obtain ⟨fa,fc,rfl⟩:=hfv.slice
 clear HRC hty hfv
 go_wp2_with fail
 refine (HGO.out _ (k1.alloc _)).mono ?_
 rintro e w2 ⟨rfl,k2⟩
 have K2:Hid (Chg () w w2):=(k1.alloc _).trans k2
 clear k1 k2 HGO
 go_wp2_with fail
 refine (HPK.out _ (K2.out.alloc _)).mono ?_
 rintro e w3 ⟨u,rfl,⟨pa,pn,pc,rfl⟩,k3⟩
 have nX:=(Blk.new w2 #[.slice none 0 0,.slice none 0 0,.int .i64 0,.int .i64 0] 34).chg k3 (fun q=>q)
 have K3:Hid (Chg () w w3):=(K2.out.alloc _).trans k3
 have e24:=fun wx:World=>nq_nil 24 3 pa pn pc Try.underlying24 wx
 clear k3 HPK K2
 go_wp2_with fail
 refine (HLV.out _ K3.out).mono ?_
 rintro e w4 ⟨ln,rfl,k4⟩
 have K4:=hid (K3.out.trans k4)
 obtain ⟨c0,c1,c2,c3,_,_,_,_⟩:=cells4 (nX.chg k4 (fun q=>q))
 clear k4 HLV K3 nX
 iterate 2
  go_wp2_with fail
  refine (num_any 0 _).mono ?_
  rintro e w6 ⟨rfl,hw⟩
  have hw:=hw.symm
  subst hw
 go_wp2_with fail
 refine (num_any 4 _).mono ?_
 rintro e w6 ⟨rfl,hw⟩
 have hw:=hw.symm
 subst hw
 go_wp2_with fail
 refine (zero_any _).mono ?_
 rintro e w5 ⟨rfl,k5⟩
 have K5:=hid (K4.out.trans k5)
 clear k5 K4 c0 c1 c2 c3
 iterate 2
  go_wp2_with fail
  refine (num_any 4 _).mono ?_
  rintro e w6 ⟨rfl,hw⟩
  have hw:=hw.symm
  subst hw
 go_wp2_with fail
 refine (HFU.out _).mono ?_
 rintro e w6 ⟨rfl,hw⟩
 have hw:=hw.symm
 subst hw
 go_wp2
 go_ret
 exact ⟨rfl,K5.out⟩
theorem tgh_D (hn:RdA w nv ns) (hi:RdA w iv inp) (hz:(opF img).1=0) {R:Rn} (hu:tuP (cxO img) (mksP img) ns=some R) (n:Nat) (hf:n<=10000) :
 Calls Try.prog 4 #[.string img,nv,iv,n] w fun e w'=>e=.returned (.bool true)/\Chg () w w':=by
 have HRC:Hid (∀ w,Calls Try.prog 14 #[.string img] w _):=fun w=>rcheck_any img w
 obtain ⟨D,hD⟩:=tgh_rel hz hu
 obtain ⟨D',r1,_,_,hus,hs0,hs5,_⟩:=safe_plain (cx_ok hz) hD inp n hf _ rfl
 rw [tu_bare hu] at r1 hus hs0 hs5
 have HGO:Hid (∀ w',Chg () w w'->Calls Try.prog 11 #[.string img,nv,iv,n] w' fun e w''=>∃ sv ov,e=.returned (.tuple #[.agg #[sv,ov,((goStP (cxO img) R inp n).1.used:Int),.int .i64 (goStP (cxO img) R inp n).2],oO])/\IntsV w'' w'.heap.size sv (layR (mksP img) (goStP (cxO img) R inp n).1)/\(∃ a n c,ov=.slice a n c)/\Chg () w' w''):=fun w' k =>
  (go_any img nv iv ns inp n w' (hn.new k) (hi.new k) (fun q R=>tgh_rel q)).mono fun e w'' h=>by
    obtain ⟨sv,ov,h1,h2,h3,_⟩:=((h.2.2 hz).2 _ hu).2 (by omega)
    rw [Int.toNat_natCast] at h1 h2 h3
    obtain ⟨a,c,h4⟩:=h3.slice
    exact ⟨sv,ov,h1,h2,⟨_,_,_,h4⟩,h.1⟩
 have HPK:Hid (∀ w',Chg () w w'->Calls Try.prog 15 #[.string img,nv] w' fun e w''=>∃ u:Value,e=.returned (.tuple #[u,oO])/\(∃ a n c,u=.slice a n c)/\Chg () w' w''):=fun w' k =>
  (pack_any img nv ns w' (hn.new k) (fun q R=>tgh_rel q)).mono fun e w'' h=>by
    obtain ⟨u,h1,h2⟩:=(h.2.2 hz).2 _ hu
    obtain ⟨a,c,h3⟩:=h2.slice
    exact ⟨u,h1,⟨_,_,_,h3⟩,h.1⟩
 have HLV:Hid (∀ w',Chg () w w'->Calls Try.prog 12 #[.string img,nv] w' fun e w''=>∃ n:Int,e=.returned (.tuple #[n,oO])/\Chg () w' w''):=fun w' k =>
  (live_any img nv ns w' (hn.new k) (fun q R=>tgh_rel q)).mono fun e w'' h=>⟨_,(h.2.2 hz).2 _ hu,h.1⟩
 have HFU:Hid (∀ w,Calls Try.prog 10 #[(n:Int)] w fun e w'=>e=.returned (.bool true)/\w'=w):=fun w=>by
  have e:decide (0<=(n:Int)/\(n:Int)<=10000)=true:=by simp only [decide_eq_true_eq];omega
  rw [<-e];exact fuelled_any n w
 generalize goStP (cxO img) R inp n=X at *
 have HSM:Hid (∀ w' a c b,IntsV w' b (.slice a (layR (mksP img) X.1).length c) (layR (mksP img) X.1)->Calls Try.prog 13 #[.slice a (layR (mksP img) X.1).length c,(4000:Int),(64:Int)] w' fun e w''=>e=.returned (.bool true)/\w''=w'):=fun w' a c b hI=>by
  obtain ⟨l1,l2,_,_⟩:=lay_small (cx_ok hz) (ms:=mksP img) rfl (mks_words (opF_size hz)) r1
  exact small_true _ _ _ _ _ _ hI ⟨by omega,by omega⟩ ⟨by omega,by omega⟩ (by have:=r1.h4;have:=r1.d64;omega) (fun x hx=>by have:=l2 x hx;omega)
 have hus':(X.1.used:Int)<=(inp.length:Int):=by omega
 have hu0:(0:Int)<=(X.1.used:Int):=by omega
 obtain ⟨na,nc,rfl⟩:=hn.slice
 obtain ⟨ia,ic,rfl⟩:=hi.slice
 generalize opF img=O at *
 obtain ⟨o1,o2,o3,o4⟩:=O
 simp only at hz
 subst hz
 clear hn hi hu hf hD r1 hus
 go_enter Try.func4,Try.ntmps4
 go_wp2_with fail
 refine (HRC.out _).mono ?_
 rintro e w1 ⟨tv,fv,rfl,hty,hfv,k1⟩
 obtain ⟨ta,tc,rfl⟩:=hty.slice
 obtain ⟨fa,fc,rfl⟩:=hfv.slice
 clear HRC hty hfv
 go_wp2_with fail
 refine (HGO.out _ (k1.alloc _)).mono ?_
 rintro e w2 ⟨sv,ov,rfl,hs,⟨oa,on,oc,rfl⟩,k2⟩
 obtain ⟨sa,sc,rfl⟩:=hs.slice
 have K2:Hid (Chg () w w2):=(k1.alloc _).trans k2
 have HS:=hid hs
 clear k1 k2 HGO hs
 go_wp2_with fail
 refine (HPK.out _ (K2.out.alloc _)).mono ?_
 rintro e w3 ⟨u,rfl,⟨pa,pn,pc,rfl⟩,k3⟩
 have nX:=(Blk.new w2 #[.slice sa (layR (mksP img) X.1).length sc,.slice oa on oc,.int .i64 (X.1.used:Int),.int .i64 X.2] 34).chg k3 (fun q=>q)
 have K3:Hid (Chg () w w3):=(K2.out.alloc _).trans k3
 have HS3:Hid (IntsV w3 0 (.slice sa (layR (mksP img) X.1).length sc) (layR (mksP img) X.1)):=own_mono (own_chg (own_chg HS.out ((Chg.refl () w2).alloc _) (fun _ _ q=>q)) k3 (fun _ _ q=>q)) (Nat.zero_le _)
 have e24:=fun wx:World=>nq_nil 24 3 pa pn pc Try.underlying24 wx
 clear k3 HPK K2 HS
 go_wp2_with fail
 refine (HLV.out _ K3.out).mono ?_
 rintro e w4 ⟨ln,rfl,k4⟩
 have K4:=hid (K3.out.trans k4)
 obtain ⟨c0,c1,c2,c3,_,_,_,_⟩:=cells4 (nX.chg k4 (fun q=>q))
 have HS4:Hid (IntsV w4 0 (.slice sa (layR (mksP img) X.1).length sc) (layR (mksP img) X.1)):=own_chg HS3.out k4 (fun _ _ q=>q)
 clear k4 HLV K3 nX HS3
 iterate 3
  go_wp2_with fail
  refine (num_any 0 _).mono ?_
  rintro e w6 ⟨rfl,hw⟩
  have hw:=hw.symm
  subst hw
 go_wp2_with fail
 refine (HSM.out _ _ _ _ HS4.out).mono ?_
 rintro e w6 ⟨rfl,hw⟩
 have hw:=hw.symm
 subst hw
 go_wp2_with fail
 refine (HFU.out _).mono ?_
 rintro e w6 ⟨rfl,hw⟩
 have hw:=hw.symm
 subst hw
 go_wp2
 go_ret
 exact ⟨rfl,K4.out⟩
theorem tough_walk (hn:RdA w nv ns) (hi:RdA w iv inp):Calls Try.prog 4 #[.string img,nv,iv,fuel] w fun e w'=>e=.returned (.bool true)/\Chg () w w':=by
 by_cases hz:(opF img).1=0
 ·rcases hu:tuP (cxO img) (mksP img) ns with _ | R
  ·exact tgh_B hn hi hz hu
  ·by_cases hf:fuel < 0 \/ 10000 < fuel
   ·exact tgh_C hn hi hz hu hf
   ·obtain ⟨n,rfl⟩:∃ n:Nat,fuel=(n:Int):=⟨fuel.toNat,by omega⟩
    exact tgh_D hn hi hz hu n (by omega)
 ·exact tgh_A hn hi hz
end
end Go.Proofs.Ytnfnbcbadakofab
