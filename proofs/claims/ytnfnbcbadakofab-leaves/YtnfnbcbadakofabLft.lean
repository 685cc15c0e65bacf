import Derived.Test.YtnfnbcbadakofabUvd
import Derived.Test.YtnfnbcbadakofabRnw
namespace Go.Proofs.Ytnfnbcbadakofab
open Go.RowKit
set_option maxHeartbeats 4000000
set_option maxRecDepth 100000
theorem left_core (img:ByteArray) (sa la:Option Addr) (sn sc ln lc:Nat) (fuel:Int) (w:World) (XL XO PL:List Int) (us st er:Int) (hXL:XL.length<=100000) (hXO:XO.length<=100000) (hPL:PL.length<=100000)
 (HGO:Hid (∀ w',Chg () w w'->Calls Try.prog 11 #[.string img,.slice sa sn sc,.slice la ln lc,fuel] w' fun e w''=>∃ sv' ov',e=.returned (.tuple #[.agg #[sv',ov',us,st],er])/\IntsV w'' w'.heap.size sv' XL/\IntsV w'' w'.heap.size ov' XO/\Sep ov' sv'/\Chg () w' w''))
 (HPK:Hid (∀ w',Chg () w w'->Calls Try.prog 15 #[.string img,.slice sa sn sc] w' fun e w''=>∃ u,e=.returned (.tuple #[u,oO])/\IntsV w'' w'.heap.size u PL/\Chg () w' w'')) :
 Calls Try.prog 19 #[.string img,.slice sa sn sc,.slice la ln lc,fuel] w fun e w'=>e=.returned (.bool true)/\Chg () w w':=by
 go_enter Try.func19,Try.ntmps19
 go_wp2_with fail
 refine (HGO.out _ (Chg.refl _ _)).mono ?_
 rintro e w1 ⟨sv',ov',rfl,hs1,ho1,hsep,k1⟩
 obtain ⟨xa,xc,rfl⟩:=hs1.slice
 obtain ⟨oa,oc,rfl⟩:=ho1.slice
 have kX:Chg () w1 (w1.alloc (Obj.cells #[.slice xa XL.length xc,.slice oa XO.length oc,us,st] 34)):=(Chg.refl _ _).alloc _
 have nX:=Blk.new w1 #[.slice xa XL.length xc,.slice oa XO.length oc,.int .i64 us,.int .i64 st] 34
 have KX:=hid (k1.trans kX)
 have HS2:Hid (IntsV (w1.alloc (Obj.cells #[.slice xa XL.length xc,.slice oa XO.length oc,us,st] 34)) w.heap.size (.slice xa XL.length xc) XL):=own_chg hs1 kX (fun _ _ q=>q)
 have HO2:Hid (IntsV (w1.alloc (Obj.cells #[.slice xa XL.length xc,.slice oa XO.length oc,us,st] 34)) w.heap.size (.slice oa XO.length oc) XO):=own_chg ho1 kX (fun _ _ q=>q)
 have SEP:=hid hsep
 have NX:=hid nX
 clear hs1 ho1 k1 kX nX hsep
 go_wp2_with fail
 refine (HPK.out _ KX.out).mono ?_
 rintro e w3 ⟨u,rfl,hu3,k3⟩
 obtain ⟨pa,pc,rfl⟩:=hu3.slice
 have K3:=hid (KX.out.trans k3)
 have N3:Hid (Blk w3 w1.heap.size #[.slice xa XL.length xc,.slice oa XO.length oc,us,st] 34):=NX.out.chg k3 (fun q=>q)
 have HS3:Hid (IntsV w3 w.heap.size (.slice xa XL.length xc) XL):=own_chg HS2.out k3 (fun _ _ q=>q)
 have HO3:Hid (IntsV w3 w.heap.size (.slice oa XO.length oc) XO):=own_chg HO2.out k3 (fun _ _ q=>q)
 have SP1:Hid (Sep (.slice pa PL.length pc) (.slice xa XL.length xc)):=fun g h1 h2=>by
  have q1:=(own_lt hu3 h1).1
  have q2:=(own_lt HS2.out h2).2
  omega
 have SP2:Hid (Sep (.slice pa PL.length pc) (.slice oa XO.length oc)):=fun g h1 h2=>by
  have q1:=(own_lt hu3 h1).1
  have q2:=(own_lt HO2.out h2).2
  omega
 have HP3:Hid (IntsV w3 w.heap.size (.slice pa PL.length pc) PL):=own_mono hu3 KX.out.size
 obtain ⟨c0,c1,_,_,_,_,_,_⟩:=cells4 N3.out
 clear hu3 k3 HS2 HO2 KX NX
 generalize w1.heap.size=xb at *
 go_wp2_with fail
 refine (spoil_any _ XL _ _ HS3.out hXL).mono ?_
 rintro e w4 ⟨rfl,hs4,k4⟩
 have K4:Hid (Chg () w w4):=K3.out.trans' k4 (fun i hi q=>by have:=(own_lt HS3.out q.symm).1;omega)
 have N4:Hid (Blk w4 xb #[.slice xa XL.length xc,.slice oa XO.length oc,us,st] 34):=N3.out.chg k4 (fun q=>own_ne HS3.out N3.out (by decide) q.symm)
 have HO4:Hid (IntsV w4 w.heap.size (.slice oa XO.length oc) XO):=own_chg HO3.out k4 (fun g h1 h2=>SEP.out g h1 h2.symm)
 have HP4:Hid (IntsV w4 w.heap.size (.slice pa PL.length pc) PL):=own_chg HP3.out k4 (fun g h1 h2=>SP1.out g h1 h2.symm)
 have HS4:=hid hs4
 clear c0 c1 k4 hs4 HS3 HO3 HP3 K3 N3
 obtain ⟨c0,c1,_,_,_,_,_,_⟩:=cells4 N4.out
 go_wp2_with fail
 refine (spoil_any _ XO _ _ HO4.out hXO).mono ?_
 rintro e w5 ⟨rfl,ho5,k5⟩
 have K5:Hid (Chg () w w5):=K4.out.trans' k5 (fun i hi q=>by have:=(own_lt HO4.out q.symm).1;omega)
 have N5:Hid (Blk w5 xb #[.slice xa XL.length xc,.slice oa XO.length oc,us,st] 34):=N4.out.chg k5 (fun q=>own_ne HO4.out N4.out (by decide) q.symm)
 have HS5:Hid (IntsV w5 w.heap.size (.slice xa XL.length xc) (List.replicate XL.length (-987654321))):=own_chg HS4.out k5 (fun g h1 h2=>SEP.out g h2.symm h1)
 have HP5:Hid (IntsV w5 w.heap.size (.slice pa PL.length pc) PL):=own_chg HP4.out k5 (fun g h1 h2=>SP2.out g h1 h2.symm)
 have HO5:=hid ho5
 clear c0 c1 k5 ho5 HS4 HO4 HP4 K4 N4
 go_wp2_with fail
 refine (spoil_any _ PL _ _ HP5.out hPL).mono ?_
 rintro e w6 ⟨rfl,hp6,k6⟩
 have K6:Hid (Chg () w w6):=K5.out.trans' k6 (fun i hi q=>by have:=(own_lt HP5.out q.symm).1;omega)
 have N6:Hid (Blk w6 xb #[.slice xa XL.length xc,.slice oa XO.length oc,us,st] 34):=N5.out.chg k6 (fun q=>own_ne HP5.out N5.out (by decide) q.symm)
 have HS6:Hid (IntsV w6 w.heap.size (.slice xa XL.length xc) (List.replicate XL.length (-987654321))):=own_chg HS5.out k6 (fun g h1 h2=>SP1.out g h2.symm h1)
 have HO6:Hid (IntsV w6 w.heap.size (.slice oa XO.length oc) (List.replicate XO.length (-987654321))):=own_chg HO5.out k6 (fun g h1 h2=>SP2.out g h2.symm h1)
 have HP6:=hid hp6
 clear k6 hp6 HS5 HO5 HP5 K5 N5 SP1 SP2 SEP
 go_wp2_with fail
 refine (HGO.out _ K6.out).mono ?_
 rintro e w7 ⟨sv2,ov2,rfl,hs7,ho7,_,k7⟩
 obtain ⟨ya,yc,rfl⟩:=hs7.slice
 obtain ⟨za,zc,rfl⟩:=ho7.slice
 replace k7:Chg () w6 (w7.alloc (Obj.cells #[.slice ya XL.length yc,.slice za XO.length zc,us,st] 34)):=k7.alloc _
 have K7:=hid (K6.out.trans k7)
 have N7:Hid (Blk (w7.alloc (Obj.cells #[.slice ya XL.length yc,.slice za XO.length zc,us,st] 34)) xb #[.slice xa XL.length xc,.slice oa XO.length oc,us,st] 34):=N6.out.chg k7 (fun q=>q)
 have HS7:Hid (IntsV (w7.alloc (Obj.cells #[.slice ya XL.length yc,.slice za XO.length zc,us,st] 34)) w.heap.size (.slice xa XL.length xc) (List.replicate XL.length (-987654321))):=own_chg HS6.out k7 (fun _ _ q=>q)
 have HO7:Hid (IntsV (w7.alloc (Obj.cells #[.slice ya XL.length yc,.slice za XO.length zc,us,st] 34)) w.heap.size (.slice oa XO.length oc) (List.replicate XO.length (-987654321))):=own_chg HO6.out k7 (fun _ _ q=>q)
 have HP7:Hid (IntsV (w7.alloc (Obj.cells #[.slice ya XL.length yc,.slice za XO.length zc,us,st] 34)) w.heap.size (.slice pa PL.length pc) (List.replicate PL.length (-987654321))):=own_chg HP6.out k7 (fun _ _ q=>q)
 clear k7 hs7 ho7 HS6 HO6 HP6 K6 N6
 go_wp2_with fail
 refine (HPK.out _ K7.out).mono ?_
 rintro e w8 ⟨u8,rfl,hu8,k8⟩
 obtain ⟨va,vc,rfl⟩:=hu8.slice
 have K8:=hid (K7.out.trans k8)
 obtain ⟨c0,c1,_,_,_,_,_,_⟩:=cells4 (N7.out.chg k8 (fun q=>q))
 have HS8:Hid (IntsV w8 w.heap.size (.slice xa XL.length xc) (List.replicate XL.length (-987654321))):=own_chg HS7.out k8 (fun _ _ q=>q)
 have HO8:Hid (IntsV w8 w.heap.size (.slice oa XO.length oc) (List.replicate XO.length (-987654321))):=own_chg HO7.out k8 (fun _ _ q=>q)
 have HP8:Hid (IntsV w8 w.heap.size (.slice pa PL.length pc) (List.replicate PL.length (-987654321))):=own_chg HP7.out k8 (fun _ _ q=>q)
 clear k8 hu8 HS7 HO7 HP7 K7 N7
 go_wp2_with fail
 refine (spoilt_any _ _ _ _ HS8.out hXL).mono ?_
 rintro e w9 ⟨rfl,hw9⟩
 have hw9:=hw9.symm
 subst hw9
 go_wp2_with fail
 refine (spoilt_any _ _ _ _ HO8.out hXO).mono ?_
 rintro e w9 ⟨rfl,hw9⟩
 have hw9:=hw9.symm
 subst hw9
 go_wp2_with fail
 refine (spoilt_any _ _ _ _ HP8.out hPL).mono ?_
 rintro e w9 ⟨rfl,hw9⟩
 have hw9:=hw9.symm
 subst hw9
 iterate 2
  go_wp2_with fail
  refine (num_any er _).mono ?_
  rintro e w9 ⟨rfl,hw9⟩
  have hw9:=hw9.symm
  subst hw9
 iterate 2
  go_wp2_with fail
  refine (num_any 0 _).mono ?_
  rintro e w9 ⟨rfl,hw9⟩
  have hw9:=hw9.symm
  subst hw9
 go_wp2
 go_ret
 exact ⟨by simp,K8.out⟩
end Go.Proofs.Ytnfnbcbadakofab
