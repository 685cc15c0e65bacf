import Derived.Test.YtnfnbcbadakofaaGreatDrt
namespace Go.Proofs.YtnfnbcbadakofaaGreat
open Go.RowKit
set_option maxHeartbeats 2000000
set_option maxRecDepth 100000
section
variable {W1 w w':World} {rb:Nat} {tv fv:Value} {D:Dn} {V:DV}
theorem c9 (l:List (Int × Bool)) {n:Nat} (h:l.length<=n):l.dropLast.length<=n:=by rw [List.length_dropLast];omega
theorem qw (h:DI W1 w rb tv fv D V) (hb:DB D) (A B:Int) :
 Calls Tryz.prog 63 #[.pointer rb,.agg #[(10:Int),A,B]] w fun e w'=>e=.returned (.tuple #[])/\aG W1 w rb tv fv V D.out { D with top:=aD D.top (0,true) } w':=by
 have HP:Hid (∀ w1,Chg () w w1->Calls Tryz.prog 57 #[.pointer rb,oO,.bool true] w1 fun e w'=>e=.returned (.tuple #[])/\aG W1 w rb tv fv V D.out { D with top:=aD D.top (0,true) } w'):=fun w1 k=>(bS (h.new k) hb.st 0 true hb.bl hb.sl).mono fun e w' ⟨h1,V',h2,h3⟩=>⟨h1,V',h2,(Ev.new rb _ k).trans h3⟩
 clear h hb
 go_enter Tryz.func63,Tryz.ntmps63
 go_wp2_with fail
 refine (HP.out _ ((Chg.refl _ _).alloc _)).mono ?_
 rintro ex w1 ⟨rfl,hfin⟩
 have FIN:Hid _:=hfin
 clear hfin
 go_wp2
 exact bodyPost_end (v:=.tuple #[]) (by simp [results,Tryz.results63]) rfl ⟨rfl,FIN.out⟩
theorem qy (h:DI W1 w rb tv fv D V) (hb:DB D) (A B:Int) (h0:0 < D.top.stack.length) :
 Calls Tryz.prog 63 #[.pointer rb,.agg #[(11:Int),A,B]] w fun e w'=>e=.returned (.tuple #[])/\aG W1 w rb tv fv V D.out { D with top:=aD (ax D.top) (if (au D.top.stack).1=0 then 1 else 0,false) } w':=by
 have HP1:Hid (∀ w1,Chg () w w1->Calls Tryz.prog 59 #[.pointer rb] w1 fun e w'=>e=.returned (.agg #[.int .i64 (au D.top.stack).1,.bool (au D.top.stack).2])/\aG W1 w rb tv fv V D.out { D with top:=ax D.top } w'):=fun w1 k=>(cA (h.new k) hb.st hb.bl hb.sl h0).mono fun e w' ⟨h1,V',h2,h3⟩=>⟨h1,V',h2,(Ev.new rb _ k).trans h3⟩
 have HP3:Hid (∀ (w:World) (V:DV) (n:Int),DI W1 w rb tv fv { D with top:=ax D.top } V->Calls Tryz.prog 57 #[.pointer rb,n,.bool false] w fun e w'=>e=.returned (.tuple #[])/\aG W1 w rb tv fv V D.out { D with top:=aD (ax D.top) (n,false) } w'):=fun w V n h=>bS h hb.st n false hb.bl (c9 _ hb.sl)
 generalize au D.top.stack=x at *
 obtain ⟨xn,xr⟩:=x
 simp only at HP1 ⊢
 obtain ⟨t,ht⟩:∃ t:Int,(if xn=0 then (1:Int) else 0)=t:=⟨_,rfl⟩
 rw [ht]
 have HB:Hid (∀ w,Calls Tryz.prog 84 #[.bool (xn == 0)] w fun e w'=>e=.returned (.int .i64 t)/\w'=w):=fun w=>by
  rw [<-ht]
  have:(if xn=0 then (1:Int) else 0)=if (xn == 0)=true then 1 else 0:=by simp
  rw [this];exact i7 _ w
 clear h hb h0 ht
 go_enter Tryz.func63,Tryz.ntmps63
 go_wp2_with fail
 refine (HP1.out _ ((Chg.refl _ _).alloc _)).mono ?_
 rintro ex w1 ⟨rfl,V1,d1,e1⟩
 have k1:Chg () w1 (w1.alloc (Obj.cells #[xn,.bool xr] 104)):=(Chg.refl _ _).alloc _
 have n1:=Blk.new w1 #[.int .i64 xn,.bool xr] 104
 have v0:(w1.alloc (Obj.cells #[xn,.bool xr] 104)).cell? ⟨w1.heap.size,0,none⟩=some (.int .i64 xn):=n1.cell 0
 have D1:=hid (d1.new k1)
 have E1:Hid (Ev rb (aw V D.out) w (aw V1 D.out) (w1.alloc (Obj.cells #[xn,.bool xr] 104))):=e1.trans (Ev.new rb _ k1)
 clear d1 e1 n1 k1
 go_wp2_with fail
 refine (HB.out _).mono ?_
 rintro ex w2 ⟨rfl,hw2⟩
 have hw2:=hw2.symm
 subst hw2
 go_wp2_with fail
 refine (HP3.out _ _ _ D1.out).mono ?_
 rintro ex w3 ⟨rfl,V3,d3,e3⟩
 have FIN:Hid (aG W1 w rb tv fv V D.out { D with top:=aD (ax D.top) (t,false) } w3):=⟨V3,d3,E1.out.trans e3⟩
 clear d3 e3 v0
 go_wp2
 exact bodyPost_end (v:=.tuple #[]) (by simp [results,Tryz.results63]) rfl ⟨rfl,FIN.out⟩
theorem sx (hb:DB D) (h2:2<=D.top.stack.length) :
 (∀ w V w1,DI W1 w rb tv fv D V->Chg () w w1->Calls Tryz.prog 59 #[.pointer rb] w1 fun e w'=>e=.returned (.agg #[.int .i64 (au D.top.stack).1,.bool (au D.top.stack).2])/\aG W1 w rb tv fv V D.out { D with top:=ax D.top } w') /\
 (∀ (w:World) (V:DV),DI W1 w rb tv fv { D with top:=ax D.top } V->Calls Tryz.prog 59 #[.pointer rb] w fun e w'=>e=.returned (.agg #[.int .i64 (au D.top.stack.dropLast).1,.bool (au D.top.stack.dropLast).2])/\aG W1 w rb tv fv V D.out { D with top:=ax (ax D.top) } w'):=
 ⟨fun w V w1 h k=>(cA (h.new k) hb.st hb.bl hb.sl (by omega)).mono fun e w' ⟨h1,V',h2,h3⟩=>⟨h1,V',h2,(Ev.new rb _ k).trans h3⟩,
  fun w V h=>cA h hb.st hb.bl (c9 _ hb.sl) (by show 0 < D.top.stack.dropLast.length;rw [List.length_dropLast];omega)⟩
theorem se (h:DI W1 w rb tv fv D V) (hb:DB D) (A B:Int) (h2:2<=D.top.stack.length) :
 Calls Tryz.prog 63 #[.pointer rb,.agg #[(12:Int),A,B]] w fun e w'=>e=.returned (.tuple #[])/\aG W1 w rb tv fv V D.out { D with top:=aD (ax (ax D.top)) (if (au D.top.stack.dropLast).1=(au D.top.stack).1 then 1 else 0,false) } w':=by
 obtain ⟨p1,p2⟩:=sx (W1:=W1) (rb:=rb) (tv:=tv) (fv:=fv) hb h2
 have HP1:Hid _:=p1
 have HP2:Hid _:=p2
 have HP3:Hid (∀ (w:World) (V:DV) (n:Int),DI W1 w rb tv fv { D with top:=ax (ax D.top) } V->Calls Tryz.prog 57 #[.pointer rb,n,.bool false] w fun e w'=>e=.returned (.tuple #[])/\aG W1 w rb tv fv V D.out { D with top:=aD (ax (ax D.top)) (n,false) } w'):=fun w V n h=>bS h hb.st n false hb.bl (c9 _ (c9 _ hb.sl))
 clear p1 p2
 generalize au D.top.stack.dropLast=a at *
 generalize au D.top.stack=x at *
 obtain ⟨an,ab⟩:=a
 obtain ⟨xn,xr⟩:=x
 simp only at HP1 HP2 ⊢
 obtain ⟨t,ht⟩:∃ t:Int,(if an=xn then (1:Int) else 0)=t:=⟨_,rfl⟩
 rw [ht]
 have HB:Hid (∀ w,Calls Tryz.prog 84 #[.bool (an == xn)] w fun e w'=>e=.returned (.int .i64 t)/\w'=w):=fun w=>by
  rw [<-ht]
  have:(if an=xn then (1:Int) else 0)=if (an == xn)=true then 1 else 0:=by simp
  rw [this];exact i7 _ w
 have H:=hid h
 clear h hb h2 ht
 go_enter Tryz.func63,Tryz.ntmps63
 go_wp2_with fail
 refine (HP1.out _ _ _ H.out ((Chg.refl _ _).alloc _)).mono ?_
 rintro ex w1 ⟨rfl,V1,d1,e1⟩
 have k1:Chg () w1 (w1.alloc (Obj.cells #[xn,.bool xr] 104)):=(Chg.refl _ _).alloc _
 have n1:=Blk.new w1 #[.int .i64 xn,.bool xr] 104
 have hn1:=d1.old (Nat.le_refl _)
 have hr1:w1.heap.size ≠ rb:=Nat.ne_of_gt d1.bx.lt
 go_wp2_with fail
 refine (HP2.out _ _ (d1.new k1)).mono ?_
 rintro ex w2 ⟨rfl,V2,d2,e2⟩
 have n2:=e2.blk n1 hr1 hn1
 have k2:Chg () w2 (w2.alloc (Obj.cells #[an,.bool ab] 104)):=(Chg.refl _ _).alloc _
 have n3:=Blk.new w2 #[.int .i64 an,.bool ab] 104
 have D2:=hid (d2.new k2)
 have E3:Hid (Ev rb (aw V D.out) w (aw V2 D.out) (w2.alloc (Obj.cells #[an,.bool ab] 104))):=(e1.trans ((Ev.new rb _ k1).trans e2)).trans (Ev.new rb _ k2)
 have y0:(w2.alloc (Obj.cells #[an,.bool ab] 104)).cell? ⟨w1.heap.size,0,none⟩=some (.int .i64 xn):=(n2.chg k2 (fun q=>q)).cell 0
 have x0:(w2.alloc (Obj.cells #[an,.bool ab] 104)).cell? ⟨w2.heap.size,0,none⟩=some (.int .i64 an):=n3.cell 0
 clear k1 k2 n1 n2 n3 d1 d2 e1 e2 hn1 hr1
 go_wp2_with fail
 refine (HB.out _).mono ?_
 rintro ex w3 ⟨rfl,hw2⟩
 have hw2:=hw2.symm
 subst hw2
 go_wp2_with fail
 refine (HP3.out _ _ _ D2.out).mono ?_
 rintro ex w3 ⟨rfl,V3,d3,e3⟩
 have FIN:Hid (aG W1 w rb tv fv V D.out { D with top:=aD (ax (ax D.top)) (t,false) } w3):=⟨V3,d3,E3.out.trans e3⟩
 clear d3 e3 y0 x0
 go_wp2
 exact bodyPost_end (v:=.tuple #[]) (by simp [results,Tryz.results63]) rfl ⟨rfl,FIN.out⟩
theorem ti (h:DI W1 w rb tv fv D V) (hb:DB D) (A:Int) (B:Nat) (h0:0 < D.top.stack.length) (hr:D.recs.length<=1000000000000) (hv:(au D.top.stack).1=0 \/ ∃ e:Nat,(au D.top.stack).1=(e:Int)+1/\e < D.recs.length/\B < (D.recs.getD e []).length/\(D.recs.getD e []).length<=1000) :
 Calls Tryz.prog 63 #[.pointer rb,.agg #[(8:Int),A,B]] w fun e w'=>e=.returned (.tuple #[])/\aG W1 w rb tv fv V D.out (if (au D.top.stack).1=0 then { D with top:=ax D.top,status:=3 } else { D with top:=aD (ax D.top) ((D.recs.getD ((au D.top.stack).1 - 1).toNat []).getD B (0,false)) }) w':=by
 have HP1:Hid (∀ w1,Chg () w w1->Calls Tryz.prog 59 #[.pointer rb] w1 fun e w'=>e=.returned (.agg #[.int .i64 (au D.top.stack).1,.bool (au D.top.stack).2])/\aG W1 w1 rb tv fv V D.out { D with top:=ax D.top } w'):=fun w1 k=>cA (h.new k) hb.st hb.bl hb.sl h0
 have HP3:Hid (∀ (w:World) (V:DV) (n:Int) (b:Bool),DI W1 w rb tv fv { D with top:=ax D.top } V->Calls Tryz.prog 57 #[.pointer rb,n,.bool b] w fun e w'=>e=.returned (.tuple #[])/\aG W1 w rb tv fv V D.out { D with top:=aD (ax D.top) (n,b) } w'):=fun w V n b h=>bS h hb.st n b hb.bl (c9 _ hb.sl)
 generalize au D.top.stack=x at *
 obtain ⟨xn,xr⟩:=x
 simp only at HP1 hv ⊢
 have nX:=Blk.new w #[.int .i64 8,.int .i64 A,.int .i64 (B:Int)] 107
 have kX:Chg () w (w.alloc (Obj.cells #[(8:Int),A,B] 107)):=(Chg.refl _ _).alloc _
 have hwx:=h.old (Nat.le_refl _)
 have hwr:w.heap.size ≠ rb:=Nat.ne_of_gt h.bx.lt
 clear hb h0
 rcases hv with rfl | ⟨e,rfl,he1,he2,he3⟩
 ·rw [if_pos rfl]
  clear h
  go_enter Tryz.func63,Tryz.ntmps63
  go_wp2_with fail
  refine (HP1.out _ kX).mono ?_
  rintro ex w1 ⟨rfl,V1,d1,e1⟩
  have k1:Chg () w1 (w1.alloc (Obj.cells #[oO,.bool xr] 104)):=(Chg.refl _ _).alloc _
  have n1:=Blk.new w1 #[.int .i64 0,.bool xr] 104
  have v0:(w1.alloc (Obj.cells #[oO,.bool xr] 104)).cell? ⟨w1.heap.size,0,none⟩=some (.int .i64 0):=n1.cell 0
  have HE:Hid (Calls Tryz.prog 85 #[.pointer rb,(3:Int)] (w1.alloc (Obj.cells #[oO,.bool xr] 104)) fun e w'=>e=.returned (.tuple #[])/\aG W1 w rb tv fv V D.out { D with top:=ax D.top,status:=3 } w'):=(fJ (d1.new k1) 3 (by decide)).mono fun e w' ⟨h1,V',h2,h3⟩=>⟨h1,V',h2,(((Ev.new rb _ kX).trans e1).trans (Ev.new rb _ k1)).trans h3⟩
  clear d1 e1 k1 n1 nX
  go_wp2_with fail
  refine (Calls.mono HE.out ?_)
  rintro ex w2 ⟨rfl,hfin⟩
  have FIN:Hid _:=hfin
  clear hfin v0
  go_wp2
  exact bodyPost_ret (v:=.tuple #[]) (by simp [results,Tryz.results63]) rfl ⟨rfl,FIN.out⟩
 ·rw [if_neg (by omega),show ((e:Int)+1 - 1).toNat=e by omega]
  have hq:((e:Int)+1 == 0)=false:=by rw [beq_eq_false_iff_ne];omega
  clear h
  go_enter Tryz.func63,Tryz.ntmps63
  go_wp2_with fail
  refine (HP1.out _ kX).mono ?_
  rintro ex w1 ⟨rfl,V1,d1,e1⟩
  have k1:Chg () w1 (w1.alloc (Obj.cells #[((e:Int)+1:Int),.bool xr] 104)):=(Chg.refl _ _).alloc _
  have n1:=Blk.new w1 #[.int .i64 ((e:Int)+1),.bool xr] 104
  have v0:(w1.alloc (Obj.cells #[((e:Int)+1:Int),.bool xr] 104)).cell? ⟨w1.heap.size,0,none⟩=some (.int .i64 ((e:Int)+1)):=n1.cell 0
  have d2:=d1.new k1
  obtain ⟨g,cap,u,q1,q2,q3,q4⟩:=d2.rc_at (k:=e) he1
  obtain ⟨g2,cap2,q5,q6,q7,q8,q9,q10,_⟩:=q4.form (by show 0 < (D.recs.getD e []).length;omega)
  obtain ⟨z0,z1⟩:=q10 B he2
  have x6:(w1.alloc (Obj.cells #[((e:Int)+1:Int),.bool xr] 104)).cell? ⟨rb,6,none⟩=some (.slice g D.recs.length cap):=by rw [<-q1];exact d2.bx.cell 6
  have nX2:=(e1.blk nX hwr hwx).chg k1 (fun q=>q)
  have xB:(w1.alloc (Obj.cells #[((e:Int)+1:Int),.bool xr] 104)).cell? ⟨w.heap.size,2,none⟩=some (.int .i64 (B:Int)):=nX2.cell 2
  subst q5
  have D2:=hid d2
  have E2:Hid (Ev rb (aw V D.out) w (aw V1 D.out) (w1.alloc (Obj.cells #[((e:Int)+1:Int),.bool xr] 104))):=((Ev.new rb _ kX).trans e1).trans (Ev.new rb _ k1)
  have hee:(e:Int) < (D.recs.length:Int):=by omega
  have hBB:(B:Int) < ((D.recs.getD e []).length:Int):=by omega
  clear d1 d2 e1 k1 n1 nX nX2 kX q1 q4 q10
  simp only at q3 z0 z1
  obtain ⟨y,hy⟩:∃ y,(D.recs.getD e []).getD B (0,false)=y:=⟨_,rfl⟩
  rw [hy] at z0 z1
  have HY:=hid hy
  clear hy
  generalize hrl:D.recs.getD e []=rl at *
  have HRL:=hid hrl
  clear hrl
  obtain ⟨yn,yb⟩:=y
  simp only at z0 z1
  go_wp2_with fail
  generalize w1.alloc (Obj.cells #[((e:Int)+1:Int),.bool xr] 104)=w2 at *
  generalize w1.heap.size=ab at *
  have hrl2:=D2.out.bx.lt
  have m1:rb ≠ w2.heap.size:=Nat.ne_of_lt hrl2
  have m1':=m1.symm
  have hal:=World.block_lt_of_cell? w2 _ v0
  have m2:ab ≠ w2.heap.size:=Nat.ne_of_lt hal
  have m2':=m2.symm
  have hxl:=World.block_lt_of_cell? w2 _ xB
  have m3:w.heap.size ≠ w2.heap.size:=Nat.ne_of_lt hxl
  have m3':=m3.symm
  have m4:g ≠ w2.heap.size:=Nat.ne_of_lt q2
  have m4':=m4.symm
  have m5:g2 ≠ w2.heap.size:=Nat.ne_of_lt q7
  have m5':=m5.symm
  go_region
  have k3:Chg () w2 (w2.alloc (Obj.cells #[yn,.bool yb] 104)).drew:=((Chg.refl _ _).alloc _).drew
  have n3:=(Blk.new w2 #[.int .i64 yn,.bool yb] 104).drew
  have t0:(w2.alloc (Obj.cells #[yn,.bool yb] 104)).drew.cell? ⟨w2.heap.size,0,none⟩=some (.int .i64 yn):=n3.cell 0
  have t1:(w2.alloc (Obj.cells #[yn,.bool yb] 104)).drew.cell? ⟨w2.heap.size,1,none⟩=some (.bool yb):=n3.cell 1
  have D3:=hid (D2.out.new k3)
  have E3:Hid (Ev rb (aw V D.out) w (aw V1 D.out) (w2.alloc (Obj.cells #[yn,.bool yb] 104)).drew):=E2.out.trans (Ev.new rb _ k3)
  clear k3 n3 D2 E2 v0 xB z0 z1 x6 q3 m1 m1' m2 m2' m3 m3' m4 m4' m5 m5'
  go_wp2_with fail
  refine (HP3.out _ _ _ _ D3.out).mono ?_
  rintro ex w4 ⟨rfl,V4,d4,e4⟩
  have FIN:Hid (aG W1 w rb tv fv V D.out { D with top:=aD (ax D.top) (yn,yb) } w4):=⟨V4,d4,E3.out.trans e4⟩
  clear d4 e4 t0 t1
  go_wp2
  exact bodyPost_end (v:=.tuple #[]) (by simp [results,Tryz.results63]) rfl ⟨rfl,by rw [HRL.out,HY.out];exact FIN.out⟩
theorem lr {x:Int × Bool}:∀ (l:List (Int × Bool)) (B:Nat),B < l.length->((vlC l).set (B * 2) (.int .i64 x.1)).set (B * 2+1) (.bool x.2)=vlC (l.set B x):=by
 intro l
 induction l with
 | nil=>intro B hB;simp at hB
 | cons z l ih =>
  intro B hB
  cases B with
  | zero=>rfl
  | succ B =>
   have:=ih B (by simpa using hB)
   rw [show (B+1) * 2=B * 2+2 by omega]
   simpa [vlC] using this
theorem DI.setrec (h:DI W1 w rb tv fv D V) {e B:Nat} (he:e < D.recs.length) (hB:B < (D.recs.getD e []).length) (x:Int × Bool) {g cap:Nat} {u:Value} (hu:∃ g',V.rv=.slice (some ⟨g',0,none⟩) D.recs.length cap/\w.cell? ⟨g',e,none⟩=some u) {c2:Nat} (hg:u=.slice g (D.recs.getD e []).length c2) :
 aG W1 w rb tv fv V D.out { D with recs:=D.recs.set e ((D.recs.getD e []).set B x) } ((w.setCell ⟨g,B * 2,none⟩ x.1).setCell ⟨g,B * 2+1,none⟩ (.bool x.2)):=by
 have hl:V.rs.length=D.recs.length:=by rw [<-h.re,List.length_map]
 have he':e < V.rs.length:=by omega
 have e1:D.recs.getD e []=V.rs[e].1:=by rw [<-h.re,List.getD_eq_getElem?_getD,List.getElem?_map,List.getElem?_eq_getElem he'];rfl
 have e2:V.rs[e].2=u:=by
  obtain ⟨g',q1,q2⟩:=hu
  have ho:w.ownsRow W1.heap.size 74 1 V.rv V.rs.length (V.rs.map (·.2)):=h.ow.ok (rrw V) (by simp [aw])
  have:=World.ownsRow.cells (g:=g') ho (by rw [q1];rfl) e V.rs[e].2 (by rw [List.getElem?_map,List.getElem?_eq_getElem he'];rfl)
  rw [dV,Nat.zero_add,q2] at this
  exact (Option.some.inj this).symm
 obtain ⟨pre,post,hpp,hpl⟩:∃ pre post,V.rs=pre++V.rs[e]::post/\pre.length=e:=⟨V.rs.take e,V.rs.drop (e+1),by rw [<-List.drop_eq_getElem_cons he',List.take_append_drop],by rw [List.length_take];omega⟩
 obtain ⟨y,hy⟩:∃ y,V.rs[e]=y:=⟨_,rfl⟩
 rw [hy] at hpp e1 e2
 obtain ⟨yl,yv⟩:=y
 simp only at e1 e2
 subst e2
 rw [e1] at hg hB ⊢
 subst hg
 have p1:(aw V D.out).Perm (vrw (.slice g yl.length c2) yl::frw V::rrw V::orw V D.out::(fsr V.fs++(rsr pre++rsr post))):=by
  have:aw V D.out=(frw V::rrw V::orw V D.out::(fsr V.fs++rsr pre))++vrw (.slice g yl.length c2) yl::rsr post:=by unfold aw;rw [hpp];simp [rsr]
  rw [this]
  refine List.perm_middle.trans ?_
  simp
 have o1:=h.oe.perm p1
 have hr:=o1.ow.ok _ (List.mem_cons_self ..)
 have hr2:=a8 (a8 hr (B * 2) (by show _ < yl.length * 2;omega) (.int .i64 x.1)) (B * 2+1) (by show _ < yl.length * 2;omega) (.bool x.2)
 have kk:Chg (fun j=>j=g) w ((w.setCell ⟨g,B * 2,none⟩ x.1).setCell ⟨g,B * 2+1,none⟩ (.bool x.2)):=Chg.setCell (S:=fun j=>j=g) (Chg.setCell (S:=fun j=>j=g) (Chg.refl _ _) _ _ (.inl rfl)) _ _ (.inl rfl)
 have o2:=o1.upd (r':=vrw (.slice g yl.length c2) (yl.set B x)) kk (fun j q=>.inr (by rw [q];rfl)) (by
  show World.ownsRow _ _ _ _ _ (yl.set B x).length (vlC (yl.set B x))
  rw [<-lr yl B hB,List.length_set];exact hr2) (.inl rfl)
 have hgr:rb ≠ g:=fun q=>h.nrb ((ck p1).2 ⟨_,List.mem_cons_self ..,by rw [q];rfl⟩)
 refine h.fin (V':={ V with rs:=pre++(yl.set B x,.slice g yl.length c2)::post }) o2 ?_ (h.bx.chg kk hgr) h.fe ?_
 ·have e3:rrw { V with rs:=pre++(yl.set B x,.slice g yl.length c2)::post } = rrw V:=by unfold rrw;rw [hpp];simp
  have:aw { V with rs:=pre++(yl.set B x,.slice g yl.length c2)::post } D.out=(frw V::rrw V::orw V D.out::(fsr V.fs++rsr pre))++vrw (.slice g yl.length c2) (yl.set B x)::rsr post:=by
   unfold aw;rw [e3];simp [rsr,frw,orw]
  show List.Perm _ (aw { V with rs:=pre++(yl.set B x,.slice g yl.length c2)::post } D.out)
  rw [this]
  refine List.Perm.trans ?_ List.perm_middle.symm
  simp
 ·show (pre++(yl.set B x,_)::post).map (·.1)=D.recs.set e (yl.set B x)
  rw [<-h.re,hpp,List.map_append,List.map_append,List.map_cons,List.map_cons,List.set_append_right _ _ (by rw [List.length_map];omega),List.length_map,hpl,Nat.sub_self]
  rfl
theorem tC (h:DI W1 w rb tv fv D V) (hb:DB D) (A:Int) (B:Nat) (h2:2<=D.top.stack.length) (hr:D.recs.length<=1000000000000) (hv:(au D.top.stack.dropLast).1=0 \/ ∃ e:Nat,(au D.top.stack.dropLast).1=(e:Int)+1/\e < D.recs.length/\B < (D.recs.getD e []).length/\(D.recs.getD e []).length<=1000) :
 Calls Tryz.prog 63 #[.pointer rb,.agg #[(9:Int),A,B]] w fun e w'=>e=.returned (.tuple #[])/\aG W1 w rb tv fv V D.out (if (au D.top.stack.dropLast).1=0 then { D with top:=ax (ax D.top),status:=3 } else { D with top:=ax (ax D.top),recs:=D.recs.set ((au D.top.stack.dropLast).1 - 1).toNat ((D.recs.getD ((au D.top.stack.dropLast).1 - 1).toNat []).set B (au D.top.stack)) }) w':=by
 obtain ⟨p1,p2⟩:=sx (W1:=W1) (rb:=rb) (tv:=tv) (fv:=fv) hb h2
 have HP1:Hid (∀ w1,Chg () w w1->Calls Tryz.prog 59 #[.pointer rb] w1 fun e w'=>e=.returned (.agg #[.int .i64 (au D.top.stack).1,.bool (au D.top.stack).2])/\aG W1 w1 rb tv fv V D.out { D with top:=ax D.top } w'):=fun w1 k=>p1 w1 V w1 (h.new k) (Chg.refl _ _)
 have HP2:Hid _:=p2
 clear p1 p2
 generalize au D.top.stack=x at *
 obtain ⟨xn,xr⟩:=x
 generalize au D.top.stack.dropLast=a at *
 obtain ⟨an,ab⟩:=a
 simp only at HP1 HP2 hv ⊢
 have nX:=Blk.new w #[.int .i64 9,.int .i64 A,.int .i64 (B:Int)] 107
 have kX:Chg () w (w.alloc (Obj.cells #[(9:Int),A,B] 107)):=(Chg.refl _ _).alloc _
 have hwx:=h.old (Nat.le_refl _)
 have hwr:w.heap.size ≠ rb:=Nat.ne_of_gt h.bx.lt
 clear hb h2
 have HOLD:=hid h
 clear h
 go_enter Tryz.func63,Tryz.ntmps63
 go_wp2_with fail
 refine (HP1.out _ kX).mono ?_
 rintro ex w1 ⟨rfl,V1,d1,e1⟩
 have k1:Chg () w1 (w1.alloc (Obj.cells #[xn,.bool xr] 104)):=(Chg.refl _ _).alloc _
 have n1:=Blk.new w1 #[.int .i64 xn,.bool xr] 104
 have hn1:=d1.old (Nat.le_refl _)
 have hr1:w1.heap.size ≠ rb:=Nat.ne_of_gt d1.bx.lt
 have nX2:=(e1.blk nX hwr hwx).chg k1 (fun q=>q)
 have hwx2:¬ bN (aw V1 D.out) w.heap.size:=fun q=>(e1.nw _ q).elim hwx (fun z=>by have:=nX.lt;omega)
 go_wp2_with fail
 refine (HP2.out _ _ (d1.new k1)).mono ?_
 rintro ex w2 ⟨rfl,V2,d2,e2⟩
 have n2:=e2.blk n1 hr1 hn1
 have nX3:=e2.blk nX2 hwr hwx2
 have k2:Chg () w2 (w2.alloc (Obj.cells #[an,.bool ab] 104)):=(Chg.refl _ _).alloc _
 have n3:=Blk.new w2 #[.int .i64 an,.bool ab] 104
 have d3:=d2.new k2
 have E3:Hid (Ev rb (aw V D.out) w (aw V2 D.out) (w2.alloc (Obj.cells #[an,.bool ab] 104))):=((Ev.new rb _ kX).trans (e1.trans ((Ev.new rb _ k1).trans e2))).trans (Ev.new rb _ k2)
 have y0:(w2.alloc (Obj.cells #[an,.bool ab] 104)).cell? ⟨w1.heap.size,0,none⟩=some (.int .i64 xn):=(n2.chg k2 (fun q=>q)).cell 0
 have y1:(w2.alloc (Obj.cells #[an,.bool ab] 104)).cell? ⟨w1.heap.size,1,none⟩=some (.bool xr):=(n2.chg k2 (fun q=>q)).cell 1
 have x0:(w2.alloc (Obj.cells #[an,.bool ab] 104)).cell? ⟨w2.heap.size,0,none⟩=some (.int .i64 an):=n3.cell 0
 have xB:(w2.alloc (Obj.cells #[an,.bool ab] 104)).cell? ⟨w.heap.size,2,none⟩=some (.int .i64 (B:Int)):=(nX3.chg k2 (fun q=>q)).cell 2
 have hw1:w1.heap.size<=w2.heap.size:=Nat.le_of_lt (by have:=n2.lt;exact this)
 have hVN:∀ r ∈ aw V2 D.out,r.v.ownBlock ≠ some w1.heap.size:=fun r hr q=>(e2.nw _ ⟨r,hr,q⟩).elim hn1 (fun z=>by simp at z;omega)
 have D3:=hid d3
 have HVN:=hid hVN
 clear k1 n1 n2 n3 d1 d2 e1 e2 hn1 hr1 nX nX2 nX3 hwx hwx2 hwr kX hVN
 rcases hv with rfl | ⟨e,rfl,he1,he2,he3⟩
 ·have HE:Hid (Calls Tryz.prog 85 #[.pointer rb,(3:Int)] (w2.alloc (Obj.cells #[oO,.bool ab] 104)) fun e w'=>e=.returned (.tuple #[])/\aG W1 w rb tv fv V D.out { D with top:=ax (ax D.top),status:=3 } w'):=(fJ d3 3 (by decide)).mono fun e w' ⟨h1,V',h2,h3⟩=>⟨h1,V',h2,E3.out.trans h3⟩
  clear d3
  go_wp2_with fail
  refine (Calls.mono HE.out ?_)
  rintro ex w4 ⟨rfl,hfin⟩
  have FIN:Hid _:=hfin
  clear hfin y0 y1 x0 xB
  go_wp2
  exact bodyPost_ret (v:=.tuple #[]) (by simp [results,Tryz.results63]) rfl ⟨rfl,FIN.out⟩
 ·have hq:((e:Int)+1 == 0)=false:=by rw [beq_eq_false_iff_ne];omega
  obtain ⟨g,cap,u,q1,q2,q3,q4⟩:=d3.rc_at (k:=e) he1
  obtain ⟨g2,cap2,q5,q6,q7,q8,q9,q10,gcs2,gb2⟩:=q4.form (by show 0 < (D.recs.getD e []).length;omega)
  have x6:(w2.alloc (Obj.cells #[((e:Int)+1:Int),.bool ab] 104)).cell? ⟨rb,6,none⟩=some (.slice g D.recs.length cap):=by rw [<-q1];exact d3.bx.cell 6
  obtain ⟨z0,z1⟩:=q10 B he2
  have zf0:=gb2.frozen (B * 2)
  have zf1:=gb2.frozen (B * 2+1)
  have fin:=d3.setrec he1 he2 (xn,xr) ⟨g,q1,q3⟩ q5
  subst q5
  have hee:(e:Int) < (D.recs.length:Int):=by omega
  have hBB:(B:Int) < ((D.recs.getD e []).length:Int):=by omega
  have FIN0:Hid (aG W1 w rb tv fv V D.out { D with top:=ax (ax D.top),recs:=D.recs.set e ((D.recs.getD e []).set B (xn,xr)) } (((w2.alloc (Obj.cells #[((e:Int)+1:Int),.bool ab] 104)).setCell ⟨g2,B * 2,none⟩ xn).setCell ⟨g2,B * 2+1,none⟩ (.bool xr))):=by
   obtain ⟨V',f1,f2⟩:=fin
   exact ⟨V',f1,E3.out.trans f2⟩
  clear d3 q1 q4 q10 gb2 fin
  simp only at q3 z0 z1
  generalize hrl:D.recs.getD e []=rl at *
  have HRL:=hid hrl
  clear hrl
  go_wp2_with fail
  generalize w2.alloc (Obj.cells #[((e:Int)+1:Int),.bool ab] 104)=w3 at *
  go_region
  have FIN:Hid (aG W1 w rb tv fv V D.out { D with top:=ax (ax D.top),recs:=D.recs.set e (rl.set B (xn,xr)) } ((w3.setCell ⟨g2,B * 2,none⟩ xn).setCell ⟨g2,B * 2+1,none⟩ (.bool xr)).drew):=by
   obtain ⟨V',f1,f2⟩:=FIN0.out
   exact ⟨V',f1.drew,f2.drew⟩
  clear FIN0 y0 y1 x0 xB x6 q3 z0 z1 zf0 zf1
  generalize ((w3.setCell ⟨g2,B * 2,none⟩ xn).setCell ⟨g2,B * 2+1,none⟩ (.bool xr)).drew=w9 at *
  go_wp2
  refine bodyPost_end (v:=.tuple #[]) (by simp [results,Tryz.results63]) rfl ⟨rfl,?_⟩
  have hre:D.recs[e]'he1=rl:=by rw [<-HRL.out,List.getD_eq_getElem?_getD,List.getElem?_eq_getElem he1];rfl
  rw [hre]
  exact FIN.out
end
end Go.Proofs.YtnfnbcbadakofaaGreat
namespace Go.Proofs.YtnfnbcbadakofaaGreat
open Go.RowKit
theorem qu:∃ i:TypeInfo,Tryz.prog.info? 74=some i/\i.zero=some (.agg #[()])/\i.size=1/\i.bytes=24:=cO (by kernel_rfl)
section
variable {W1 w w':World} {rb:Nat} {tv fv:Value} {D:Dn} {V:DV}
set_option maxHeartbeats 4000000 in
set_option maxRecDepth 100000 in
theorem sT (h:DI W1 w rb tv fv D V) (hb:DB D) {b2:Nat} {ls:List (List Int)} (hT:ai W1 b2 tv ls) (A:Nat) (B:Int) (hA:A < ls.length) (hls:ls.length<=100) (hfl:(ls.getD A []).length<=100) (hst:(ls.getD A []).length<=D.top.stack.length) {G:Nat->Prop} (ok:i9 D G) (hh:0<=D.heap/\D.heap<=4000) :
 Calls Tryz.prog 63 #[.pointer rb,.agg #[(7:Int),((A:Int)+1:Int),B]] w fun e w'=>e=.returned (.tuple #[]) /\
  aG W1 w rb tv fv V D.out (if D.heap < (bk D:Int)+1+((ls.getD A []).length:Int) then { D with status:=4 } else { D with recs:=D.recs++[D.top.stack.drop (D.top.stack.length - (ls.getD A []).length)],top:={ D.top with stack:=D.top.stack.take (D.top.stack.length - (ls.getD A []).length)++[((D.recs.length:Int)+1,true)] } }) w':=by
 have kX:Chg () w (w.alloc (Obj.cells #[(7:Int),((A:Int)+1:Int),B] 107)):=(Chg.refl _ _).alloc _
 have nX:=Blk.new w #[.int .i64 7,.int .i64 ((A:Int)+1),.int .i64 B] 107
 obtain ⟨tg,tcap,tu,htv,htl,tc,tI⟩:=hT.cell A hA
 obtain ⟨ta,tcc,rfl⟩:=tI.slice
 have h1:=h.new kX
 have x0:(w.alloc (Obj.cells #[(7:Int),((A:Int)+1:Int),B] 107)).cell? ⟨rb,0,none⟩=some (.slice tg ls.length tcap):=by rw [<-htv];exact h1.bx.cell 0
 have x2:(w.alloc (Obj.cells #[(7:Int),((A:Int)+1:Int),B] 107)).cell? ⟨tg,A,none⟩=some (.slice ta (ls.getD A []).length tcc):=h1.ch.cellF tc
 have xA:(w.alloc (Obj.cells #[(7:Int),((A:Int)+1:Int),B] 107)).cell? ⟨w.heap.size,1,none⟩=some (.int .i64 ((A:Int)+1)):=nX.cell 1
 have HLV:Hid (∀ w1,Chg () w w1->Calls Tryz.prog 7 #[.pointer rb] w1 fun e w'=>e=.returned (.int .i64 (bk D:Int))/\Chg () w1 w'):=fun w1 k=>gj (h.new k) ok
 have HX2:Hid (∀ w1,Chg () w w1->w1.cell? ⟨rb,2,none⟩=some (.int .i64 D.heap)):=fun w1 k=>(h.new k).bx.cell 2
 have HP:Hid (∀ (w1:World),Chg () w w1->Calls Tryz.prog 86 #[.pointer rb,((ls.getD A []).length:Int)] w1 (jX W1 w1 rb tv fv V D (ls.getD A []).length)):=fun w1 k=>gC (h.new k) hb.st hb.bl hb.sl _ hst
 have HE:Hid (∀ w1,Chg () w w1->Calls Tryz.prog 85 #[.pointer rb,(4:Int)] w1 fun e w'=>e=.returned (.tuple #[])/\aG W1 w rb tv fv V D.out { D with status:=4 } w'):=fun w1 k=>(fJ (h.new k) 4 (by decide)).mono fun e w' ⟨h1,V',h2,h3⟩=>⟨h1,V',h2,(Ev.new rb _ k).trans h3⟩
 have HPU:Hid (∀ (w:World) (V:DV) (l:List (Int × Bool)) (rs:List (List (Int × Bool))) (n:Int),l.length<=1000->DI W1 w rb tv fv { D with recs:=rs,top:={ D.top with stack:=l } } V->Calls Tryz.prog 57 #[.pointer rb,n,.bool true] w fun e w'=>e=.returned (.tuple #[])/\aG W1 w rb tv fv V D.out { D with recs:=rs,top:={ D.top with stack:=l++[(n,true)] } } w'):=fun w V l rs n hl h=>bS h hb.st n true hb.bl hl
 have hlv:=ok.lv
 have hrl:=ok.rl
 have hsl:=hb.sl
 have H:=hid h
 have HST:Hid (D.status=0 \/ D.status=2):=hb.st
 have hA':(A:Int) < (ls.length:Int):=by omega
 generalize hk:(ls.getD A []).length=k at *
 generalize hLV:bk D=LV at *
 clear h h1 hb hT ok tc tI htv hk hLV
 go_enter Tryz.func63,Tryz.ntmps63
 go_wp2_with fail
 go_quiet (fail)
 go_wp2_with fail
 refine (HLV.out _ (kX.drewN nq)).mono ?_
 rintro ex w2 ⟨rfl,k2⟩
 have K2:Hid (Chg () w w2):=(kX.drewN nq).trans k2
 have y2:=HX2.out _ K2.out
 clear x0 x2 xA k2 kX nX
 by_cases hf:D.heap < (LV:Int)+1+(k:Int)
 ·go_wp2_with fail
  refine (HE.out _ K2.out).mono ?_
  rintro ex w3 ⟨rfl,hfin⟩
  have FIN:Hid _:=hfin
  clear hfin y2
  go_wp2
  exact bodyPost_ret (v:=.tuple #[]) (by simp [results,Tryz.results63]) rfl ⟨rfl,FIN.out⟩
 ·have hf':(LV:Int)+1+(k:Int)<=D.heap:=by omega
  go_wp2_with fail
  refine (HP.out _ K2.out).mono ?_
  rintro ex w3 ⟨u,V3,rfl,hu,d3,e3,hbk⟩
  obtain ⟨ua,uc,rfl⟩:=hu.slice
  have O3:Hid (OE W1.heap.size rb w (aw V D.out) w3 (vrw (.slice ua (D.top.stack.drop (D.top.stack.length - k)).length uc) (D.top.stack.drop (D.top.stack.length - k))::aw V3 D.out)):=by
   have hz:=K2.out.size
   refine OE.adopt (r':=vrw (.slice ua (D.top.stack.drop (D.top.stack.length - k)).length uc) (D.top.stack.drop (D.top.stack.length - k))) ⟨d3.ow,(Ev.new rb _ K2.out).trans e3,d3.nrb,d3.bx.lt⟩ (am hu (Nat.le_trans H.out.ch.size hz)) (fun g q=>?_)
   have hg:=cy hu q
   have hrb:=H.out.bx.lt
   exact ⟨by omega,by omega,fun z=>by have:=(H.out.ow.lt (hbk g z)).2;omega⟩
  have HB3:=hid (d3.bx)
  obtain ⟨ra,rc,hrv⟩:∃ a c,V3.rv=.slice a D.recs.length c:=by
   have hrr:w3.ownsRow W1.heap.size 74 1 V3.rv V3.rs.length (V3.rs.map (·.2)):=d3.ow.ok (rrw V3) (by simp [aw])
   have hrl':V3.rs.length=D.recs.length:=by rw [<-d3.re.symm.symm,List.length_map]
   rcases hrr.2 with ⟨q,q0⟩ | ⟨g,c,_,q,_⟩
   ·exact ⟨none,0,by rw [q,<-hrl',q0]⟩
   ·exact ⟨_,c,by rw [q,hrl']⟩
  have HRV:=hid hrv
  have HRL:Hid (V3.rs.length=D.recs.length):=by
   show V3.rs.length=_
   rw [<-List.length_map (f:=(·.1)),d3.re]
  have HRE:=hid (d3.re)
  have HFE:=hid (d3.fe)
  have HR3:Hid (w3.ownsRow W1.heap.size 74 1 (.slice ra D.recs.length rc) D.recs.length (V3.rs.map (·.2))):=by
   have:=d3.ow.ok (rrw V3) (by simp [aw])
   unfold rrw at this
   simp only [hrv,HRL.out] at this
   exact this
  have y6:w3.cell? ⟨rb,6,none⟩=some (.slice ra D.recs.length rc):=by rw [<-hrv];exact d3.bx.cell 6
  have hW3:=d3.ch.size
  have hdl:(D.top.stack.take (D.top.stack.length - k)).length<=1000:=by rw [List.length_take];omega
  generalize hde:D.top.stack.drop (D.top.stack.length - k)=dl at *
  have HDE:=hid hde
  generalize hte:D.top.stack.take (D.top.stack.length - k)=tl at *
  have HTE:=hid hte
  clear hu d3 e3 hbk y2 hrv hde hte
  obtain ⟨i,hi1,hi2,hi3,hi4⟩:=qu
  have Hi1:Hid _:=hi1
  have Hi2:Hid _:=hi2
  have Hi3:Hid _:=hi3
  have Hi4:Hid _:=hi4
  clear hi1 hi2 hi3 hi4
  have k5:Chg () w3 (w3.alloc (Obj.cells #[.slice ua dl.length uc] 74)):=(Chg.refl _ _).alloc _
  have K5:=hid k5
  have HR5:Hid ((w3.alloc (Obj.cells #[.slice ua dl.length uc] 74)).ownsRow W1.heap.size 74 1 (.slice ra D.recs.length rc) D.recs.length (V3.rs.map (·.2))):=af HR3.out k5 (fun _ _ q=>q)
  have HN5:Hid (∀ j u,[Value.slice ua dl.length uc][j]?=some u->(w3.alloc (Obj.cells #[.slice ua dl.length uc] 74)).cell? ((⟨w3.heap.size,0,none⟩:Addr).add j)=some u):=World.news_of_block (B:=w3.heap.size) (cs:=#[.slice ua dl.length uc]) (Blk.new' rfl _ 74)
  clear k5
  go_wp2_with (at_builtin;refine wpList_append_lies _ rfl _ _ 51 rfl W1.heap.size 74 i (.agg #[()]) 1 24 Tryz.underlying51 Hi1.out Hi2.out Hi3.out Hi4.out rfl (by decide) (.slice ra D.recs.length rc) D.recs.length (V3.rs.map (·.2)) rfl HR5.out ⟨w3.heap.size,0,none⟩ 1 1 [.slice ua dl.length uc] rfl rfl HN5.out (by intro u hu;simp only [List.mem_cons,List.not_mem_nil,or_false] at hu;subst hu;rfl) (by decide) (by unfold maxLen;omega) (by omega) (by simp;omega) _ rfl ?_)
  intro g6 cap6 w6 hown6 hgrow hat hlt6
  have hch6:Chg (fun j=>some j=(Value.slice ra D.recs.length rc).ownBlock) (w3.alloc (Obj.cells #[.slice ua dl.length uc] 74)) w6:=(aM hgrow).mono (fun _ _ q=>q)
  have hB6:=(HB3.out.chg K5.out (fun q=>q)).chg hch6 (fun q=>ao HR5.out (HB3.out.chg K5.out (fun q=>q)) (by decide) q.symm)
  have y6':w6.cell? ⟨rb,6,none⟩=some (.slice ra D.recs.length rc):=by rw [<-HRV.out];exact hB6.cell 6
  have f6':=hB6.frozen 6
  have DN:Hid (aG W1 w rb tv fv V D.out { D with recs:=D.recs++[dl],top:={ D.top with stack:=tl } } (w6.setCell ⟨rb,6,none⟩ (.slice g6 (D.recs.length+1) cap6))):=by
   have o5:OE W1.heap.size rb w (aw V D.out) (w3.alloc (Obj.cells #[.slice ua dl.length uc] 74)) (rrw V3::vrw (.slice ua dl.length uc) dl::frw V3::orw V3 D.out::(fsr V3.fs++rsr V3.rs)):=(O3.out.new K5.out).perm (((List.Perm.swap _ _ _).cons _).trans (List.Perm.swap _ _ _))
   obtain ⟨V',hV'⟩:∃ V':DV,V' = { V3 with rv:=.slice g6 (D.recs.length+1) cap6,rs:=V3.rs++[(dl,.slice ua dl.length uc)] }:=⟨_,rfl⟩
   have o6:OE W1.heap.size rb w (aw V D.out) w6 (rrw V'::vrw (.slice ua dl.length uc) dl::frw V3::orw V3 D.out::(fsr V3.fs++rsr V3.rs)):=by
    refine o5.upd (r':=rrw V') hch6 (fun j q=>.inr ?_) ?_ ?_
    ·show V3.rv.ownBlock=_;rw [HRV.out];exact q.symm
    ·rw [hV'];unfold rrw
     simp only [List.length_append,List.length_singleton,HRL.out,List.map_append,List.map_cons,List.map_nil]
     exact hown6
    ·rcases hat with q | q
     ·exact .inl (by rw [hV'];show _=V3.rv.ownBlock;rw [HRV.out,q];rfl)
     ·exact .inr ⟨g6,by rw [hV'];rfl,by rw [q];simp⟩
   have o7:=o6.box (w':=w6.setCell ⟨rb,6,none⟩ (.slice g6 (D.recs.length+1) cap6)) (Chg.setCell (S:=fun j=>j=rb) (Chg.refl _ _) _ _ (.inl rfl))
   refine H.out.fin (D':={ D with recs:=D.recs++[dl],top:={ D.top with stack:=tl } }) (V':=V') o7 ?_ ?_ ?_ ?_
   ·have e1:aw V' D.out=(frw V3::rrw V'::orw V3 D.out::(fsr V3.fs++rsr V3.rs))++vrw (.slice ua dl.length uc) dl::[]:=by rw [hV'];simp [aw,rsr,frw,orw]
    show List.Perm _ (aw V' D.out)
    rw [e1]
    refine List.Perm.trans ?_ List.perm_middle.symm
    rw [List.append_nil]
    refine (List.Perm.swap _ _ _).trans (List.Perm.cons _ ?_)
    exact List.Perm.swap _ _ _
   ·have:=hB6.set 6 (.slice g6 (D.recs.length+1) cap6)
    rw [hV']
    exact this
   ·rw [hV'];exact HFE.out
   ·rw [hV'];simp only [List.map_append,HRE.out,List.map_cons,List.map_nil]
  have y7:(w6.setCell ⟨rb,6,none⟩ (.slice g6 (D.recs.length+1) cap6)).cell? ⟨rb,6,none⟩=some (.slice g6 (D.recs.length+1) cap6):=(hB6.set 6 _).cell 6
  clear hown6 hgrow hat hlt6 hch6 hB6
  obtain ⟨V7,d7,e7⟩:=DN.out
  have D7:=hid d7
  have E7:=hid e7
  clear d7 e7 DN
  go_wp2_with fail
  refine (HPU.out _ _ _ _ _ hdl D7.out).mono ?_
  rintro ex w8 ⟨rfl,V8,d8,e8⟩
  have FIN:Hid (aG W1 w rb tv fv V D.out { D with recs:=D.recs++[dl],top:={ D.top with stack:=tl++[((D.recs.length:Int)+1,true)] } } w8):=⟨V8,d8,E7.out.trans e8⟩
  clear d8 e8 y6' f6' y7 y6
  go_wp2
  refine bodyPost_end (v:=.tuple #[]) (by simp [results,Tryz.results63]) rfl ⟨rfl,?_⟩
  rw [HDE.out,HTE.out]
  exact FIN.out
end
end Go.Proofs.YtnfnbcbadakofaaGreat
namespace Go.Proofs.YtnfnbcbadakofaaGreat
open Go.RowKit
section
variable {W1 w w':World} {rb:Nat} {tv fv:Value} {D:Dn} {V:DV}
theorem DI.pcset (h:DI W1 w rb tv fv D V) (hs:D.status=0 \/ D.status=2) {xs:List (DFr × Value × Value)} {lv kv:Value} {g cap:Nat} (e:V.fs=xs++[(D.top,lv,kv)]) (hg:V.fv=.slice g (xs.length+1) cap) (p:Int) :
 aG W1 w rb tv fv V D.out { D with top:={ D.top with pc:=p } } (w.setCell ⟨g,xs.length * 4+1,none⟩ p):=by
 have hlen:V.fs.length=xs.length+1:=by rw [e];simp
 have o:=pq (V':={ V with fs:=xs++[({ D.top with pc:=p },lv,kv)] }) (i:=xs.length * 4+1) (u:=.int .i64 p) h (by rw [hlen];exact hg) h.oe (by rw [hlen];omega) rfl (by simp [hlen]) (by
  rw [e,dy,dy,List.set_append_right _ _ (by rw [dE];omega),dE,show xs.length * 4+1 - xs.length * 4=1 by omega];rfl)
 refine h.fin (V':={ V with fs:=xs++[({ D.top with pc:=p },lv,kv)] }) o ?_ (h.bx.setOther _ _ (h.fv_blk hg).1) (h.fe_top hs e rfl rfl rfl) h.re
 refine List.Perm.cons _ (List.Perm.cons _ (List.Perm.cons _ ?_))
 rw [e]
 simp [fsr]
theorem DI.locset (h:DI W1 w rb tv fv D V) (hs:D.status=0 \/ D.status=2) {xs:List (DFr × Value × Value)} {kv:Value} {gl cl:Nat} (e:V.fs=xs++[(D.top,.slice gl D.top.locals.length cl,kv)]) {A:Nat} (hA:A < D.top.locals.length) (x:Int × Bool) :
 aG W1 w rb tv fv V D.out { D with top:={ D.top with locals:=D.top.locals.set A x } } ((w.setCell ⟨gl,A * 2,none⟩ x.1).setCell ⟨gl,A * 2+1,none⟩ (.bool x.2)):=by
 have p1:(aw V D.out).Perm (vrw (.slice gl D.top.locals.length cl) D.top.locals::frw V::rrw V::orw V D.out::(fsr xs++vrw kv D.top.stack::rsr V.rs)):=by
  have:aw V D.out=(frw V::rrw V::orw V D.out::fsr xs)++vrw (.slice gl D.top.locals.length cl) D.top.locals::vrw kv D.top.stack::rsr V.rs:=by simp [aw,e,fsr]
  rw [this]
  refine List.perm_middle.trans ?_
  simp
 have o1:=h.oe.perm p1
 have hr:=o1.ow.ok _ (List.mem_cons_self ..)
 have hr2:=a8 (a8 hr (A * 2) (by show _ < D.top.locals.length * 2;omega) (.int .i64 x.1)) (A * 2+1) (by show _ < D.top.locals.length * 2;omega) (.bool x.2)
 have kk:Chg (fun j=>j=gl) w ((w.setCell ⟨gl,A * 2,none⟩ x.1).setCell ⟨gl,A * 2+1,none⟩ (.bool x.2)):=Chg.setCell (S:=fun j=>j=gl) (Chg.setCell (S:=fun j=>j=gl) (Chg.refl _ _) _ _ (.inl rfl)) _ _ (.inl rfl)
 have o2:=o1.upd (r':=vrw (.slice gl D.top.locals.length cl) (D.top.locals.set A x)) kk (fun j q=>.inr (by rw [q];rfl)) (by
  show World.ownsRow _ _ _ _ _ (D.top.locals.set A x).length (vlC (D.top.locals.set A x))
  rw [<-lr D.top.locals A hA,List.length_set];exact hr2) (.inl rfl)
 have hgr:rb ≠ gl:=fun q=>h.nrb ((ck p1).2 ⟨_,List.mem_cons_self ..,by rw [q];rfl⟩)
 refine h.fin (V':={ V with fs:=xs++[({ D.top with locals:=D.top.locals.set A x },.slice gl D.top.locals.length cl,kv)] }) o2 ?_ (h.bx.chg kk hgr) (h.fe_top hs e rfl rfl rfl) h.re
 have e3:frw { V with fs:=xs++[({ D.top with locals:=D.top.locals.set A x },.slice gl D.top.locals.length cl,kv)] } = frw V:=by unfold frw;rw [e];simp [dfC]
 have:aw { V with fs:=xs++[({ D.top with locals:=D.top.locals.set A x },.slice gl D.top.locals.length cl,kv)] } D.out=(frw V::rrw V::orw V D.out::fsr xs)++vrw (.slice gl D.top.locals.length cl) (D.top.locals.set A x)::vrw kv D.top.stack::rsr V.rs:=by
  unfold aw;rw [e3];simp [fsr,rrw,orw]
 show List.Perm _ (aw { V with fs:=xs++[({ D.top with locals:=D.top.locals.set A x },.slice gl D.top.locals.length cl,kv)] } D.out)
 rw [this]
 refine List.Perm.trans ?_ List.perm_middle.symm
 simp
theorem DI.outset (h:DI W1 w rb tv fv D V) {nv:Value} {l:List Int} (k:Chg (fun j=>some j=V.ov.ownBlock) w w') (ho:ad w' W1.heap.size nv l) (hl:bD w V.ov nv):aG W1 w rb tv fv V D.out { D with out:=l } (w'.setCell ⟨rb,7,none⟩ nv):=by
 have p:(aw V D.out).Perm (orw V D.out::frw V::rrw V::(fsr V.fs++rsr V.rs)):=((List.Perm.swap _ _ _).cons _).trans (List.Perm.swap _ _ _)
 have o1:=(h.oe.perm p).upd (r':=orw { V with ov:=nv } l) k (fun j q=>.inr q.symm) ho hl
 have o2:=o1.box (w':=w'.setCell ⟨rb,7,none⟩ nv) (Chg.setCell (S:=fun j=>j=rb) (Chg.refl _ _) _ _ (.inl rfl))
 refine h.fin (D':={ D with out:=l }) (V':={ V with ov:=nv }) o2 ?_ ?_ h.fe h.re
 ·exact (List.Perm.swap _ _ _).trans ((List.Perm.swap _ _ _).cons _)
 ·have:=(h.bx.chg k (fun q=>h.nrb ⟨orw V D.out,by simp [aw],q.symm⟩)).set 7 nv
  exact this
theorem DI.useset (h:DI W1 w rb tv fv D V) (n:Nat):aG W1 w rb tv fv V D.out { D with used:=n } (w.setCell ⟨rb,8,none⟩ n):=by
 refine h.fin (D':={ D with used:=n }) (V':=V) (h.oe.box (Chg.setCell (S:=fun j=>j=rb) (Chg.refl _ _) _ _ (.inl rfl))) (.refl _) ?_ h.fe h.re
 have:=h.bx.set 8 (.int .i64 (n:Int))
 exact this
end
end Go.Proofs.YtnfnbcbadakofaaGreat
