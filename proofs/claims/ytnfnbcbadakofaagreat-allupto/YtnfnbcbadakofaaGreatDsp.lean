import Derived.Test.YtnfnbcbadakofaaGreatDsu
namespace Go.Proofs.YtnfnbcbadakofaaGreat
open Go.RowKit
set_option maxHeartbeats 4000000
set_option maxRecDepth 100000
structure tY (c:Cx) (inp:List Int) (x:Int × Int × Int) (D:Dn):Prop where
 st:D.status=0
 bl:D.below.length<=1000
 sl:D.top.stack.length<=1000
 ll:D.top.locals.length<=1000
 bs:∀ f ∈ D.below,f.stack.length<=1000
 op:0<=x.1/\x.1<=18
 pc:0<=D.top.pc/\D.top.pc<=1000
 n1:x.1=1 \/ x.1=2 \/ x.1=3 \/ x.1=4->2<=D.top.stack.length/\(0<=(au D.top.stack.dropLast).1/\(au D.top.stack.dropLast).1 < 65536)/\0<=(au D.top.stack).1/\(au D.top.stack).1 < 65536
 s1:x.1=6 \/ x.1=8 \/ x.1=11 \/ x.1=14 \/ x.1=16 \/ x.1=17->0 < D.top.stack.length
 s2:x.1=9 \/ x.1=12->2<=D.top.stack.length
 lo:x.1=5 \/ x.1=6->∃ A:Nat,x.2.1=(A:Int)/\A < D.top.locals.length
 nw:x.1=7->∃ A:Nat,x.2.1=(A:Int)+1/\A < c.ls.length/\(flds c.ls x.2.1)=c.ls.getD A []/\(c.ls.getD A []).length<=D.top.stack.length/\(c.ls.getD A []).length<=100
 g8:x.1=8->∃ B:Nat,x.2.2=(B:Int)/\((au D.top.stack).1=0 \/ ∃ e:Nat,(au D.top.stack).1=(e:Int)+1/\e < D.recs.length/\B < (D.recs.getD e []).length/\(D.recs.getD e []).length<=1000)
 g9:x.1=9->∃ B:Nat,x.2.2=(B:Int)/\((au D.top.stack.dropLast).1=0 \/ ∃ e:Nat,(au D.top.stack.dropLast).1=(e:Int)+1/\e < D.recs.length/\B < (D.recs.getD e []).length/\(D.recs.getD e []).length<=1000)
 ca:x.1=15->∃ (gi na:Nat) (h:gi < c.fs.length),x.2.1=(gi:Int)/\c.fs[gi].args=(na:Int)/\na<=c.fs[gi].locals.length/\c.fs[gi].locals.length<=100/\na<=D.top.stack.length/\(aP c.fs x.2.1).length=na/\aq c.fs x.2.1=c.fs[gi]
 rd:x.1=18->D.used < inp.length
 ol:D.out.length<=100000
 ul:D.used<=100000
 ls:c.ls.length<=100
 hp:0<=D.heap/\D.heap<=4000
 rl:D.recs.length<=1000000000000
 lv:∃ G,i9 D G
section
variable {W1 w w':World} {rb:Nat} {tv fv:Value} {D:Dn} {V:DV}
theorem aY (h:DI W1 w rb tv fv D V) (hs:D.status=0 \/ D.status=2) (op A B:Int):∃ (m g cap:Nat) (V1:DV),m=D.below.length/\Chg () w (w.alloc (Obj.cells #[op,A,B] 107)) /\
 (w.alloc (Obj.cells #[op,A,B] 107)).cell? ⟨rb,5,none⟩=some (.slice g (m+1) cap) /\
 (w.alloc (Obj.cells #[op,A,B] 107)).cell? ⟨g,m * 4+1,none⟩=some (.int .i64 D.top.pc) /\
 (w.alloc (Obj.cells #[op,A,B] 107)).frozen? ⟨g,m * 4+1,none⟩=false /\
 Blk ((w.alloc (Obj.cells #[op,A,B] 107)).setCell ⟨g,m * 4+1,none⟩ (D.top.pc+1:Int)) w.heap.size #[op,A,B] 107 /\
 DI W1 ((w.alloc (Obj.cells #[op,A,B] 107)).setCell ⟨g,m * 4+1,none⟩ (D.top.pc+1:Int)) rb tv fv (ap D) V1 /\
 Ev rb (aw V D.out) w (aw V1 D.out) ((w.alloc (Obj.cells #[op,A,B] 107)).setCell ⟨g,m * 4+1,none⟩ (D.top.pc+1:Int))/\g ≠ w.heap.size/\(∀ j,bN (aw V1 D.out) j->j < w.heap.size):=by
 have kX:Chg () w (w.alloc (Obj.cells #[op,A,B] 107)):=(Chg.refl _ _).alloc _
 have nX:=Blk.new w #[.int .i64 op,.int .i64 A,.int .i64 B] 107
 have h1:=h.new kX
 obtain ⟨xs,lv,kv,e,hxs⟩:=h1.top hs
 obtain ⟨g,cap,hg,hg1,hg2,hc1,hc2,c0,c1,c2,c3,fz,gcs,gb⟩:=h1.frs e
 have hxl:xs.length=D.below.length:=by rw [<-hxs,List.length_map]
 obtain ⟨V1,d1,e1⟩:=h1.pcset hs e hg (D.top.pc+1)
 have hgn:g ≠ w.heap.size:=gb.ne nX (by decide)
 refine ⟨xs.length,g,cap,V1,hxl,kX,by rw [<-hg];exact h1.bx.cell 5,c1,fz _,nX.setOther _ _ hgn.symm,d1,(Ev.new rb _ kX).trans e1,hgn,fun j hj=>?_⟩
 rcases e1.nw j hj with q | q
 ·exact (h.ow.lt q).2
 ·have:=(d1.ow.lt hj).2
  simp at q this
  omega
theorem rL (h:DI W1 w rb tv fv D V) (hst:D.status=0) (hbl:D.below.length<=1000) (hpc:0<=D.top.pc/\D.top.pc<=1000) (hsl:D.top.stack.length<=1000) (A B:Int) (ia:Option Addr) (inl ic:Nat) :
 Calls Tryz.prog 34 #[.pointer rb,.agg #[oO,A,B],.slice ia inl ic] w fun e w'=>e=.returned (.tuple #[])/\aG W1 w rb tv fv V D.out { ap D with top:=aD (ap D).top (A,false) } w':=by
 have hs:D.status=0 \/ D.status=2:=.inl hst
 obtain ⟨m,g,cap,V1,hmm,kX,x5,c1,f1,nX,d1,e1,hgn,hbk⟩:=aY h hs 0 A B
 have x0:=nX.cell 0
 have xA:=nX.cell 1
 have xB:=nX.cell 2
 simp only [List.getElem?_toArray,List.getElem?_cons_zero,List.getElem?_cons_succ] at x0 xA xB
 have hix:(m:Int) < (m:Int)+1:=by omega
 have hm:m<=1000:=by omega
 clear hmm
 have D1:=hid d1
 have E1:=hid e1
 have HC:Hid (Calls Tryz.prog 57 #[.pointer rb,A,.bool false] ((w.alloc (Obj.cells #[oO,A,B] 107)).setCell ⟨g,m * 4+1,none⟩ (D.top.pc+1:Int)) fun e w'=>e=.returned (.tuple #[])/\aG W1 w rb tv fv V D.out { ap D with top:=aD (ap D).top (A,false) } w'):=(bS d1 hs A false hbl hsl).mono fun e w' ⟨h1,V',h2,h3⟩=>⟨h1,V',h2,e1.trans h3⟩
 clear h d1 e1 nX kX
 go_enter Tryz.func34,Tryz.ntmps34
 go_wp2_with fail
 refine (aT rb m cap _ _ x5 (by omega)).mono ?_
 rintro ex w' ⟨rfl,hw⟩
 have hw:=hw.symm
 subst hw
 go_wp2_with fail
 refine (Calls.mono HC.out ?_)
 rintro ex w3 ⟨rfl,hfin⟩
 have FIN:Hid _:=hfin
 clear hfin
 go_wp2
 exact bodyPost_end (v:=.tuple #[]) (by simp [results,Tryz.results34]) rfl ⟨rfl,FIN.out⟩
theorem qO (h:DI W1 w rb tv fv D V) (hst:D.status=0) (hbl:D.below.length<=1000) (hpc:0<=D.top.pc/\D.top.pc<=1000) (hsl:D.top.stack.length<=1000) (A B:Int) (h2:2<=D.top.stack.length) (ra:0<=(au D.top.stack.dropLast).1/\(au D.top.stack.dropLast).1 < 65536) (rr:0<=(au D.top.stack).1/\(au D.top.stack).1 < 65536) (ia:Option Addr) (inl ic:Nat) :
 Calls Tryz.prog 34 #[.pointer rb,.agg #[(1:Int),A,B],.slice ia inl ic] w fun e w'=>e=.returned (.tuple #[])/\aG W1 w rb tv fv V D.out { ap D with top:=aD (ax (ax (ap D).top)) (bz 1 (au D.top.stack.dropLast).1 (au D.top.stack).1,false) } w':=by
 have hs:D.status=0 \/ D.status=2:=.inl hst
 obtain ⟨m,g,cap,V1,hmm,kX,x5,c1,f1,nX,d1,e1,hgn,hbk⟩:=aY h hs 1 A B
 have x0:=nX.cell 0
 have xA:=nX.cell 1
 have xB:=nX.cell 2
 simp only [List.getElem?_toArray,List.getElem?_cons_zero,List.getElem?_cons_succ] at x0 xA xB
 have hix:(m:Int) < (m:Int)+1:=by omega
 have hm:m<=1000:=by omega
 clear hmm
 have D1:=hid d1
 have E1:=hid e1
 have HC:Hid (Calls Tryz.prog 58 #[.pointer rb,(1:Int)] ((w.alloc (Obj.cells #[(1:Int),A,B] 107)).setCell ⟨g,m * 4+1,none⟩ (D.top.pc+1:Int)) fun e w'=>e=.returned (.tuple #[])/\aG W1 w rb tv fv V D.out { ap D with top:=aD (ax (ax (ap D).top)) (bz 1 (au D.top.stack.dropLast).1 (au D.top.stack).1,false) } w'):=(dh d1 ⟨hs,hbl,hsl⟩ 1 (by decide) h2 ra rr).mono fun e w' ⟨h1,V',h2,h3⟩=>⟨h1,V',h2,e1.trans h3⟩
 clear h d1 e1 nX kX
 go_enter Tryz.func34,Tryz.ntmps34
 go_wp2_with fail
 refine (aT rb m cap _ _ x5 (by omega)).mono ?_
 rintro ex w' ⟨rfl,hw⟩
 have hw:=hw.symm
 subst hw
 go_wp2_with fail
 refine (Calls.mono HC.out ?_)
 rintro ex w3 ⟨rfl,hfin⟩
 have FIN:Hid _:=hfin
 clear hfin
 go_wp2
 exact bodyPost_end (v:=.tuple #[]) (by simp [results,Tryz.results34]) rfl ⟨rfl,FIN.out⟩
theorem rH (h:DI W1 w rb tv fv D V) (hst:D.status=0) (hbl:D.below.length<=1000) (hpc:0<=D.top.pc/\D.top.pc<=1000) (hsl:D.top.stack.length<=1000) (A B:Int) (h2:2<=D.top.stack.length) (ra:0<=(au D.top.stack.dropLast).1/\(au D.top.stack.dropLast).1 < 65536) (rr:0<=(au D.top.stack).1/\(au D.top.stack).1 < 65536) (ia:Option Addr) (inl ic:Nat) :
 Calls Tryz.prog 34 #[.pointer rb,.agg #[(2:Int),A,B],.slice ia inl ic] w fun e w'=>e=.returned (.tuple #[])/\aG W1 w rb tv fv V D.out { ap D with top:=aD (ax (ax (ap D).top)) (bz 2 (au D.top.stack.dropLast).1 (au D.top.stack).1,false) } w':=by
 have hs:D.status=0 \/ D.status=2:=.inl hst
 obtain ⟨m,g,cap,V1,hmm,kX,x5,c1,f1,nX,d1,e1,hgn,hbk⟩:=aY h hs 2 A B
 have x0:=nX.cell 0
 have xA:=nX.cell 1
 have xB:=nX.cell 2
 simp only [List.getElem?_toArray,List.getElem?_cons_zero,List.getElem?_cons_succ] at x0 xA xB
 have hix:(m:Int) < (m:Int)+1:=by omega
 have hm:m<=1000:=by omega
 clear hmm
 have D1:=hid d1
 have E1:=hid e1
 have HC:Hid (Calls Tryz.prog 58 #[.pointer rb,(2:Int)] ((w.alloc (Obj.cells #[(2:Int),A,B] 107)).setCell ⟨g,m * 4+1,none⟩ (D.top.pc+1:Int)) fun e w'=>e=.returned (.tuple #[])/\aG W1 w rb tv fv V D.out { ap D with top:=aD (ax (ax (ap D).top)) (bz 2 (au D.top.stack.dropLast).1 (au D.top.stack).1,false) } w'):=(dh d1 ⟨hs,hbl,hsl⟩ 2 (by decide) h2 ra rr).mono fun e w' ⟨h1,V',h2,h3⟩=>⟨h1,V',h2,e1.trans h3⟩
 clear h d1 e1 nX kX
 go_enter Tryz.func34,Tryz.ntmps34
 go_wp2_with fail
 refine (aT rb m cap _ _ x5 (by omega)).mono ?_
 rintro ex w' ⟨rfl,hw⟩
 have hw:=hw.symm
 subst hw
 go_wp2_with fail
 refine (Calls.mono HC.out ?_)
 rintro ex w3 ⟨rfl,hfin⟩
 have FIN:Hid _:=hfin
 clear hfin
 go_wp2
 exact bodyPost_end (v:=.tuple #[]) (by simp [results,Tryz.results34]) rfl ⟨rfl,FIN.out⟩
theorem rG (h:DI W1 w rb tv fv D V) (hst:D.status=0) (hbl:D.below.length<=1000) (hpc:0<=D.top.pc/\D.top.pc<=1000) (hsl:D.top.stack.length<=1000) (A B:Int) (h2:2<=D.top.stack.length) (ra:0<=(au D.top.stack.dropLast).1/\(au D.top.stack.dropLast).1 < 65536) (rr:0<=(au D.top.stack).1/\(au D.top.stack).1 < 65536) (ia:Option Addr) (inl ic:Nat) :
 Calls Tryz.prog 34 #[.pointer rb,.agg #[(3:Int),A,B],.slice ia inl ic] w fun e w'=>e=.returned (.tuple #[])/\aG W1 w rb tv fv V D.out { ap D with top:=aD (ax (ax (ap D).top)) (bz 3 (au D.top.stack.dropLast).1 (au D.top.stack).1,false) } w':=by
 have hs:D.status=0 \/ D.status=2:=.inl hst
 obtain ⟨m,g,cap,V1,hmm,kX,x5,c1,f1,nX,d1,e1,hgn,hbk⟩:=aY h hs 3 A B
 have x0:=nX.cell 0
 have xA:=nX.cell 1
 have xB:=nX.cell 2
 simp only [List.getElem?_toArray,List.getElem?_cons_zero,List.getElem?_cons_succ] at x0 xA xB
 have hix:(m:Int) < (m:Int)+1:=by omega
 have hm:m<=1000:=by omega
 clear hmm
 have D1:=hid d1
 have E1:=hid e1
 have HC:Hid (Calls Tryz.prog 58 #[.pointer rb,(3:Int)] ((w.alloc (Obj.cells #[(3:Int),A,B] 107)).setCell ⟨g,m * 4+1,none⟩ (D.top.pc+1:Int)) fun e w'=>e=.returned (.tuple #[])/\aG W1 w rb tv fv V D.out { ap D with top:=aD (ax (ax (ap D).top)) (bz 3 (au D.top.stack.dropLast).1 (au D.top.stack).1,false) } w'):=(dh d1 ⟨hs,hbl,hsl⟩ 3 (by decide) h2 ra rr).mono fun e w' ⟨h1,V',h2,h3⟩=>⟨h1,V',h2,e1.trans h3⟩
 clear h d1 e1 nX kX
 go_enter Tryz.func34,Tryz.ntmps34
 go_wp2_with fail
 refine (aT rb m cap _ _ x5 (by omega)).mono ?_
 rintro ex w' ⟨rfl,hw⟩
 have hw:=hw.symm
 subst hw
 go_wp2_with fail
 refine (Calls.mono HC.out ?_)
 rintro ex w3 ⟨rfl,hfin⟩
 have FIN:Hid _:=hfin
 clear hfin
 go_wp2
 exact bodyPost_end (v:=.tuple #[]) (by simp [results,Tryz.results34]) rfl ⟨rfl,FIN.out⟩
theorem qP (h:DI W1 w rb tv fv D V) (hst:D.status=0) (hbl:D.below.length<=1000) (hpc:0<=D.top.pc/\D.top.pc<=1000) (hsl:D.top.stack.length<=1000) (A B:Int) (h2:2<=D.top.stack.length) (ra:0<=(au D.top.stack.dropLast).1/\(au D.top.stack.dropLast).1 < 65536) (rr:0<=(au D.top.stack).1/\(au D.top.stack).1 < 65536) (ia:Option Addr) (inl ic:Nat) :
 Calls Tryz.prog 34 #[.pointer rb,.agg #[(4:Int),A,B],.slice ia inl ic] w fun e w'=>e=.returned (.tuple #[])/\aG W1 w rb tv fv V D.out { ap D with top:=aD (ax (ax (ap D).top)) (bz 4 (au D.top.stack.dropLast).1 (au D.top.stack).1,false) } w':=by
 have hs:D.status=0 \/ D.status=2:=.inl hst
 obtain ⟨m,g,cap,V1,hmm,kX,x5,c1,f1,nX,d1,e1,hgn,hbk⟩:=aY h hs 4 A B
 have x0:=nX.cell 0
 have xA:=nX.cell 1
 have xB:=nX.cell 2
 simp only [List.getElem?_toArray,List.getElem?_cons_zero,List.getElem?_cons_succ] at x0 xA xB
 have hix:(m:Int) < (m:Int)+1:=by omega
 have hm:m<=1000:=by omega
 clear hmm
 have D1:=hid d1
 have E1:=hid e1
 have HC:Hid (Calls Tryz.prog 58 #[.pointer rb,(4:Int)] ((w.alloc (Obj.cells #[(4:Int),A,B] 107)).setCell ⟨g,m * 4+1,none⟩ (D.top.pc+1:Int)) fun e w'=>e=.returned (.tuple #[])/\aG W1 w rb tv fv V D.out { ap D with top:=aD (ax (ax (ap D).top)) (bz 4 (au D.top.stack.dropLast).1 (au D.top.stack).1,false) } w'):=(dh d1 ⟨hs,hbl,hsl⟩ 4 (by decide) h2 ra rr).mono fun e w' ⟨h1,V',h2,h3⟩=>⟨h1,V',h2,e1.trans h3⟩
 clear h d1 e1 nX kX
 go_enter Tryz.func34,Tryz.ntmps34
 go_wp2_with fail
 refine (aT rb m cap _ _ x5 (by omega)).mono ?_
 rintro ex w' ⟨rfl,hw⟩
 have hw:=hw.symm
 subst hw
 go_wp2_with fail
 refine (Calls.mono HC.out ?_)
 rintro ex w3 ⟨rfl,hfin⟩
 have FIN:Hid _:=hfin
 clear hfin
 go_wp2
 exact bodyPost_end (v:=.tuple #[]) (by simp [results,Tryz.results34]) rfl ⟨rfl,FIN.out⟩
theorem od (h:DI W1 w rb tv fv D V) (hst:D.status=0) (hbl:D.below.length<=1000) (hpc:0<=D.top.pc/\D.top.pc<=1000) (hsl:D.top.stack.length<=1000) {b1:Nat} {fs:List Fn} (hF:aj 93 107 W1 b1 fv fs) (gi:Nat) (B:Int) (hgi:gi < fs.length) (na:Nat) (hna:fs[gi].args=(na:Int)) (hal:na<=fs[gi].locals.length) (hll:fs[gi].locals.length<=100) (hna2:na<=D.top.stack.length) (P:Dn) (hP:(if D.depth<=(D.below.length:Int)+1 then { ap D with status:=5 } else { ap D with below:=D.below++[{ (ap D).top with stack:=D.top.stack.take (D.top.stack.length - na) }],top:=⟨gi,0,D.top.stack.drop (D.top.stack.length - na)++cz fs[gi].locals na,[]⟩ })=P) (ia:Option Addr) (inl ic:Nat) :
 Calls Tryz.prog 34 #[.pointer rb,.agg #[(15:Int),gi,B],.slice ia inl ic] w fun e w'=>e=.returned (.tuple #[])/\aG W1 w rb tv fv V D.out P w':=by
 have hs:D.status=0 \/ D.status=2:=.inl hst
 obtain ⟨m,g,cap,V1,hmm,kX,x5,c1,f1,nX,d1,e1,hgn,hbk⟩:=aY h hs 15 (gi:Int) B
 have x0:=nX.cell 0
 have xA:=nX.cell 1
 have xB:=nX.cell 2
 simp only [List.getElem?_toArray,List.getElem?_cons_zero,List.getElem?_cons_succ] at x0 xA xB
 have hix:(m:Int) < (m:Int)+1:=by omega
 have hm:m<=1000:=by omega
 clear hmm
 have D1:=hid d1
 have E1:=hid e1
 have hc:Calls Tryz.prog 60 #[.pointer rb,gi] ((w.alloc (Obj.cells #[(15:Int),gi,B] 107)).setCell ⟨g,m * 4+1,none⟩ (D.top.pc+1:Int)) fun e w'=>e=.returned (.tuple #[])/\aG W1 w rb tv fv V D.out P w':=by
  rw [<-hP]
  exact (ni d1 ⟨hs,hbl,hsl⟩ hF gi hgi na hna hal hll hna2).mono fun e w' ⟨h1,V',h2,h3⟩=>⟨h1,V',h2,e1.trans h3⟩
 have HC:=hid hc
 clear hc
 clear h d1 e1 nX kX
 go_enter Tryz.func34,Tryz.ntmps34
 go_wp2_with fail
 refine (aT rb m cap _ _ x5 (by omega)).mono ?_
 rintro ex w' ⟨rfl,hw⟩
 have hw:=hw.symm
 subst hw
 clear hP hna hal hll
 go_wp2_with fail
 refine (Calls.mono HC.out ?_)
 rintro ex w3 ⟨rfl,hfin⟩
 have FIN:Hid _:=hfin
 clear hfin
 go_wp2
 exact bodyPost_end (v:=.tuple #[]) (by simp [results,Tryz.results34]) rfl ⟨rfl,FIN.out⟩
theorem pJ (h:DI W1 w rb tv fv D V) (hst:D.status=0) (hbl:D.below.length<=1000) (hpc:0<=D.top.pc/\D.top.pc<=1000) (hsl:D.top.stack.length<=1000) (A B:Int) (h0:0 < D.top.stack.length) (hbs:∀ f ∈ D.below,f.stack.length<=1000) (ho:D.out.length<=100000) (ia:Option Addr) (inl ic:Nat) :
 Calls Tryz.prog 34 #[.pointer rb,.agg #[(16:Int),A,B],.slice ia inl ic] w fun e w'=>e=.returned (.tuple #[])/\aG W1 w rb tv fv V D.out (dc (ap D)) w':=by
 have hs:D.status=0 \/ D.status=2:=.inl hst
 obtain ⟨m,g,cap,V1,hmm,kX,x5,c1,f1,nX,d1,e1,hgn,hbk⟩:=aY h hs 16 A B
 have x0:=nX.cell 0
 have xA:=nX.cell 1
 have xB:=nX.cell 2
 simp only [List.getElem?_toArray,List.getElem?_cons_zero,List.getElem?_cons_succ] at x0 xA xB
 have hix:(m:Int) < (m:Int)+1:=by omega
 have hm:m<=1000:=by omega
 clear hmm
 have D1:=hid d1
 have E1:=hid e1
 have HC:Hid (Calls Tryz.prog 61 #[.pointer rb] ((w.alloc (Obj.cells #[(16:Int),A,B] 107)).setCell ⟨g,m * 4+1,none⟩ (D.top.pc+1:Int)) fun e w'=>e=.returned (.tuple #[])/\aG W1 w rb tv fv V D.out (dc (ap D)) w'):=(oP d1 ⟨hs,hbl,hsl⟩ h0 hbs ho).mono fun e w' ⟨h1,V',h2,h3⟩=>⟨h1,V',h2,e1.trans h3⟩
 clear h d1 e1 nX kX
 go_enter Tryz.func34,Tryz.ntmps34
 go_wp2_with fail
 refine (aT rb m cap _ _ x5 (by omega)).mono ?_
 rintro ex w' ⟨rfl,hw⟩
 have hw:=hw.symm
 subst hw
 go_wp2_with fail
 refine (Calls.mono HC.out ?_)
 rintro ex w3 ⟨rfl,hfin⟩
 have FIN:Hid _:=hfin
 clear hfin
 go_wp2
 exact bodyPost_end (v:=.tuple #[]) (by simp [results,Tryz.results34]) rfl ⟨rfl,FIN.out⟩
theorem rW (h:DI W1 w rb tv fv D V) (hst:D.status=0) (hbl:D.below.length<=1000) (hpc:0<=D.top.pc/\D.top.pc<=1000) (hsl:D.top.stack.length<=1000) {b2:Nat} {ls:List (List Int)} (hT:ai W1 b2 tv ls) (A:Nat) (B:Int) (hA:A < ls.length) (hls:ls.length<=100) (hfl:(ls.getD A []).length<=100) (hk:(ls.getD A []).length<=D.top.stack.length) {G:Nat->Prop} (ok:i9 (ap D) G) (hh:0<=D.heap/\D.heap<=4000) (P:Dn) (hP:(if D.heap < (bk (ap D):Int)+1+((ls.getD A []).length:Int) then { ap D with status:=4 } else { ap D with recs:=D.recs++[D.top.stack.drop (D.top.stack.length - (ls.getD A []).length)],top:={ (ap D).top with stack:=D.top.stack.take (D.top.stack.length - (ls.getD A []).length)++[((D.recs.length:Int)+1,true)] } })=P) (ia:Option Addr) (inl ic:Nat) :
 Calls Tryz.prog 34 #[.pointer rb,.agg #[(7:Int),((A:Int)+1:Int),B],.slice ia inl ic] w fun e w'=>e=.returned (.tuple #[])/\aG W1 w rb tv fv V D.out P w':=by
 have hs:D.status=0 \/ D.status=2:=.inl hst
 obtain ⟨m,g,cap,V1,hmm,kX,x5,c1,f1,nX,d1,e1,hgn,hbk⟩:=aY h hs 7 ((A:Int)+1) B
 have x0:=nX.cell 0
 have xA:=nX.cell 1
 have xB:=nX.cell 2
 simp only [List.getElem?_toArray,List.getElem?_cons_zero,List.getElem?_cons_succ] at x0 xA xB
 have hix:(m:Int) < (m:Int)+1:=by omega
 have hm:m<=1000:=by omega
 clear hmm
 have D1:=hid d1
 have E1:=hid e1
 have hc:Calls Tryz.prog 63 #[.pointer rb,.agg #[(7:Int),((A:Int)+1:Int),B]] ((w.alloc (Obj.cells #[(7:Int),((A:Int)+1:Int),B] 107)).setCell ⟨g,m * 4+1,none⟩ (D.top.pc+1:Int)) fun e w'=>e=.returned (.tuple #[])/\aG W1 w rb tv fv V D.out P w':=by
  rw [<-hP]
  exact (sT d1 ⟨hs,hbl,hsl⟩ hT A B hA hls hfl hk ok hh).mono fun e w' ⟨h1,V',h2,h3⟩=>⟨h1,V',h2,e1.trans h3⟩
 have HC:=hid hc
 clear hc
 clear h d1 e1 nX kX
 go_enter Tryz.func34,Tryz.ntmps34
 go_wp2_with fail
 refine (aT rb m cap _ _ x5 (by omega)).mono ?_
 rintro ex w' ⟨rfl,hw⟩
 have hw:=hw.symm
 subst hw
 clear hP
 go_wp2_with fail
 refine (Calls.mono HC.out ?_)
 rintro ex w3 ⟨rfl,hfin⟩
 have FIN:Hid _:=hfin
 clear hfin
 go_wp2
 exact bodyPost_end (v:=.tuple #[]) (by simp [results,Tryz.results34]) rfl ⟨rfl,FIN.out⟩
theorem rM (h:DI W1 w rb tv fv D V) (hst:D.status=0) (hbl:D.below.length<=1000) (hpc:0<=D.top.pc/\D.top.pc<=1000) (hsl:D.top.stack.length<=1000) (A:Int) (B:Nat) (h0:0 < D.top.stack.length) (hr:D.recs.length<=1000000000000) (hv:(au D.top.stack).1=0 \/ ∃ e:Nat,(au D.top.stack).1=(e:Int)+1/\e < D.recs.length/\B < (D.recs.getD e []).length/\(D.recs.getD e []).length<=1000) (P:Dn) (hP:(if (au D.top.stack).1=0 then { ap D with top:=ax (ap D).top,status:=3 } else { ap D with top:=aD (ax (ap D).top) ((D.recs.getD ((au D.top.stack).1 - 1).toNat []).getD B (0,false)) })=P) (ia:Option Addr) (inl ic:Nat) :
 Calls Tryz.prog 34 #[.pointer rb,.agg #[(8:Int),A,B],.slice ia inl ic] w fun e w'=>e=.returned (.tuple #[])/\aG W1 w rb tv fv V D.out P w':=by
 have hs:D.status=0 \/ D.status=2:=.inl hst
 obtain ⟨m,g,cap,V1,hmm,kX,x5,c1,f1,nX,d1,e1,hgn,hbk⟩:=aY h hs 8 A (B:Int)
 have x0:=nX.cell 0
 have xA:=nX.cell 1
 have xB:=nX.cell 2
 simp only [List.getElem?_toArray,List.getElem?_cons_zero,List.getElem?_cons_succ] at x0 xA xB
 have hix:(m:Int) < (m:Int)+1:=by omega
 have hm:m<=1000:=by omega
 clear hmm
 have D1:=hid d1
 have E1:=hid e1
 have hc:Calls Tryz.prog 63 #[.pointer rb,.agg #[(8:Int),A,B]] ((w.alloc (Obj.cells #[(8:Int),A,B] 107)).setCell ⟨g,m * 4+1,none⟩ (D.top.pc+1:Int)) fun e w'=>e=.returned (.tuple #[])/\aG W1 w rb tv fv V D.out P w':=by
  rw [<-hP]
  exact (ti d1 ⟨hs,hbl,hsl⟩ A B h0 hr hv).mono fun e w' ⟨h1,V',h2,h3⟩=>⟨h1,V',h2,e1.trans h3⟩
 have HC:=hid hc
 clear hc
 clear h d1 e1 nX kX
 go_enter Tryz.func34,Tryz.ntmps34
 go_wp2_with fail
 refine (aT rb m cap _ _ x5 (by omega)).mono ?_
 rintro ex w' ⟨rfl,hw⟩
 have hw:=hw.symm
 subst hw
 clear hP
 go_wp2_with fail
 refine (Calls.mono HC.out ?_)
 rintro ex w3 ⟨rfl,hfin⟩
 have FIN:Hid _:=hfin
 clear hfin
 go_wp2
 exact bodyPost_end (v:=.tuple #[]) (by simp [results,Tryz.results34]) rfl ⟨rfl,FIN.out⟩
theorem rY (h:DI W1 w rb tv fv D V) (hst:D.status=0) (hbl:D.below.length<=1000) (hpc:0<=D.top.pc/\D.top.pc<=1000) (hsl:D.top.stack.length<=1000) (A:Int) (B:Nat) (h2:2<=D.top.stack.length) (hr:D.recs.length<=1000000000000) (hv:(au D.top.stack.dropLast).1=0 \/ ∃ e:Nat,(au D.top.stack.dropLast).1=(e:Int)+1/\e < D.recs.length/\B < (D.recs.getD e []).length/\(D.recs.getD e []).length<=1000) (P:Dn) (hP:(if (au D.top.stack.dropLast).1=0 then { ap D with top:=ax (ax (ap D).top),status:=3 } else { ap D with top:=ax (ax (ap D).top),recs:=D.recs.set ((au D.top.stack.dropLast).1 - 1).toNat ((D.recs.getD ((au D.top.stack.dropLast).1 - 1).toNat []).set B (au D.top.stack)) })=P) (ia:Option Addr) (inl ic:Nat) :
 Calls Tryz.prog 34 #[.pointer rb,.agg #[(9:Int),A,B],.slice ia inl ic] w fun e w'=>e=.returned (.tuple #[])/\aG W1 w rb tv fv V D.out P w':=by
 have hs:D.status=0 \/ D.status=2:=.inl hst
 obtain ⟨m,g,cap,V1,hmm,kX,x5,c1,f1,nX,d1,e1,hgn,hbk⟩:=aY h hs 9 A (B:Int)
 have x0:=nX.cell 0
 have xA:=nX.cell 1
 have xB:=nX.cell 2
 simp only [List.getElem?_toArray,List.getElem?_cons_zero,List.getElem?_cons_succ] at x0 xA xB
 have hix:(m:Int) < (m:Int)+1:=by omega
 have hm:m<=1000:=by omega
 clear hmm
 have D1:=hid d1
 have E1:=hid e1
 have hc:Calls Tryz.prog 63 #[.pointer rb,.agg #[(9:Int),A,B]] ((w.alloc (Obj.cells #[(9:Int),A,B] 107)).setCell ⟨g,m * 4+1,none⟩ (D.top.pc+1:Int)) fun e w'=>e=.returned (.tuple #[])/\aG W1 w rb tv fv V D.out P w':=by
  rw [<-hP]
  exact (tC d1 ⟨hs,hbl,hsl⟩ A B h2 hr hv).mono fun e w' ⟨h1,V',h2,h3⟩=>⟨h1,V',h2,e1.trans h3⟩
 have HC:=hid hc
 clear hc
 clear h d1 e1 nX kX
 go_enter Tryz.func34,Tryz.ntmps34
 go_wp2_with fail
 refine (aT rb m cap _ _ x5 (by omega)).mono ?_
 rintro ex w' ⟨rfl,hw⟩
 have hw:=hw.symm
 subst hw
 clear hP
 go_wp2_with fail
 refine (Calls.mono HC.out ?_)
 rintro ex w3 ⟨rfl,hfin⟩
 have FIN:Hid _:=hfin
 clear hfin
 go_wp2
 exact bodyPost_end (v:=.tuple #[]) (by simp [results,Tryz.results34]) rfl ⟨rfl,FIN.out⟩
theorem pQ (h:DI W1 w rb tv fv D V) (hst:D.status=0) (hbl:D.below.length<=1000) (hpc:0<=D.top.pc/\D.top.pc<=1000) (hsl:D.top.stack.length<=1000) (A B:Int) (ia:Option Addr) (inl ic:Nat) :
 Calls Tryz.prog 34 #[.pointer rb,.agg #[(10:Int),A,B],.slice ia inl ic] w fun e w'=>e=.returned (.tuple #[])/\aG W1 w rb tv fv V D.out { ap D with top:=aD (ap D).top (0,true) } w':=by
 have hs:D.status=0 \/ D.status=2:=.inl hst
 obtain ⟨m,g,cap,V1,hmm,kX,x5,c1,f1,nX,d1,e1,hgn,hbk⟩:=aY h hs 10 A B
 have x0:=nX.cell 0
 have xA:=nX.cell 1
 have xB:=nX.cell 2
 simp only [List.getElem?_toArray,List.getElem?_cons_zero,List.getElem?_cons_succ] at x0 xA xB
 have hix:(m:Int) < (m:Int)+1:=by omega
 have hm:m<=1000:=by omega
 clear hmm
 have D1:=hid d1
 have E1:=hid e1
 have HC:Hid (Calls Tryz.prog 63 #[.pointer rb,.agg #[(10:Int),A,B]] ((w.alloc (Obj.cells #[(10:Int),A,B] 107)).setCell ⟨g,m * 4+1,none⟩ (D.top.pc+1:Int)) fun e w'=>e=.returned (.tuple #[])/\aG W1 w rb tv fv V D.out { ap D with top:=aD (ap D).top (0,true) } w'):=(qw d1 ⟨hs,hbl,hsl⟩ A B).mono fun e w' ⟨h1,V',h2,h3⟩=>⟨h1,V',h2,e1.trans h3⟩
 clear h d1 e1 nX kX
 go_enter Tryz.func34,Tryz.ntmps34
 go_wp2_with fail
 refine (aT rb m cap _ _ x5 (by omega)).mono ?_
 rintro ex w' ⟨rfl,hw⟩
 have hw:=hw.symm
 subst hw
 go_wp2_with fail
 refine (Calls.mono HC.out ?_)
 rintro ex w3 ⟨rfl,hfin⟩
 have FIN:Hid _:=hfin
 clear hfin
 go_wp2
 exact bodyPost_end (v:=.tuple #[]) (by simp [results,Tryz.results34]) rfl ⟨rfl,FIN.out⟩
theorem qb (h:DI W1 w rb tv fv D V) (hst:D.status=0) (hbl:D.below.length<=1000) (hpc:0<=D.top.pc/\D.top.pc<=1000) (hsl:D.top.stack.length<=1000) (A B:Int) (h0:0 < D.top.stack.length) (P:Dn) (hP:({ ap D with top:=aD (ax (ap D).top) (if (au D.top.stack).1=0 then 1 else 0,false) }:Dn)=P) (ia:Option Addr) (inl ic:Nat) :
 Calls Tryz.prog 34 #[.pointer rb,.agg #[(11:Int),A,B],.slice ia inl ic] w fun e w'=>e=.returned (.tuple #[])/\aG W1 w rb tv fv V D.out P w':=by
 have hs:D.status=0 \/ D.status=2:=.inl hst
 obtain ⟨m,g,cap,V1,hmm,kX,x5,c1,f1,nX,d1,e1,hgn,hbk⟩:=aY h hs 11 A B
 have x0:=nX.cell 0
 have xA:=nX.cell 1
 have xB:=nX.cell 2
 simp only [List.getElem?_toArray,List.getElem?_cons_zero,List.getElem?_cons_succ] at x0 xA xB
 have hix:(m:Int) < (m:Int)+1:=by omega
 have hm:m<=1000:=by omega
 clear hmm
 have D1:=hid d1
 have E1:=hid e1
 have hc:Calls Tryz.prog 63 #[.pointer rb,.agg #[(11:Int),A,B]] ((w.alloc (Obj.cells #[(11:Int),A,B] 107)).setCell ⟨g,m * 4+1,none⟩ (D.top.pc+1:Int)) fun e w'=>e=.returned (.tuple #[])/\aG W1 w rb tv fv V D.out P w':=by
  rw [<-hP]
  exact (qy d1 ⟨hs,hbl,hsl⟩ A B h0).mono fun e w' ⟨h1,V',h2,h3⟩=>⟨h1,V',h2,e1.trans h3⟩
 have HC:=hid hc
 clear hc
 clear h d1 e1 nX kX
 go_enter Tryz.func34,Tryz.ntmps34
 go_wp2_with fail
 refine (aT rb m cap _ _ x5 (by omega)).mono ?_
 rintro ex w' ⟨rfl,hw⟩
 have hw:=hw.symm
 subst hw
 clear hP
 go_wp2_with fail
 refine (Calls.mono HC.out ?_)
 rintro ex w3 ⟨rfl,hfin⟩
 have FIN:Hid _:=hfin
 clear hfin
 go_wp2
 exact bodyPost_end (v:=.tuple #[]) (by simp [results,Tryz.results34]) rfl ⟨rfl,FIN.out⟩
theorem nD (h:DI W1 w rb tv fv D V) (hst:D.status=0) (hbl:D.below.length<=1000) (hpc:0<=D.top.pc/\D.top.pc<=1000) (hsl:D.top.stack.length<=1000) (A B:Int) (h2:2<=D.top.stack.length) (P:Dn) (hP:({ ap D with top:=aD (ax (ax (ap D).top)) (if (au D.top.stack.dropLast).1=(au D.top.stack).1 then 1 else 0,false) }:Dn)=P) (ia:Option Addr) (inl ic:Nat) :
 Calls Tryz.prog 34 #[.pointer rb,.agg #[(12:Int),A,B],.slice ia inl ic] w fun e w'=>e=.returned (.tuple #[])/\aG W1 w rb tv fv V D.out P w':=by
 have hs:D.status=0 \/ D.status=2:=.inl hst
 obtain ⟨m,g,cap,V1,hmm,kX,x5,c1,f1,nX,d1,e1,hgn,hbk⟩:=aY h hs 12 A B
 have x0:=nX.cell 0
 have xA:=nX.cell 1
 have xB:=nX.cell 2
 simp only [List.getElem?_toArray,List.getElem?_cons_zero,List.getElem?_cons_succ] at x0 xA xB
 have hix:(m:Int) < (m:Int)+1:=by omega
 have hm:m<=1000:=by omega
 clear hmm
 have D1:=hid d1
 have E1:=hid e1
 have hc:Calls Tryz.prog 63 #[.pointer rb,.agg #[(12:Int),A,B]] ((w.alloc (Obj.cells #[(12:Int),A,B] 107)).setCell ⟨g,m * 4+1,none⟩ (D.top.pc+1:Int)) fun e w'=>e=.returned (.tuple #[])/\aG W1 w rb tv fv V D.out P w':=by
  rw [<-hP]
  exact (se d1 ⟨hs,hbl,hsl⟩ A B h2).mono fun e w' ⟨h1,V',h2,h3⟩=>⟨h1,V',h2,e1.trans h3⟩
 have HC:=hid hc
 clear hc
 clear h d1 e1 nX kX
 go_enter Tryz.func34,Tryz.ntmps34
 go_wp2_with fail
 refine (aT rb m cap _ _ x5 (by omega)).mono ?_
 rintro ex w' ⟨rfl,hw⟩
 have hw:=hw.symm
 subst hw
 clear hP
 go_wp2_with fail
 refine (Calls.mono HC.out ?_)
 rintro ex w3 ⟨rfl,hfin⟩
 have FIN:Hid _:=hfin
 clear hfin
 go_wp2
 exact bodyPost_end (v:=.tuple #[]) (by simp [results,Tryz.results34]) rfl ⟨rfl,FIN.out⟩
end
end Go.Proofs.YtnfnbcbadakofaaGreat
