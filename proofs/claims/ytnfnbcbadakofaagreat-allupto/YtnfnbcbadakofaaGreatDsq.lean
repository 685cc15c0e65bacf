import Derived.Test.YtnfnbcbadakofaaGreatDsp
namespace Go.Proofs.YtnfnbcbadakofaaGreat
open Go.RowKit
set_option maxHeartbeats 4000000
set_option maxRecDepth 100000
section
variable {W1 w w':World} {rb:Nat} {tv fv:Value} {D:Dn} {V:DV}
theorem pd (h:DI W1 w rb tv fv D V) (hst:D.status=0) (hbl:D.below.length<=1000) (hpc:0<=D.top.pc/\D.top.pc<=1000) (A B:Int) (ia:Option Addr) (inl ic:Nat) :
 Calls Tryz.prog 34 #[.pointer rb,.agg #[(13:Int),A,B],.slice ia inl ic] w fun e w'=>e=.returned (.tuple #[])/\aG W1 w rb tv fv V D.out { ap D with top:={ (ap D).top with pc:=A } } w':=by
 have hs:D.status=0 \/ D.status=2:=.inl hst
 obtain ⟨m,g,cap,V1,hmm,kX,x5,c1,f1,nX,d1,e1,hgn,hbk⟩:=aY h hs 13 A B
 have x0:=nX.cell 0
 simp only [List.getElem?_toArray,List.getElem?_cons_zero] at x0
 have hix:(m:Int) < (m:Int)+1:=by omega
 have hm:m<=1000:=by omega
 have hrx:w.heap.size ≠ rb:=Nat.ne_of_gt h.bx.lt
 have hxn:¬ bN (aw V1 D.out) w.heap.size:=fun q=>by have:=hbk _ q;omega
 have xA:=nX.cell 1
 simp only [List.getElem?_toArray,List.getElem?_cons_zero,List.getElem?_cons_succ] at xA
 obtain ⟨xs,lv,kv,e,hxs⟩:=d1.top hs
 obtain ⟨g1,cap1,hg,_,_,_,_,_,b1,_,_,fz,_,_⟩:=d1.frs e
 have hxl:xs.length=m:=by rw [hmm,<-List.length_map (f:=(·.1)),hxs];rfl
 have fin:=d1.pcset hs e hg A
 rw [hxl] at hg b1 fin
 have y5:((w.alloc (Obj.cells #[(13:Int),A,B] 107)).setCell ⟨g,m * 4+1,none⟩ (D.top.pc+1:Int)).cell? ⟨rb,5,none⟩=some (.slice g1 (m+1) cap1):=by rw [<-hg];exact d1.bx.cell 5
 have yf:=fz (m * 4+1)
 have FIN0:Hid (aG W1 w rb tv fv V D.out { ap D with top:={ (ap D).top with pc:=A } } (((w.alloc (Obj.cells #[(13:Int),A,B] 107)).setCell ⟨g,m * 4+1,none⟩ (D.top.pc+1:Int)).setCell ⟨g1,m * 4+1,none⟩ A)):=by
  obtain ⟨V',f1,f2⟩:=fin
  exact ⟨V',f1,e1.trans f2⟩
 simp only [ap] at b1
 clear h d1 e1 nX kX fin hg fz hmm
 go_enter Tryz.func34,Tryz.ntmps34
 go_wp2_with fail
 refine (aT rb m cap _ _ x5 (by omega)).mono ?_
 rintro ex w' ⟨rfl,hw⟩
 have hw:=hw.symm
 subst hw
 go_wp2
 go_region
 have FIN:Hid (aG W1 w rb tv fv V D.out { ap D with top:={ (ap D).top with pc:=A } } (((w.alloc (Obj.cells #[(13:Int),A,B] 107)).setCell ⟨g,m * 4+1,none⟩ (D.top.pc+1:Int)).setCell ⟨g1,m * 4+1,none⟩ A).drew):=by
  obtain ⟨V',q1,q2⟩:=FIN0.out
  exact ⟨V',q1.drew,q2.drew⟩
 clear FIN0
 go_wp2
 exact bodyPost_end (v:=.tuple #[]) (by simp [results,Tryz.results34]) rfl ⟨rfl,FIN.out⟩
theorem pm (h:DI W1 w rb tv fv D V) (hst:D.status=0) (hbl:D.below.length<=1000) (hpc:0<=D.top.pc/\D.top.pc<=1000) (hsl:D.top.stack.length<=1000) (A B:Int) (h0:0 < D.top.stack.length) (ia:Option Addr) (inl ic:Nat) :
 Calls Tryz.prog 34 #[.pointer rb,.agg #[(14:Int),A,B],.slice ia inl ic] w fun e w'=>e=.returned (.tuple #[])/\aG W1 w rb tv fv V D.out { ap D with top:={ ax (ap D).top with pc:=if (au D.top.stack).1=0 then A else D.top.pc+1 } } w':=by
 have hs:D.status=0 \/ D.status=2:=.inl hst
 obtain ⟨m,g,cap,V1,hmm,kX,x5,c1,f1,nX,d1,e1,hgn,hbk⟩:=aY h hs 14 A B
 have x0:=nX.cell 0
 simp only [List.getElem?_toArray,List.getElem?_cons_zero] at x0
 have hix:(m:Int) < (m:Int)+1:=by omega
 have hm:m<=1000:=by omega
 have hrx:w.heap.size ≠ rb:=Nat.ne_of_gt h.bx.lt
 have hxn:¬ bN (aw V1 D.out) w.heap.size:=fun q=>by have:=hbk _ q;omega
 have HP:Hid (Calls Tryz.prog 59 #[.pointer rb] ((w.alloc (Obj.cells #[(14:Int),A,B] 107)).setCell ⟨g,m * 4+1,none⟩ (D.top.pc+1:Int)) fun e w'=>e=.returned (.agg #[.int .i64 (au D.top.stack).1,.bool (au D.top.stack).2])/\aG W1 ((w.alloc (Obj.cells #[(14:Int),A,B] 107)).setCell ⟨g,m * 4+1,none⟩ (D.top.pc+1:Int)) rb tv fv V1 D.out { ap D with top:=ax (ap D).top } w'):=cA d1 hs hbl hsl h0
 obtain ⟨x,hx⟩:∃ x,au D.top.stack=x:=⟨_,rfl⟩
 rw [hx] at HP ⊢
 obtain ⟨xn,xr⟩:=x
 simp only at HP ⊢
 have NX:=hid nX
 have E1:=hid e1
 have HS:=hid hs
 have HMM:=hid hmm
 clear h d1 e1 nX kX hx hs hmm
 go_enter Tryz.func34,Tryz.ntmps34
 go_wp2_with fail
 refine (aT rb m cap _ _ x5 (by omega)).mono ?_
 rintro ex w' ⟨rfl,hw⟩
 have hw:=hw.symm
 subst hw
 go_wp2_with fail
 refine (Calls.mono HP.out ?_)
 rintro ex w2 ⟨rfl,V2,d2,e2⟩
 have n2:=e2.blk NX.out hrx hxn
 have k3:Chg () w2 (w2.alloc (Obj.cells #[xn,.bool xr] 104)):=(Chg.refl _ _).alloc _
 have n3:=Blk.new w2 #[.int .i64 xn,.bool xr] 104
 have d3:=d2.new k3
 have E3:Hid (Ev rb (aw V D.out) w (aw V2 D.out) (w2.alloc (Obj.cells #[xn,.bool xr] 104))):=(E1.out.trans e2).trans (Ev.new rb _ k3)
 have v0:(w2.alloc (Obj.cells #[xn,.bool xr] 104)).cell? ⟨w2.heap.size,0,none⟩=some (.int .i64 xn):=n3.cell 0
 have xA:(w2.alloc (Obj.cells #[xn,.bool xr] 104)).cell? ⟨w.heap.size,1,none⟩=some (.int .i64 A):=(n2.chg k3 (fun q=>q)).cell 1
 obtain ⟨xs,lv,kv,e,hxs⟩:=d3.top HS.out
 obtain ⟨g1,cap1,hg,_,_,_,_,_,b1,_,_,fz,_,_⟩:=d3.frs e
 have hxl:xs.length=m:=by rw [HMM.out,<-List.length_map (f:=(·.1)),hxs];rfl
 have fin:=d3.pcset HS.out e hg A
 rw [hxl] at hg b1 fin
 have y5:(w2.alloc (Obj.cells #[xn,.bool xr] 104)).cell? ⟨rb,5,none⟩=some (.slice g1 (m+1) cap1):=by rw [<-hg];exact d3.bx.cell 5
 have yf:=fz (m * 4+1)
 have D3:=hid d3
 have FIN0:Hid (aG W1 w rb tv fv V D.out { ap D with top:={ ax (ap D).top with pc:=A } } ((w2.alloc (Obj.cells #[xn,.bool xr] 104)).setCell ⟨g1,m * 4+1,none⟩ A)):=by
  obtain ⟨V',f1,f2⟩:=fin
  exact ⟨V',f1,E3.out.trans f2⟩
 simp only [ap,ax] at b1
 clear d2 e2 n2 n3 k3 d3 fin hg fz x0 x5 c1 f1
 by_cases hq:xn=0
 ·subst hq
  go_wp2
  go_region
  have FIN:Hid (aG W1 w rb tv fv V D.out { ap D with top:={ ax (ap D).top with pc:=A } } ((w2.alloc (Obj.cells #[oO,.bool xr] 104)).setCell ⟨g1,m * 4+1,none⟩ A).drew):=by
   obtain ⟨V',q1,q2⟩:=FIN0.out
   exact ⟨V',q1.drew,q2.drew⟩
  clear FIN0
  go_wp2
  exact bodyPost_end (v:=.tuple #[]) (by simp [results,Tryz.results34]) rfl ⟨rfl,FIN.out⟩
 ·have hq':(xn == 0)=false:=by simp [hq]
  clear b1 yf xA y5 FIN0
  have FIN:Hid (aG W1 w rb tv fv V D.out { ap D with top:={ ax (ap D).top with pc:=D.top.pc+1 } } (w2.alloc (Obj.cells #[xn,.bool xr] 104))):=⟨V2,D3.out,E3.out⟩
  clear D3 E3
  go_wp2
  exact bodyPost_end (v:=.tuple #[]) (by simp [results,Tryz.results34]) rfl ⟨rfl,FIN.out⟩
theorem py (h:DI W1 w rb tv fv D V) (hst:D.status=0) (hbl:D.below.length<=1000) (hpc:0<=D.top.pc/\D.top.pc<=1000) (hsl:D.top.stack.length<=1000) (A B:Int) (h0:0 < D.top.stack.length) (ho:D.out.length<=100000) (ia:Option Addr) (inl ic:Nat) :
 Calls Tryz.prog 34 #[.pointer rb,.agg #[(17:Int),A,B],.slice ia inl ic] w fun e w'=>e=.returned (.tuple #[])/\aG W1 w rb tv fv V D.out { ap D with top:=ax (ap D).top,out:=D.out++[(au D.top.stack).1] } w':=by
 have hs:D.status=0 \/ D.status=2:=.inl hst
 obtain ⟨m,g,cap,V1,hmm,kX,x5,c1,f1,nX,d1,e1,hgn,hbk⟩:=aY h hs 17 A B
 have x0:=nX.cell 0
 simp only [List.getElem?_toArray,List.getElem?_cons_zero] at x0
 have hix:(m:Int) < (m:Int)+1:=by omega
 have hm:m<=1000:=by omega
 have hrx:w.heap.size ≠ rb:=Nat.ne_of_gt h.bx.lt
 have hxn:¬ bN (aw V1 D.out) w.heap.size:=fun q=>by have:=hbk _ q;omega
 have HMM:=hid hmm
 have NX:=hid nX
 have E1:=hid e1
 have HS:=hid hs
 have HP:Hid (Calls Tryz.prog 59 #[.pointer rb] ((w.alloc (Obj.cells #[(17:Int),A,B] 107)).setCell ⟨g,m * 4+1,none⟩ (D.top.pc+1:Int)) fun e w'=>e=.returned (.agg #[.int .i64 (au D.top.stack).1,.bool (au D.top.stack).2])/\aG W1 ((w.alloc (Obj.cells #[(17:Int),A,B] 107)).setCell ⟨g,m * 4+1,none⟩ (D.top.pc+1:Int)) rb tv fv V1 D.out { ap D with top:=ax (ap D).top } w'):=cA d1 hs hbl hsl h0
 obtain ⟨x,hx⟩:∃ x,au D.top.stack=x:=⟨_,rfl⟩
 rw [hx] at HP ⊢
 obtain ⟨xn,xr⟩:=x
 simp only at HP ⊢
 clear h d1 e1 nX kX hx hs hmm
 go_enter Tryz.func34,Tryz.ntmps34
 go_wp2_with fail
 refine (aT rb m cap _ _ x5 (by omega)).mono ?_
 rintro ex w' ⟨rfl,hw⟩
 have hw:=hw.symm
 subst hw
 go_wp2_with fail
 refine (Calls.mono HP.out ?_)
 rintro ex w2 ⟨rfl,V2,d2,e2⟩
 have n2:=e2.blk NX.out hrx hxn
 have k3:Chg () w2 (w2.alloc (Obj.cells #[xn,.bool xr] 104)):=(Chg.refl _ _).alloc _
 have n3:=Blk.new w2 #[.int .i64 xn,.bool xr] 104
 have d3:=d2.new k3
 have E3:Hid (Ev rb (aw V D.out) w (aw V2 D.out) (w2.alloc (Obj.cells #[xn,.bool xr] 104))):=(E1.out.trans e2).trans (Ev.new rb _ k3)
 have v0:(w2.alloc (Obj.cells #[xn,.bool xr] 104)).cell? ⟨w2.heap.size,0,none⟩=some (.int .i64 xn):=n3.cell 0
 have hoo:ad (w2.alloc (Obj.cells #[xn,.bool xr] 104)) W1.heap.size V2.ov D.out:=d3.ow.ok (orw V2 D.out) (by unfold aw;exact List.mem_cons_of_mem _ (List.mem_cons_of_mem _ (List.mem_cons_self ..)))
 obtain ⟨oa,oc,hov⟩:=hoo.slice
 have y7:(w2.alloc (Obj.cells #[xn,.bool xr] 104)).cell? ⟨rb,7,none⟩=some (.slice oa D.out.length oc):=by rw [<-hov];exact d3.bx.cell 7
 have f7:=d3.bx.frozen 7
 have HOV:=hid hov
 have D3:=hid d3
 rw [hov] at hoo
 have HOO:=hid hoo
 have hW3:=d3.ch.size
 have hrl:=d3.bx.lt
 have hvl:=n3.lt
 clear d2 e2 n2 n3 k3 d3 hoo hov x0 x5 c1 f1
 go_wp2_with fail
 generalize w2.alloc (Obj.cells #[xn,.bool xr] 104)=w3 at *
 generalize w2.heap.size=vb at *
 obtain ⟨i,hi1,hi2,hi3,hi4⟩:=dK
 have Hi1:Hid _:=hi1
 have Hi2:Hid _:=hi2
 have Hi3:Hid _:=hi3
 have Hi4:Hid _:=hi4
 clear hi1 hi2 hi3 hi4
 have hr3:rb ≠ w3.heap.size:=Nat.ne_of_lt hrl
 have hr3':=hr3.symm
 have hv3:vb ≠ w3.heap.size:=Nat.ne_of_lt hvl
 have hv3':=hv3.symm
 have j1:Chg () w3 (w3.alloc (Obj.cells #[xn] 3)).drew:=((Chg.refl _ w3).alloc _).drew
 have HROW:Hid ((w3.alloc (Obj.cells #[xn] 3)).drew.ownsRow W1.heap.size 3 1 (.slice oa D.out.length oc) D.out.length (aE D.out)):=af HOO.out j1 (fun _ _ q=>q)
 have HNW:Hid (∀ j u,[Value.int .i64 xn][j]?=some u->(w3.alloc (Obj.cells #[xn] 3)).drew.cell? ((⟨w3.heap.size,0,none⟩:Addr).add j)=some u):=World.news_of_block (B:=w3.heap.size) (cs:=#[.int .i64 xn]) (Blk.new' rfl _ 3).drew
 have D4:=hid (D3.out.new j1)
 have E4:Hid (Ev rb (aw V D.out) w (aw V2 D.out) (w3.alloc (Obj.cells #[xn] 3)).drew):=E3.out.trans (Ev.new rb _ j1)
 clear j1
 go_region_law (refine step_append_lies _ rfl (.tmp 126) (.tmp 129) 23 rfl W1.heap.size 3 i (.int .i64 0) 1 8 Tryz.underlying23 Hi1.out Hi2.out Hi3.out Hi4.out rfl (by decide) (.slice oa D.out.length oc) D.out.length (aE D.out) (by simp [Act.eval]) (by exact HROW.out) ⟨w3.heap.size,0,none⟩ 1 1 [.int .i64 xn] (by simp [Act.eval]) rfl (by exact HNW.out) (by intro u hu;simp only [List.mem_cons,List.not_mem_nil,or_false] at hu;subst hu;rfl) (by decide) (by unfold maxLen;omega) (by omega) (by simp;omega) (w3.heap.size+1) (by simp) ?_;intro gg cap2 w4 hown hgrow hat hlt4;have hch4:Chg (fun j=>some j=(Value.slice oa D.out.length oc).ownBlock) (w3.alloc (Obj.cells #[xn] 3)).drew w4:=(aM hgrow).mono (fun _ _ q=>q);have hbq:=D4.out.bx.chg hch4 (fun q=>ao HROW.out D4.out.bx (by decide) q.symm);have y7f:=hbq.frozen 7;have y7c:w4.cell? ⟨rb,7,none⟩=some (.slice oa D.out.length oc):=by rw [<-HOV.out];exact hbq.cell 7)
 all_goals
  obtain ⟨V',d',ev'⟩:=D4.out.outset (nv:=.slice gg (D.out.length+1) cap2) (l:=D.out++[xn]) (by rw [HOV.out];exact hch4) (by unfold ad;rw [List.length_append];simpa [aE] using hown) (by
   rw [HOV.out]
   rcases hat with q | q
   ·exact .inl q.symm
   ·exact .inr ⟨gg,rfl,by rw [q];simp [World.drew]⟩)
  have FIN:Hid (aG W1 w rb tv fv V D.out { ap D with top:=ax (ap D).top,out:=D.out++[xn] } (w4.setCell ⟨rb,7,none⟩ (.slice gg (D.out.length+1) cap2))):=⟨V',d',E4.out.trans ev'⟩
  clear hbq y7f y7c hown hgrow hat hch4 hlt4 d' ev' v0 y7 f7
  go_wp2
  exact bodyPost_end (v:=.tuple #[]) (by simp [results,Tryz.results34]) rfl ⟨rfl,FIN.out⟩
theorem oI (h:DI W1 w rb tv fv D V) (hst:D.status=0) (hbl:D.below.length<=1000) (hpc:0<=D.top.pc/\D.top.pc<=1000) (hsl:D.top.stack.length<=1000) (A B:Int) (inp:List Int) (ia:Option Addr) (ic:Nat) (hi:RdA w (.slice ia inp.length ic) inp) (hib:∀ g,(Value.slice ia inp.length ic).ownBlock=some g->g ≠ rb/\¬ bN (aw V D.out) g) (hu:D.used < inp.length) (hul:D.used<=100000) :
 Calls Tryz.prog 34 #[.pointer rb,.agg #[(18:Int),A,B],.slice ia inp.length ic] w fun e w'=>e=.returned (.tuple #[])/\aG W1 w rb tv fv V D.out { ap D with top:=aD (ap D).top (inp.getD D.used 0 % 65536,false),used:=D.used+1 } w':=by
 have hs:D.status=0 \/ D.status=2:=.inl hst
 obtain ⟨m,g,cap,V1,hmm,kX,x5,c1,f1,nX,d1,e1,hgn,hbk⟩:=aY h hs 18 A B
 have x0:=nX.cell 0
 simp only [List.getElem?_toArray,List.getElem?_cons_zero] at x0
 have hix:(m:Int) < (m:Int)+1:=by omega
 have hm:m<=1000:=by omega
 have hrx:w.heap.size ≠ rb:=Nat.ne_of_gt h.bx.lt
 have hxn:¬ bN (aw V1 D.out) w.heap.size:=fun q=>by have:=hbk _ q;omega
 have HMM:=hid hmm
 have NX:=hid nX
 have E1:=hid e1
 have HS:=hid hs
 obtain ⟨a,c',hve,hle,hcap,hcc⟩:=hi.form (by omega)
 simp only [Value.slice.injEq] at hve
 obtain ⟨rfl,_,rfl⟩:=hve
 have y0:=hcc D.used hu
 obtain ⟨hb1,hb2⟩:=hib a.block rfl
 have hab:(a.add D.used).block=a.block:=by unfold Addr.add;split <;> rfl
 have yy:((w.alloc (Obj.cells #[(18:Int),A,B] 107)).setCell ⟨g,m * 4+1,none⟩ (D.top.pc+1:Int)).cell? (a.add D.used)=some (.int .i64 (inp.getD D.used 0)):=by
  have hlt:=World.block_lt_of_cell? w _ y0
  exact (World.cell?_of_block (w:=w) (e1.ch.block _ hlt (fun q=>by rw [hab] at q;exact q.elim hb1 hb2))).trans y0
 have y8:((w.alloc (Obj.cells #[(18:Int),A,B] 107)).setCell ⟨g,m * 4+1,none⟩ (D.top.pc+1:Int)).cell? ⟨rb,8,none⟩=some (.int .i64 (D.used:Int)):=d1.bx.cell 8
 have f8:=d1.bx.frozen 8
 have D1:=hid d1
 have hui:(D.used:Int) < (inp.length:Int):=by omega
 generalize inp.getD D.used 0=t at *
 clear h d1 e1 nX kX hs hmm hcc y0 hb1 hb2 hib hi
 go_enter Tryz.func34,Tryz.ntmps34
 go_wp2_with fail
 refine (aT rb m cap _ _ x5 (by omega)).mono ?_
 rintro ex w' ⟨rfl,hw⟩
 have hw:=hw.symm
 subst hw
 go_wp2_with fail
 refine (kU t _).mono ?_
 rintro ex w2 ⟨rfl,hw⟩
 have hw:=hw.symm
 subst hw
 obtain ⟨V2,d2,e2⟩:=D1.out.useset (D.used+1)
 rw [show ((D.used+1:Nat):Int)=(D.used:Int)+1 by omega] at d2 e2
 have HC:Hid (Calls Tryz.prog 57 #[.pointer rb,(t % 65536:Int),.bool false] (((w.alloc (Obj.cells #[(18:Int),A,B] 107)).setCell ⟨g,m * 4+1,none⟩ (D.top.pc+1:Int)).setCell ⟨rb,8,none⟩ ((D.used:Int)+1:Int)) fun e w'=>e=.returned (.tuple #[])/\aG W1 w rb tv fv V D.out { ap D with top:=aD (ap D).top (t % 65536,false),used:=D.used+1 } w'):=(bS d2 HS.out (t % 65536) false hbl hsl).mono fun e w' ⟨h1,V',h2,h3⟩=>⟨h1,V',h2,(E1.out.trans e2).trans h3⟩
 clear d2 e2 yy
 have hmod0:0<=t % 65536:=Int.emod_nonneg _ (by decide)
 have hmod1:t % 65536 < 65536:=Int.emod_lt_of_pos _ (by decide)
 generalize hqe:t % 65536=q at *
 have HQE:=hid hqe
 clear hqe
 go_wp2_with fail
 refine (Calls.mono HC.out ?_)
 rintro ex w3 ⟨rfl,hfin⟩
 have FIN:Hid _:=hfin
 clear hfin
 go_wp2
 exact bodyPost_end (v:=.tuple #[]) (by simp [results,Tryz.results34]) rfl ⟨rfl,by rw [HQE.out];exact FIN.out⟩
theorem qW (h:DI W1 w rb tv fv D V) (hst:D.status=0) (hbl:D.below.length<=1000) (hpc:0<=D.top.pc/\D.top.pc<=1000) (hsl:D.top.stack.length<=1000) (A:Nat) (B:Int) (hA:A < D.top.locals.length) (hll:D.top.locals.length<=1000) (ia:Option Addr) (inl ic:Nat) :
 Calls Tryz.prog 34 #[.pointer rb,.agg #[(5:Int),A,B],.slice ia inl ic] w fun e w'=>e=.returned (.tuple #[])/\aG W1 w rb tv fv V D.out { ap D with top:=aD (ap D).top (D.top.locals.getD A (0,false)) } w':=by
 have hs:D.status=0 \/ D.status=2:=.inl hst
 obtain ⟨m,g,cap,V1,hmm,kX,x5,c1,f1,nX,d1,e1,hgn,hbk⟩:=aY h hs 5 (A:Int) B
 have x0:=nX.cell 0
 simp only [List.getElem?_toArray,List.getElem?_cons_zero] at x0
 have hix:(m:Int) < (m:Int)+1:=by omega
 have hm:m<=1000:=by omega
 have hrx:w.heap.size ≠ rb:=Nat.ne_of_gt h.bx.lt
 have hxn:¬ bN (aw V1 D.out) w.heap.size:=fun q=>by have:=hbk _ q;omega
 have HMM:=hid hmm
 have NX:=hid nX
 have E1:=hid e1
 have HS:=hid hs
 have xA:=nX.cell 1
 simp only [List.getElem?_toArray,List.getElem?_cons_zero,List.getElem?_cons_succ] at xA
 obtain ⟨xs,lv,kv,e,hxs⟩:=d1.top hs
 obtain ⟨g1,cap1,hg,_,hg1l,_,_,_,b1,b2,_,fz,gcs,gb⟩:=d1.frs e
 have hxl:xs.length=m:=by rw [hmm,<-List.length_map (f:=(·.1)),hxs];rfl
 rw [hxl] at hg b2
 have hlv:aO ((w.alloc (Obj.cells #[(5:Int),A,B] 107)).setCell ⟨g,m * 4+1,none⟩ (D.top.pc+1:Int)) W1.heap.size lv D.top.locals:=d1.ow.ok (vrw lv D.top.locals) (by simp only [aw,fsr,e,List.mem_cons,List.mem_append,List.mem_flatMap];exact .inr (.inr (.inr (.inl ⟨_,.inr (.inl rfl),.inl rfl⟩))))
 obtain ⟨g2,cap2,q5,q6,q7,q8,q9,q10,_⟩:=hlv.form (by omega)
 subst q5
 obtain ⟨z0,z1⟩:=q10 A hA
 have y5:((w.alloc (Obj.cells #[(5:Int),A,B] 107)).setCell ⟨g,m * 4+1,none⟩ (D.top.pc+1:Int)).cell? ⟨rb,5,none⟩=some (.slice g1 (m+1) cap1):=by rw [<-hg];exact d1.bx.cell 5
 have hAA:(A:Int) < (D.top.locals.length:Int):=by omega
 have D1:=hid d1
 have hr1:=d1.bx.lt
 have hx1:=nX.lt
 simp only at b2
 obtain ⟨y,hy⟩:∃ y,D.top.locals.getD A (0,false)=y:=⟨_,rfl⟩
 rw [hy] at z0 z1 ⊢
 obtain ⟨yn,yb⟩:=y
 simp only at z0 z1
 clear h d1 e1 nX kX hmm hg fz gb q10 hlv b1 hy hs
 go_enter Tryz.func34,Tryz.ntmps34
 go_wp2_with fail
 refine (aT rb m cap _ _ x5 (by omega)).mono ?_
 rintro ex w' ⟨rfl,hw⟩
 have hw:=hw.symm
 subst hw
 go_wp2_with fail
 generalize hW2:((w.alloc (Obj.cells #[(5:Int),A,B] 107)).setCell ⟨g,m * 4+1,none⟩ (D.top.pc+1:Int))=w2 at *
 have m1:rb ≠ w2.heap.size:=Nat.ne_of_lt hr1
 have m1':=m1.symm
 have m2:w.heap.size ≠ w2.heap.size:=Nat.ne_of_lt hx1
 have m2':=m2.symm
 have m3:g1 ≠ w2.heap.size:=Nat.ne_of_lt hg1l
 have m3':=m3.symm
 have m4:g2 ≠ w2.heap.size:=Nat.ne_of_lt q7
 have m4':=m4.symm
 clear hW2
 go_region
 have k3:Chg () w2 (w2.alloc (Obj.cells #[yn,.bool yb] 104)).drew:=((Chg.refl _ _).alloc _).drew
 have n3:=(Blk.new w2 #[.int .i64 yn,.bool yb] 104).drew
 have t0:(w2.alloc (Obj.cells #[yn,.bool yb] 104)).drew.cell? ⟨w2.heap.size,0,none⟩=some (.int .i64 yn):=n3.cell 0
 have t1:(w2.alloc (Obj.cells #[yn,.bool yb] 104)).drew.cell? ⟨w2.heap.size,1,none⟩=some (.bool yb):=n3.cell 1
 have HC:Hid (Calls Tryz.prog 57 #[.pointer rb,yn,.bool yb] (w2.alloc (Obj.cells #[yn,.bool yb] 104)).drew fun e w'=>e=.returned (.tuple #[])/\aG W1 w rb tv fv V D.out { ap D with top:=aD (ap D).top (yn,yb) } w'):=(bS (D1.out.new k3) HS.out yn yb hbl hsl).mono fun e w' ⟨h1,V',h2,h3⟩=>⟨h1,V',h2,(E1.out.trans (Ev.new rb _ k3)).trans h3⟩
 clear k3 n3 D1 E1 x0 xA z0 z1 y5 b2 m1 m1' m2 m2' m3 m3' m4 m4'
 go_wp2_with fail
 refine (Calls.mono HC.out ?_)
 rintro ex w4 ⟨rfl,hfin⟩
 have FIN:Hid _:=hfin
 clear hfin t0 t1
 go_wp2
 exact bodyPost_end (v:=.tuple #[]) (by simp [results,Tryz.results34]) rfl ⟨rfl,FIN.out⟩
theorem rB (h:DI W1 w rb tv fv D V) (hst:D.status=0) (hbl:D.below.length<=1000) (hpc:0<=D.top.pc/\D.top.pc<=1000) (hsl:D.top.stack.length<=1000) (A:Nat) (B:Int) (hA:A < D.top.locals.length) (hll:D.top.locals.length<=1000) (h0:0 < D.top.stack.length) (ia:Option Addr) (inl ic:Nat) :
 Calls Tryz.prog 34 #[.pointer rb,.agg #[(6:Int),A,B],.slice ia inl ic] w fun e w'=>e=.returned (.tuple #[])/\aG W1 w rb tv fv V D.out { ap D with top:={ ax (ap D).top with locals:=D.top.locals.set A (au D.top.stack) } } w':=by
 have hs:D.status=0 \/ D.status=2:=.inl hst
 obtain ⟨m,g,cap,V1,hmm,kX,x5,c1,f1,nX,d1,e1,hgn,hbk⟩:=aY h hs 6 (A:Int) B
 have x0:=nX.cell 0
 simp only [List.getElem?_toArray,List.getElem?_cons_zero] at x0
 have hix:(m:Int) < (m:Int)+1:=by omega
 have hm:m<=1000:=by omega
 have hrx:w.heap.size ≠ rb:=Nat.ne_of_gt h.bx.lt
 have hxn:¬ bN (aw V1 D.out) w.heap.size:=fun q=>by have:=hbk _ q;omega
 have HP:Hid (Calls Tryz.prog 59 #[.pointer rb] ((w.alloc (Obj.cells #[(6:Int),A,B] 107)).setCell ⟨g,m * 4+1,none⟩ (D.top.pc+1:Int)) fun e w'=>e=.returned (.agg #[.int .i64 (au D.top.stack).1,.bool (au D.top.stack).2])/\aG W1 ((w.alloc (Obj.cells #[(6:Int),A,B] 107)).setCell ⟨g,m * 4+1,none⟩ (D.top.pc+1:Int)) rb tv fv V1 D.out { ap D with top:=ax (ap D).top } w'):=cA d1 hs hbl hsl h0
 obtain ⟨x,hx⟩:∃ x,au D.top.stack=x:=⟨_,rfl⟩
 rw [hx] at HP ⊢
 obtain ⟨xn,xr⟩:=x
 simp only at HP ⊢
 have NX:=hid nX
 have E1:=hid e1
 have HS:=hid hs
 have HMM:=hid hmm
 clear h d1 e1 nX kX hx hs hmm
 go_enter Tryz.func34,Tryz.ntmps34
 go_wp2_with fail
 refine (aT rb m cap _ _ x5 (by omega)).mono ?_
 rintro ex w' ⟨rfl,hw⟩
 have hw:=hw.symm
 subst hw
 go_wp2_with fail
 refine (Calls.mono HP.out ?_)
 rintro ex w2 ⟨rfl,V2,d2,e2⟩
 have n2:=e2.blk NX.out hrx hxn
 have k3:Chg () w2 (w2.alloc (Obj.cells #[xn,.bool xr] 104)):=(Chg.refl _ _).alloc _
 have n3:=Blk.new w2 #[.int .i64 xn,.bool xr] 104
 have d3:=d2.new k3
 have E3:Hid (Ev rb (aw V D.out) w (aw V2 D.out) (w2.alloc (Obj.cells #[xn,.bool xr] 104))):=(E1.out.trans e2).trans (Ev.new rb _ k3)
 have v0:(w2.alloc (Obj.cells #[xn,.bool xr] 104)).cell? ⟨w2.heap.size,0,none⟩=some (.int .i64 xn):=n3.cell 0
 have xA:(w2.alloc (Obj.cells #[xn,.bool xr] 104)).cell? ⟨w.heap.size,1,none⟩=some (.int .i64 (A:Int)):=(n2.chg k3 (fun q=>q)).cell 1
 obtain ⟨xs,lv,kv,e,hxs⟩:=d3.top HS.out
 obtain ⟨g1,cap1,hg,_,_,_,_,_,_,b2,_,_,_,_⟩:=d3.frs e
 have hxl:xs.length=m:=by rw [HMM.out,<-List.length_map (f:=(·.1)),hxs];rfl
 rw [hxl] at hg b2
 have y5:(w2.alloc (Obj.cells #[xn,.bool xr] 104)).cell? ⟨rb,5,none⟩=some (.slice g1 (m+1) cap1):=by rw [<-hg];exact d3.bx.cell 5
 have hlv:aO (w2.alloc (Obj.cells #[xn,.bool xr] 104)) W1.heap.size lv D.top.locals:=d3.ow.ok (vrw lv D.top.locals) (by simp only [aw,fsr,e,List.mem_cons,List.mem_append,List.mem_flatMap];exact .inr (.inr (.inr (.inl ⟨_,.inr (.inl rfl),.inl rfl⟩))))
 obtain ⟨g2,cap2,q5,q6,q7,q8,q9,q10,gcs2,gb2⟩:=hlv.form (by omega)
 subst q5
 obtain ⟨z0,z1⟩:=q10 A hA
 have zf0:=gb2.frozen (A * 2)
 have zf1:=gb2.frozen (A * 2+1)
 have fin:=d3.locset HS.out (A:=A) e hA (xn,xr)
 have v1:(w2.alloc (Obj.cells #[xn,.bool xr] 104)).cell? ⟨w2.heap.size,1,none⟩=some (.bool xr):=n3.cell 1
 have hAA:(A:Int) < (D.top.locals.length:Int):=by omega
 have FIN0:Hid (aG W1 w rb tv fv V D.out { ap D with top:={ ax (ap D).top with locals:=D.top.locals.set A (xn,xr) } } (((w2.alloc (Obj.cells #[xn,.bool xr] 104)).setCell ⟨g2,A * 2,none⟩ xn).setCell ⟨g2,A * 2+1,none⟩ (.bool xr))):=by
  obtain ⟨V',f1,f2⟩:=fin
  exact ⟨V',f1,E3.out.trans f2⟩
 simp only at b2
 clear d2 e2 n2 n3 k3 d3 fin hg x0 x5 c1 f1 q10 gb2 hlv
 go_wp2_with fail
 generalize w2.alloc (Obj.cells #[xn,.bool xr] 104)=w3 at *
 generalize w2.heap.size=vb at *
 go_region
 have FIN:Hid (aG W1 w rb tv fv V D.out { ap D with top:={ ax (ap D).top with locals:=D.top.locals.set A (xn,xr) } } ((w3.setCell ⟨g2,A * 2,none⟩ xn).setCell ⟨g2,A * 2+1,none⟩ (.bool xr)).drew):=by
  obtain ⟨V',q1,q2⟩:=FIN0.out
  exact ⟨V',q1.drew,q2.drew⟩
 clear FIN0
 go_wp2
 exact bodyPost_end (v:=.tuple #[]) (by simp [results,Tryz.results34]) rfl ⟨rfl,FIN.out⟩
end
end Go.Proofs.YtnfnbcbadakofaaGreat
