import Derived.Test.YtnfnbcbadakofaaGreatDal
import Derived.Test.YtnfnbcbadakofaaGreatCli
namespace Go.Proofs.YtnfnbcbadakofaaGreat
open Go.RowKit
structure i9 (D:Dn) (G:Nat->Prop):Prop where
 lt:∀ e,G e->e < D.recs.length
 fr:∀ f ∈ az D,(∀ v ∈ f.locals,gv G v)/\(∀ v ∈ f.stack,gv G v)/\f.locals.length<=1000/\f.stack.length<=1000
 rc:∀ e,G e->(∀ v ∈ D.recs.getD e [],gv G v)/\(D.recs.getD e []).length<=1000
 fl:(az D).length<=1000
 rl:D.recs.length<=1000000000000
 lv:bk D<=1000000
theorem pP (recs:List (List (Int × Bool))):∀ (k i:Nat) (m:Mk) (n:Nat),n<=lvW recs k i m n:=by
 intro k
 induction k with
 | zero=>intro i m n;exact Nat.le_refl _
 | succ k ih =>
  intro i m n
  unfold lvW
  split
  ·exact Nat.le_trans (by omega) (ih _ _ _)
  ·exact Nat.le_refl _
theorem rQ (l:List (Int × Bool)):∀ m:Mk,m.list.length<=(mkA m l).list.length:=by
 induction l with
 | nil=>intro m;exact Nat.le_refl _
 | cons x l ih =>
  intro m
  refine Nat.le_trans ?_ (ih (mkV m x))
  unfold mkV
  split
  ·simp
  ·exact Nat.le_refl _
section
variable {W1 w:World} {rb:Nat} {tv fv:Value} {D:Dn} {V:DV}
theorem DI.fr_at (h:DI W1 w rb tv fv D V) {k:Nat} (hk:k < (az D).length):∃ g cap lv kv f,V.fv=.slice (some ⟨g,0,none⟩) (az D).length cap/\g < w.heap.size/\w.cell? ⟨g,k * 4+2,none⟩=some lv/\w.cell? ⟨g,k * 4+3,none⟩=some kv/\aO w W1.heap.size lv f.locals/\aO w W1.heap.size kv f.stack/\f ∈ az D/\(az D).drop k=f::(az D).drop (k+1):=by
 have ho:w.ownsRow W1.heap.size 72 4 V.fv V.fs.length (dfC V.fs):=h.ow.ok (frw V) (by simp [aw])
 have hl:V.fs.length=(az D).length:=by rw [<-h.fe,List.length_map]
 have hc:=fun g=>World.ownsRow.cells (g:=g) ho
 have hk':k < V.fs.length:=by omega
 have hcell:∀ (fs:List (DFr × Value × Value)) (k:Nat) (hk:k < fs.length),(dfC fs)[k * 4+2]?=some fs[k].2.1/\(dfC fs)[k * 4+3]?=some fs[k].2.2:=by
  intro fs
  induction fs with
  | nil=>intro k hk;simp at hk
  | cons x fs ih =>
   intro k hk
   cases k with
   | zero=>exact ⟨rfl,rfl⟩
   | succ k =>
    have:=ih k (by simpa using hk)
    rw [show (k+1) * 4+2=(k * 4+2)+4 by omega,show (k+1) * 4+3=(k * 4+3)+4 by omega]
    simpa [dfC] using this
 rcases ho.2 with ⟨_,h0⟩ | ⟨g,cap,cur,hv,hb,hgg,hle,hcap,_⟩
 ·omega
 ·have q2:=hc g (by rw [hv];rfl) _ _ (hcell V.fs k hk').1
  have q3:=hc g (by rw [hv];rfl) _ _ (hcell V.fs k hk').2
  rw [dV,Nat.zero_add] at q2 q3
  have hm:V.fs[k] ∈ V.fs:=List.getElem_mem hk'
  have hfe:(az D)[k]=V.fs[k].1:=by
   have:(V.fs.map (·.1))[k]'(by rw [List.length_map];exact hk')=V.fs[k].1:=by rw [List.getElem_map]
   rw [<-this]
   congr 1
   exact h.fe.symm
  refine ⟨g,cap,_,_,V.fs[k].1,by rw [hv,hl],(Array.getElem?_eq_some_iff.1 hgg).1,q2,q3,h.ow.ok (vrw V.fs[k].2.1 V.fs[k].1.locals) ?_,h.ow.ok (vrw V.fs[k].2.2 V.fs[k].1.stack) ?_,?_,?_⟩
  ·simp only [aw,fsr,List.mem_cons,List.mem_append,List.mem_flatMap]
   exact .inr (.inr (.inr (.inl ⟨_,hm,by simp⟩)))
  ·simp only [aw,fsr,List.mem_cons,List.mem_append,List.mem_flatMap]
   exact .inr (.inr (.inr (.inl ⟨_,hm,by simp⟩)))
  ·rw [<-hfe];exact List.getElem_mem _
  ·rw [List.drop_eq_getElem_cons hk,hfe]
theorem DI.rc_at (h:DI W1 w rb tv fv D V) {k:Nat} (hk:k < D.recs.length):∃ g cap v,V.rv=.slice (some ⟨g,0,none⟩) D.recs.length cap/\g < w.heap.size/\w.cell? ⟨g,k,none⟩=some v/\aO w W1.heap.size v (D.recs.getD k []):=by
 have ho:w.ownsRow W1.heap.size 74 1 V.rv V.rs.length (V.rs.map (·.2)):=h.ow.ok (rrw V) (by simp [aw])
 have hl:V.rs.length=D.recs.length:=by rw [<-h.re,List.length_map]
 have hc:=fun g=>World.ownsRow.cells (g:=g) ho
 have hk':k < V.rs.length:=by omega
 rcases ho.2 with ⟨_,h0⟩ | ⟨g,cap,cur,hv,hb,hgg,hle,hcap,_⟩
 ·omega
 ·have q:=hc g (by rw [hv];rfl) k V.rs[k].2 (by rw [List.getElem?_map,List.getElem?_eq_getElem hk'];rfl)
  rw [dV,Nat.zero_add] at q
  have e:D.recs.getD k []=V.rs[k].1:=by rw [<-h.re,List.getD_eq_getElem?_getD,List.getElem?_map,List.getElem?_eq_getElem hk'];rfl
  refine ⟨g,cap,_,by rw [hv,hl],(Array.getElem?_eq_some_iff.1 hgg).1,q,?_⟩
  rw [e]
  refine h.ow.ok (vrw V.rs[k].2 V.rs[k].1) ?_
  simp only [aw,rsr,List.mem_cons,List.mem_append,List.mem_map]
  exact .inr (.inr (.inr (.inr ⟨_,List.getElem_mem hk',rfl⟩)))
set_option maxHeartbeats 4000000 in
set_option maxRecDepth 100000 in
theorem gj (h:DI W1 w rb tv fv D V) {G:Nat->Prop} (ok:i9 D G) :
 Calls Tryz.prog 7 #[.pointer rb] w fun e w'=>e=.returned (.int .i64 (bk D:Int))/\Chg () w w':=by
 have hrr:w.ownsRow W1.heap.size 74 1 V.rv V.rs.length (V.rs.map (·.2)):=h.ow.ok (rrw V) (by simp [aw])
 have hff:w.ownsRow W1.heap.size 72 4 V.fv V.fs.length (dfC V.fs):=h.ow.ok (frw V) (by simp [aw])
 have hrl:V.rs.length=D.recs.length:=by rw [<-h.re,List.length_map]
 have hfl:V.fs.length=(az D).length:=by rw [<-h.fe,List.length_map]
 obtain ⟨ra,rc,hrv⟩:∃ a c,V.rv=.slice a D.recs.length c:=by
  rcases hrr.2 with ⟨q,q0⟩ | ⟨g,c,_,q,_⟩
  ·exact ⟨none,0,by rw [q,<-hrl,q0]⟩
  ·exact ⟨_,c,by rw [q,hrl]⟩
 obtain ⟨fa,fc,hfv⟩:∃ a c,V.fv=.slice a (az D).length c:=by
  rcases hff.2 with ⟨q,q0⟩ | ⟨g,c,_,q,_⟩
  ·exact ⟨none,0,by rw [q,<-hfl,q0]⟩
  ·exact ⟨_,c,by rw [q,hfl]⟩
 have x5:w.cell? ⟨rb,5,none⟩=some (.slice fa (az D).length fc):=by rw [<-hfv];exact h.bx.cell 5
 have x6:w.cell? ⟨rb,6,none⟩=some (.slice ra D.recs.length rc):=by rw [<-hrv];exact h.bx.cell 6
 have H:=hid h
 have OK:=hid ok
 have HRV:=hid hrv
 have HFV:=hid hfv
 have hr12:=ok.rl
 have hLV:=ok.lv
 have hf3:=ok.fl
 have hmk1:=run_make_row' (P:=Tryz.prog) 66 4 (.bool false) 1 Tryz.underlying66 lY rfl .i64 .i64 D.recs.length (by omega) (by omega)
 have HRE:=hid (h.re)
 have HFE:=hid (h.fe)
 have HLV:Hid (bk D=lvW D.recs (D.recs.length+1) 0 (cI ⟨List.replicate D.recs.length false,[]⟩ (az D)) 0):=rfl
 clear h ok hrr hff hrl hfl hrv hfv
 generalize bk D=LV at *
 go_enter Tryz.func7,Tryz.ntmps7
 go_wp2
 have hM0:MJ w ((w.alloc (Obj.cells (madeCells #[.bool false] D.recs.length) 4)).alloc (Obj.cells #[.slice w.heap.size D.recs.length D.recs.length,()] 68)) (w.heap.size+1) (.slice w.heap.size D.recs.length D.recs.length) (.slice none 0 0) ⟨List.replicate D.recs.length false,[]⟩:=by
  refine ⟨((Chg.refl _ w).alloc _).alloc _,by omega,Blk.new' (by simp) _ 68,?_,World.ownsRow_nil _ _ _ _⟩
  have:=fS (base:=w.heap.size) ((Blk.new w (madeCells #[.bool false] D.recs.length) 4).alloc (Obj.cells #[.slice w.heap.size D.recs.length D.recs.length,()] 68)) (Nat.le_refl _) (by unfold maxLen;omega)
  simpa using this
 have HM0:Hid _:=hM0
 have HOK0:Hid (iC G ⟨List.replicate D.recs.length false,[]⟩):=⟨by simp [List.countP_replicate],fun k hk=>by simp at hk⟩
 have HSL0:Hid ((⟨List.replicate D.recs.length false,[]⟩:Mk).seen.length=D.recs.length):=List.length_replicate
 clear hM0
 generalize (w.alloc (Obj.cells (madeCells #[.bool false] D.recs.length) 4)).alloc (Obj.cells #[.slice w.heap.size D.recs.length D.recs.length,()] 68)=W2 at *
 generalize (⟨List.replicate D.recs.length false,[]⟩:Mk)=m0 at *
 generalize w.heap.size+1=mb at *
 go_loopw [4] (fun iv wr=>∃ (k:Nat) (mk:Mk) (sv' lv':Value),iv=.int .i64 (k:Int)/\k<=(az D).length/\MJ w wr mb sv' lv' mk/\iC G mk/\mk.seen.length=D.recs.length/\cI mk ((az D).drop k)=cI m0 (az D)) (fun iv _=>(az D).length - (intOf iv).toNat)
 case atStart=>exact ⟨0,m0,_,_,rfl,Nat.zero_le _,HM0.out,HOK0.out,HSL0.out,rfl⟩
 case round =>
  obtain ⟨k,mk,sv',lv',rfl,hk,hM,hok,hsl,hE⟩:=hrel
  have HM:=hid hM
  have HOK:=hid hok
  have HE:=hid hE
  have HSL:=hid hsl
  have y5:=hM.ch.cellF x5
  clear hM hok hE hsl
  by_cases hlt:k < (az D).length
  ·have hlt':(k:Int) < ((az D).length:Int):=by omega
   obtain ⟨g,cap,lv,kv,f,e1,e2,c2,c3,v2,v3,hfm,hdr⟩:=H.out.fr_at hlt
   obtain ⟨g1,g2,g3,g4⟩:=OK.out.fr f hfm
   have e1':=HFV.out.symm.trans e1
   simp only [Value.slice.injEq] at e1'
   obtain ⟨rfl,_,rfl⟩:=e1'
   have HDR:=hid hdr
   have HV2:=hid v2
   have HV3:=hid v3
   have HG1:=hid g1
   have HG2:=hid g2
   obtain ⟨la,lc,hlv⟩:=v2.slice
   obtain ⟨ka,kc,hkv⟩:=v3.slice
   subst hlv hkv
   have C2:=hid c2
   have C3:=hid c3
   have z2:=HM.out.ch.cellF c2
   have HLT:Hid (∀ g' (v:Value) (l:List (Int × Bool)),aO w W1.heap.size v l->v.ownBlock=some g'->g' < w.heap.size):=fun g' v l hv hg=>(cy hv hg).2
   clear e1 c2 c3 v2 v3 hdr g1 g2 hfm
   go_wp2_with fail
   refine (i6 HM.out HOK.out (fun e he=>by rw [HSL.out];exact OK.out.lt e he) (by rw [HSL.out];exact hr12) _ f.locals _ (af HV2.out HM.out.ch (fun _ _ q=>q)) (fun g' hg=>HLT.out g' _ _ HV2.out hg) g3 HG1.out).mono ?_
   rintro ex w3 ⟨rfl,ok3,sl3,sv3,lv3,hM3⟩
   have HM3:=hid hM3
   have HOK3:=hid ok3
   have HSL3:=hid (sl3.trans HSL.out)
   have y53:=hM3.ch.cellF x5
   have z3:=hM3.ch.cellF C3.out
   clear hM3 ok3 sl3 y5 z2
   go_wp2_with fail
   refine (i6 HM3.out HOK3.out (fun e he=>by rw [HSL3.out];exact OK.out.lt e he) (by rw [HSL3.out];exact hr12) _ f.stack _ (af HV3.out HM3.out.ch (fun _ _ q=>q)) (fun g' hg=>HLT.out g' _ _ HV3.out hg) g4 HG2.out).mono ?_
   rintro ex w4 ⟨rfl,ok4,sl4,sv4,lv4,hM4⟩
   have HM4:=hid hM4
   have HOK4:=hid ok4
   have HSL4:=hid (sl4.trans HSL3.out)
   have HF:Hid (cI (mkA (mkA mk f.locals) f.stack) ((az D).drop (k+1))=cI m0 (az D)):=by
    show cI (mkA (mkA mk f.locals) f.stack) ((az D).drop (k+1))=cI m0 (az D)
    rw [<-HE.out,HDR.out];rfl
   clear hM4 ok4 sl4 y53 z3
   go_wp2
   exact ⟨⟨k+1,_,sv4,lv4,rfl,by omega,HM4.out,HOK4.out,HSL4.out,HF.out⟩,by simp [intOf];omega⟩
  ·have hlt':((az D).length:Int)<=(k:Int):=by omega
   have HF:Hid (mk=cI m0 (az D)):=by
    show mk=cI m0 (az D)
    rw [<-HE.out,List.drop_eq_nil_of_le (by omega)];rfl
   clear HE
   go_wp2
   have HL0:Hid (lvW D.recs (D.recs.length+1 - 0) 0 mk 0=LV):=by
    show lvW D.recs (D.recs.length+1 - 0) 0 mk 0=LV
    rw [HLV.out,HF.out];rfl
   go_loopw [5,6] (fun wv iv wr=>∃ (k n:Nat) (mk:Mk) (sv' lv':Value),wv=.int .i64 (n:Int)/\iv=.int .i64 (k:Int)/\k<=mk.list.length/\MJ w wr mb sv' lv' mk/\iC G mk/\mk.seen.length=D.recs.length/\lvW D.recs (D.recs.length+1 - k) k mk n=LV) (fun _ iv _=>D.recs.length+1 - (intOf iv).toNat)
   case atStart=>exact ⟨0,0,mk,_,_,rfl,rfl,Nat.zero_le _,HM.out,HOK.out,HSL.out,HL0.out⟩
   case round =>
    clear HM HOK HSL HF HL0 y5
    obtain ⟨k,n,mk,sv',lv',rfl,rfl,hk,hM,hok,hsl,hE⟩:=hrel
    have HM:=hid hM
    have HOK:=hid hok
    have HE:=hid hE
    have HSL:=hid hsl
    have hll:mk.list.length<=D.recs.length:=by rw [hok.len,<-hsl];exact List.countP_le_length
    have hn:n<=1000000:=by have:=pP D.recs (D.recs.length+1 - k) k mk n;omega
    obtain ⟨ia,ic,hlv⟩:=hM.ll.slice
    rw [List.length_map] at hlv
    subst hlv
    have y1:wr.cell? ⟨mb,1,none⟩=some (.slice ia mk.list.length ic):=hM.bx.cell 1
    have y6:=hM.ch.cellF x6
    by_cases hlt:k < mk.list.length
    ·have hlt':(k:Int) < (mk.list.length:Int):=by omega
     obtain ⟨gl,cl,hve,h91,h92,h93,hcl⟩:=hM.ll.form (by rw [List.length_map];omega)
     simp only [Value.slice.injEq] at hve
     obtain ⟨rfl,h94,rfl⟩:=hve
     clear h91 h92 h93 h94
     have yl:=hcl k (by rw [List.length_map];exact hlt)
     have eq:(mk.list.map fun (k:Nat)=>(k:Int)).getD k 0=((mk.list.getD k 0:Nat):Int):=by
      rw [List.getD_eq_getElem?_getD,List.getElem?_map,List.getD_eq_getElem?_getD,List.getElem?_eq_getElem hlt];rfl
     rw [eq] at yl
     have hgj:G (mk.list.getD k 0):=hok.mem _ (by rw [List.getD_eq_getElem?_getD,List.getElem?_eq_getElem hlt];exact List.getElem_mem hlt)
     have hstep:lvW D.recs (D.recs.length+1 - (k+1)) (k+1) (mkA mk (D.recs.getD (mk.list.getD k 0) [])) (n+1+(D.recs.getD (mk.list.getD k 0) []).length)=LV:=by
      rw [<-HE.out,show D.recs.length+1 - k=(D.recs.length+1 - (k+1))+1 by omega,lvW,if_pos hlt]
     generalize mk.list.getD k 0=j at *
     have hjl:=OK.out.lt j hgj
     obtain ⟨g,cap,v,e1,e2,c1,v1⟩:=H.out.rc_at hjl
     obtain ⟨r1,r2⟩:=OK.out.rc j hgj
     have e1':=HRV.out.symm.trans e1
     simp only [Value.slice.injEq] at e1'
     obtain ⟨rfl,_,rfl⟩:=e1'
     obtain ⟨va,vc,hv⟩:=v1.slice
     subst hv
     generalize D.recs.getD j []=rl at *
     have z1:=hM.ch.cellF c1
     have hjl':(j:Int) < (D.recs.length:Int):=by omega
     have HV1:=hid v1
     have HR1:=hid r1
     have HST:=hid hstep
     have hn2:n+1+rl.length<=1000000:=by have:=pP D.recs (D.recs.length+1 - (k+1)) (k+1) (mkA mk rl) (n+1+rl.length);omega
     clear hM hok hE hsl hcl eq hgj hstep e1 c1 v1 r1 HE
     go_wp2_with fail
     go_quiet (fail)
     have HMq:Hid (MJ w (wr.drewN nq) mb sv' (.slice gl mk.list.length ic) mk):=HM.out.new ((Chg.refl _ _).drewN nq)
     clear HM y1 yl y6 z1
     generalize wr.drewN nq=wq at *
     go_wp2_with fail
     refine (i6 HMq.out HOK.out (fun e he=>by rw [HSL.out];exact OK.out.lt e he) (by rw [HSL.out];exact hr12) _ rl _ (af HV1.out HMq.out.ch (fun _ _ q=>q)) (fun g' hg=>(cy HV1.out hg).2) r2 HR1.out).mono ?_
     rintro ex w3 ⟨rfl,ok3,sl3,sv3,lv3,hM3⟩
     have HM3:=hid hM3
     have HOK3:=hid ok3
     have HSL3:=hid (sl3.trans HSL.out)
     have HKL:Hid (k+1<=(mkA mk rl).list.length):=Nat.le_trans hlt (rQ rl mk)
     clear hM3 ok3 sl3
     go_wp2
     exact ⟨⟨k+1,n+1+rl.length,_,sv3,lv3,by simp,rfl,HKL.out,HM3.out,HOK3.out,HSL3.out,HST.out⟩,by simp [intOf];omega⟩
    ·have hlt':(mk.list.length:Int)<=(k:Int):=by omega
     have HF:Hid (n=LV):=by
      show n=LV
      rw [<-HE.out]
      cases D.recs.length+1 - k with
      | zero=>rfl
      | succ q=>unfold lvW;rw [if_neg hlt]
     clear hM hok hE hsl HE
     go_wp2
     go_ret
     exact ⟨by rw [HF.out];rfl,HM.out.ch⟩
end
end Go.Proofs.YtnfnbcbadakofaaGreat
namespace Go.Proofs.YtnfnbcbadakofaaGreat
open Go.RowKit
section
variable {W1 w w':World} {rb:Nat} {tv fv:Value} {D:Dn} {V:DV}
theorem OE.skip {base:Nat} {w0:World} {L0 L:List Rw} (h:OE base rb w0 L0 w L) {S:Nat->Prop} (k:Chg S w w') (hS:∀ j,S j->w0.heap.size<=j/\¬ bN L j):OE base rb w0 L0 w' L:=
 ⟨h.ow.off k (fun j hj q=>(hS j q).2 hj),⟨h.ev.ch.trans' k (fun i hi q=>by have:=(hS i q).1;omega),h.ev.nw⟩,h.nb,Nat.lt_of_lt_of_le h.lt k.size⟩
theorem OE.adopt {base:Nat} {w0:World} {L0 L:List Rw} {r':Rw} (h:OE base rb w0 L0 w L) (hr:w.ownsRow base r'.e r'.k r'.v r'.n r'.xs) (hn:∀ g,r'.v.ownBlock=some g->w0.heap.size<=g/\g ≠ rb/\¬ bN L g):OE base rb w0 L0 w (r'::L):=by
 refine ⟨⟨fun x hx=>?_,List.pairwise_cons.2 ⟨fun b hb g h1 h2=>(hn g h1).2.2 ⟨b,hb,h2⟩,h.ow.sp⟩⟩,⟨h.ev.ch,fun j ⟨x,hx,hj⟩=>?_⟩,fun ⟨x,hx,hj⟩=>?_,h.lt⟩
 ·rcases List.mem_cons.1 hx with rfl | hx
  ·exact hr
  ·exact h.ow.ok x hx
 ·rcases List.mem_cons.1 hx with rfl | hx
  ·exact .inr (hn j hj).1
  ·exact h.ev.nw j ⟨x,hx,hj⟩
 ·rcases List.mem_cons.1 hx with rfl | hx
  ·exact (hn _ hj).2.1 rfl
  ·exact h.nb ⟨x,hx,hj⟩
set_option maxHeartbeats 4000000 in
set_option maxRecDepth 100000 in
theorem ni (h:DI W1 w rb tv fv D V) (hb:DB D) {b1:Nat} {fs:List Fn} (hF:aj 93 107 W1 b1 fv fs) (gi:Nat) (hgi:gi < fs.length) (na:Nat) (hna:fs[gi].args=(na:Int)) (hal:na<=fs[gi].locals.length) (hll:fs[gi].locals.length<=100) (hst:na<=D.top.stack.length) :
 Calls Tryz.prog 60 #[.pointer rb,gi] w fun e w'=>e=.returned (.tuple #[]) /\
  aG W1 w rb tv fv V D.out (if D.depth<=(D.below.length:Int)+1 then { D with status:=5 } else { D with below:=D.below++[{ D.top with stack:=D.top.stack.take (D.top.stack.length - na) }],top:=⟨gi,0,D.top.stack.drop (D.top.stack.length - na)++cz fs[gi].locals na,[]⟩ }) w':=by
 obtain ⟨xs,lv,kv,e,hxs⟩:=h.top hb.st
 obtain ⟨g,cap,hg,hg1,hg2,hc1,hc2,c0,c1,c2,c3,fz,gcs,gb⟩:=h.frs e
 have hxl:xs.length=D.below.length:=by rw [<-hxs,List.length_map]
 have hbl:=hb.bl
 have x5:w.cell? ⟨rb,5,none⟩=some (.slice g (xs.length+1) cap):=by rw [<-hg];exact h.bx.cell 5
 have x3:w.cell? ⟨rb,3,none⟩=some (.int .i64 D.depth):=h.bx.cell 3
 by_cases hd:D.depth<=(D.below.length:Int)+1
 ·rw [if_pos hd]
  have hd':D.depth<=(xs.length:Int)+1:=by omega
  have HE:Hid (∀ w1,Chg () w w1->Calls Tryz.prog 85 #[.pointer rb,(5:Int)] w1 fun e w'=>e=.returned (.tuple #[])/\aG W1 w rb tv fv V D.out { D with status:=5 } w'):=fun w1 k=>(fJ (h.new k) 5 (by decide)).mono fun e w' ⟨h1,V',h2,h3⟩=>⟨h1,V',h2,(Ev.new rb _ k).trans h3⟩
  clear h hb hF e hg fz gb c0 c1 c2 c3 hd
  go_enter Tryz.func60,Tryz.ntmps60
  go_wp2_with fail
  go_quiet (fail)
  go_wp2_with fail
  refine (HE.out _ ((Chg.refl _ _).drewN nq)).mono ?_
  rintro ex w1 ⟨rfl,hfin⟩
  have FIN:Hid _:=hfin
  clear hfin x5 x3
  go_wp2
  exact bodyPost_ret (v:=.tuple #[]) (by simp [results,Tryz.results60]) rfl ⟨rfl,FIN.out⟩
 ·rw [if_neg hd]
  have hd':¬ D.depth<=(xs.length:Int)+1:=by omega
  obtain ⟨fg,fcap,hfv,hfc,hcells⟩:=hF.formS (by omega)
  obtain ⟨fl,fcd,f0,f1,f2,f3,fI,fC⟩:=hcells gi hgi
  obtain ⟨la,lc,rfl⟩:=fI.slice
  obtain ⟨ca,cc,rfl⟩:=fC.slice
  rw [hna] at f0
  replace f0:=h.ch.cellF f0
  replace f1:=h.ch.cellF f1
  replace f2:=h.ch.cellF f2
  replace f3:=h.ch.cellF f3
  have x1:w.cell? ⟨rb,1,none⟩=some (.slice fg fs.length fcap):=by rw [<-hfv];exact h.bx.cell 1
  have hgi':(gi:Int) < (fs.length:Int):=by omega
  have HP:Hid (∀ (w':World),Chg () w w'->Calls Tryz.prog 86 #[.pointer rb,na] w' (jX W1 w' rb tv fv V D na)):=fun w' k=>gC (h.new k) hb.st hb.bl hb.sl na hst
  have HI:=hid fI
  have H:=hid h
  generalize fs[gi].locals=L at *
  generalize fs[gi].code.length=cn at *
  generalize fs[gi].result=rs at *
  have hsl:=hb.sl
  have HST:Hid (D.status=0 \/ D.status=2):=hb.st
  clear h hb hF hcells fI fC e hg fz gb c0 c1 c2 c3 hd hfv hna
  go_enter Tryz.func60,Tryz.ntmps60
  go_wp2_with fail
  go_quiet (fail)
  have z1:(w.drewN nq).cell? ⟨rb,1,none⟩=some (.slice fg fs.length fcap):=x1
  have z5:(w.drewN nq).cell? ⟨fg,gi * 4,none⟩=some (.int .i64 (na:Int)):=f0
  have z6:(w.drewN nq).cell? ⟨fg,gi * 4+1,none⟩=some (.slice la L.length lc):=f1
  have z7:(w.drewN nq).cell? ⟨fg,gi * 4+2,none⟩=some (.int .i64 rs):=f2
  have z8:(w.drewN nq).cell? ⟨fg,gi * 4+3,none⟩=some (.slice ca cn cc):=f3
  have K0:Hid (Chg () w (w.drewN nq)):=(Chg.refl _ _).drewN nq
  clear x1 x3 x5 f0 f1 f2 f3
  generalize w.drewN nq=wq at *
  have nF:=Blk.new wq #[.int .i64 (na:Int),.slice la L.length lc,.int .i64 rs,.slice ca cn cc] 93
  have kF:Chg () w (wq.alloc (Obj.cells #[na,.slice la L.length lc,rs,.slice ca cn cc] 93)):=K0.out.alloc _
  obtain ⟨a0,a1,_,_,_,_,_,_⟩:=aL nF
  go_wp2_with fail
  have hwz:w.heap.size<=wq.heap.size:=K0.out.size
  have hrz:rb < w.heap.size:=H.out.bx.lt
  refine (HP.out _ kF).mono ?_
  rintro ex w2 ⟨u,V2,rfl,hu,d2,e2,hbk⟩
  obtain ⟨ua,uc,rfl⟩:=hu.slice
  have nF2:=e2.blk nF (by omega) (H.out.old hwz)
  obtain ⟨b0,b1',_,_,_,_,_,_⟩:=aL nF2
  have hdl:(D.top.stack.drop (D.top.stack.length - na)).length<=1000:=by rw [List.length_drop];omega
  have HU:=hid hu
  have D2:=hid d2
  have O2:Hid (OE W1.heap.size rb w (aw V D.out) w2 (aw V2 D.out)):=⟨d2.ow,(Ev.new rb _ kF).trans e2,d2.nrb,d2.bx.lt⟩
  have HBK:Hid (∀ j,bN (aw V2 D.out) j->j < w.heap.size):=fun j hj=>(H.out.ow.lt (hbk j hj)).2
  have hsz2:w.heap.size<=(wq.alloc (Obj.cells #[na,.slice la L.length lc,rs,.slice ca cn cc] 93)).heap.size:=kF.size
  have hsz3:=e2.ch.size
  clear nF nF2 hu d2 e2 hbk a0 a1 z1 z5 z6 z7 z8
  generalize hde:D.top.stack.drop (D.top.stack.length - na)=dl at *
  have HDE:=hid hde
  clear hde
  generalize (wq.alloc (Obj.cells #[na,.slice la L.length lc,rs,.slice ca cn cc] 93)).heap.size=bs at *
  generalize wq.heap.size=fb at *
  go_wp2_with fail
  refine (iS _ L na w2 b1 (af HI.out D2.out.ch (fun _ _ q=>q)) hal (by omega)).mono ?_
  rintro ex w3 ⟨v3,rfl,hv3,k3⟩
  obtain ⟨va,vc,rfl⟩:=hv3.slice
  have hbp:(cz L na).length<=100:=by unfold cz;rw [List.length_map,List.length_drop];omega
  have HV3:=hid hv3
  have HU3:Hid (aO w3 bs (.slice ua dl.length uc) dl):=af HU.out k3 (fun _ _ q=>q)
  have O3:=hid (O2.out.new k3)
  have D3:=hid (D2.out.new k3)
  have hsz4:=k3.size
  clear hv3 k3 O2 HU b0 b1' kF
  generalize hbe:cz L na=bp at *
  have HBE:=hid hbe
  clear hbe
  go_wp2_with (at_builtin;refine lw rfl _ _ rfl bs (.slice ua dl.length uc) (.slice va bp.length vc) dl bp rfl rfl HU3.out HV3.out.rd (by omega) (by omega) ?_)
  intro xa xn xc w4 hxn hx4 hch4 hl4
  have hul:∀ j,some j=(Value.slice ua dl.length uc).ownBlock->bs<=j:=fun j q=>(cy HU3.out q.symm).1
  have O4:Hid (OE W1.heap.size rb w (aw V D.out) w4 (vrw (.slice xa xn xc) (dl++bp)::aw V2 D.out)):=by
   refine (O3.out.skip hch4 (fun j q=>?_)).adopt (r':=vrw (.slice xa xn xc) (dl++bp)) ?_ (fun j q=>?_)
   ·have:=hul j q
    exact ⟨by omega,fun z=>by have:=HBK.out j z;omega⟩
   ·have q:=am hx4 (Nat.le_trans H.out.ch.size hsz2)
    show World.ownsRow _ _ _ _ _ (dl++bp).length _
    exact q
   ·have hj:bs<=j:=by
     rcases hl4 with z | ⟨g',z,z'⟩
     ·exact hul j (by rw [<-z];exact q.symm)
     ·have:g'=j:=Option.some.inj (z.symm.trans q)
      omega
    exact ⟨by omega,by omega,fun z=>by have:=HBK.out j z;omega⟩
  have hB4:Blk w4 rb (dcs tv fv { D with top:={ D.top with stack:=D.top.stack.take (D.top.stack.length - na) } } V2) 53:=D3.out.bx.chg hch4 (fun q=>by have:=hul rb q;omega)
  obtain ⟨xs2,lv2,kv2,f2,hxs2⟩:=D3.out.top (by exact HST.out)
  obtain ⟨g2,cap2,hg2',_,hg2l,_⟩:=D3.out.frs f2
  have hx2l:xs2.length=D.below.length:=by rw [<-hxs2,List.length_map]
  have hr4:w4.ownsRow W1.heap.size 72 4 V2.fv V2.fs.length (dfC V2.fs):=O4.out.ow.ok (frw V2) (by simp [aw])
  have hl2:V2.fs.length=D.below.length+1:=by rw [f2,List.length_append,hx2l];rfl
  rw [hg2',hl2,hx2l] at hr4
  have HR4:=hid hr4
  have y5:w4.cell? ⟨rb,5,none⟩=some (.slice g2 (D.below.length+1) cap2):=by rw [<-hx2l,<-hg2'];exact hB4.cell 5
  have HB4:=hid hB4
  have HG2:Hid (V2.fv=.slice g2 (D.below.length+1) cap2):=by rw [<-hx2l];exact hg2'
  have HX2:Hid (V2.fs.map (·.1)=D.below++[{ D.top with stack:=D.top.stack.take (D.top.stack.length - na) }]):=by
   show V2.fs.map (·.1)=_
   rw [f2,List.map_append,hxs2];rfl
  have HRE:=hid (D3.out.re)
  have HL2:=hid hl2
  have hsz5:=hch4.size
  have hW4:W1.heap.size<=w4.heap.size:=by have:=H.out.ch.size;omega
  clear hul hch4 hl4 hx4 hxn O3 D3 HU3 HV3 hB4 f2 hg2' hr4 hl2 hxs2
  obtain ⟨i,hi1,hi2,hi3,hi4⟩:=lE
  have Hi1:Hid _:=hi1
  have Hi2:Hid _:=hi2
  have Hi3:Hid _:=hi3
  have Hi4:Hid _:=hi4
  clear hi1 hi2 hi3 hi4
  have k5:Chg () w4 (w4.alloc (Obj.cells #[gi,oO,.slice xa xn xc,()] 72)):=(Chg.refl _ _).alloc _
  have K5:=hid k5
  have HR5:Hid ((w4.alloc (Obj.cells #[gi,oO,.slice xa xn xc,()] 72)).ownsRow W1.heap.size 72 4 (.slice g2 (D.below.length+1) cap2) (D.below.length+1) (dfC V2.fs)):=af HR4.out k5 (fun _ _ q=>q)
  have HN5:Hid (∀ j u,[Value.int .i64 (gi:Int),.int .i64 0,.slice xa xn xc,.slice none 0 0][j]?=some u->(w4.alloc (Obj.cells #[gi,oO,.slice xa xn xc,()] 72)).cell? ((⟨w4.heap.size,0,none⟩:Addr).add j)=some u):=World.news_of_block (B:=w4.heap.size) (cs:=#[.int .i64 (gi:Int),.int .i64 0,.slice xa xn xc,.slice none 0 0]) (Blk.new' rfl _ 72)
  clear k5
  go_wp2_with (at_builtin;refine wpList_append_lies _ rfl _ _ 50 rfl W1.heap.size 72 i (.agg #[oO,oO,(),()]) 4 64 Tryz.underlying50 Hi1.out Hi2.out Hi3.out Hi4.out rfl (by decide) (.slice g2 (D.below.length+1) cap2) (D.below.length+1) (dfC V2.fs) rfl HR5.out ⟨w4.heap.size,0,none⟩ 1 1 [.int .i64 (gi:Int),.int .i64 0,.slice xa xn xc,.slice none 0 0] rfl rfl HN5.out (by intro u hu;simp only [List.mem_cons,List.not_mem_nil,or_false] at hu;rcases hu with rfl | rfl | rfl | rfl <;> rfl) (by decide) (by unfold maxLen;omega) (by omega) (by simp;omega) _ rfl ?_)
  intro g6 cap6 w6 hown6 hgrow hat hlt6
  have hch6:Chg (fun j=>some j=(Value.slice g2 (D.below.length+1) cap2).ownBlock) (w4.alloc (Obj.cells #[gi,oO,.slice xa xn xc,()] 72)) w6:=(aM hgrow).mono (fun _ _ q=>q)
  have hrb2:rb ≠ g2:=fun q=>O4.out.nb ⟨frw V2,by simp [aw],by show V2.fv.ownBlock=_;rw [HG2.out,q];rfl⟩
  have hB6:=(HB4.out.chg K5.out (fun q=>q)).chg hch6 (fun q=>hrb2 (Option.some.inj q))
  have y5':w6.cell? ⟨rb,5,none⟩=some (.slice g2 (D.below.length+1) cap2):=by rw [<-HG2.out];exact hB6.cell 5
  have f5':=hB6.frozen 5
  have FIN:Hid (aG W1 w rb tv fv V D.out { D with below:=D.below++[{ D.top with stack:=D.top.stack.take (D.top.stack.length - na) }],top:=⟨gi,0,dl++bp,[]⟩ } (w6.setCell ⟨rb,5,none⟩ (.slice g6 (D.below.length+1+1) cap6))):=by
   have o5:OE W1.heap.size rb w (aw V D.out) (w4.alloc (Obj.cells #[gi,oO,.slice xa xn xc,()] 72)) (frw V2::vrw (.slice xa xn xc) (dl++bp)::rrw V2::orw V2 D.out::(fsr V2.fs++rsr V2.rs)):=(O4.out.new K5.out).perm (List.Perm.swap _ _ _)
   obtain ⟨V',hV'⟩:∃ V':DV,V' = { V2 with fv:=.slice g6 (D.below.length+1+1) cap6,fs:=V2.fs++[(⟨gi,0,dl++bp,[]⟩,.slice xa xn xc,.slice none 0 0)] }:=⟨_,rfl⟩
   have o6:OE W1.heap.size rb w (aw V D.out) w6 (frw V'::vrw (.slice xa xn xc) (dl++bp)::rrw V2::orw V2 D.out::(fsr V2.fs++rsr V2.rs)):=by
    refine o5.upd (r':=frw V') hch6 (fun j q=>.inr ?_) ?_ ?_
    ·show V2.fv.ownBlock=_;rw [HG2.out];exact q.symm
    ·rw [hV'];unfold frw
     simp only [List.length_append,List.length_singleton,HL2.out,dy]
     exact hown6
    ·rcases hat with q | q
     ·exact .inl (by rw [hV'];show _=V2.fv.ownBlock;rw [HG2.out,q];rfl)
     ·exact .inr ⟨g6,by rw [hV'];rfl,by rw [q];simp⟩
   have o7:=(o6.add (r':=vrw (.slice none 0 0) []) (Chg.refl _ _) (World.ownsRow_nil _ _ _ _) (fun g hg=>by cases hg)).box (w':=w6.setCell ⟨rb,5,none⟩ (.slice g6 (D.below.length+1+1) cap6)) (Chg.setCell (S:=fun j=>j=rb) (Chg.refl _ _) _ _ (.inl rfl))
   refine H.out.fin (V':=V') o7 ?_ ?_ ?_ ?_
   ·have e1:aw V' D.out=(frw V'::rrw V2::orw V2 D.out::fsr V2.fs)++(vrw (.slice xa xn xc) (dl++bp)::vrw (.slice none 0 0) []::rsr V2.rs):=by rw [hV'];simp [aw,fsr,rrw,orw]
    show List.Perm _ (aw V' D.out)
    rw [e1]
    refine List.Perm.trans ?_ List.perm_middle.symm
    refine (List.Perm.swap _ _ _).trans ?_
    refine (List.Perm.cons _ (List.Perm.swap _ _ _)).trans ?_
    refine (List.Perm.swap _ _ _).trans ?_
    refine List.Perm.cons _ ?_
    have e2:(frw V'::rrw V2::orw V2 D.out::fsr V2.fs)++(vrw (.slice none 0 0) []::rsr V2.rs)=frw V'::((rrw V2::orw V2 D.out::fsr V2.fs)++(vrw (.slice none 0 0) []::rsr V2.rs)):=by simp
    rw [e2]
    refine List.Perm.cons _ ?_
    refine List.Perm.trans ?_ List.perm_middle.symm
    simp
   ·have:=hB6.set 5 (.slice g6 (D.below.length+1+1) cap6)
    rw [hV']
    exact this
   ·rw [hV']
    unfold az
    rw [if_pos HST.out]
    simp only [List.map_append,HX2.out,List.map_cons,List.map_nil]
   ·rw [hV'];exact HRE.out
  clear hown6 hgrow hat hlt6 hch6 hrb2 hB6
  go_wp2
  exact bodyPost_end (v:=.tuple #[]) (by simp [results,Tryz.results60]) rfl ⟨rfl,by rw [HDE.out,HBE.out];exact FIN.out⟩
end
end Go.Proofs.YtnfnbcbadakofaaGreat
namespace Go.Proofs.YtnfnbcbadakofaaGreat
open Go.RowKit
set_option maxHeartbeats 4000000
set_option maxRecDepth 100000
theorem nA (rb:Nat) (s:Int) (w:World) {u v:Value} {cs:Array Value} (hb:Blk w rb cs 53) (h4:w.cell? ⟨rb,4,none⟩=some u) (h5:w.cell? ⟨rb,5,none⟩=some v) :
 Calls Tryz.prog 85 #[.pointer rb,s] w fun e w'=>e=.returned (.tuple #[])/\w'=(w.setCell ⟨rb,4,none⟩ s).setCell ⟨rb,5,none⟩ ():=by
 have f4:=hb.frozen 4
 have f5:=hb.frozen 5
 clear hb
 go_enter Tryz.func85,Tryz.ntmps85
 go_wp2
 exact bodyPost_end (v:=.tuple #[]) (by simp [results,Tryz.results85]) rfl ⟨rfl,rfl⟩
theorem qS {w:World} {base:Nat} {e:TypeId} {size n cap:Nat} {a:Option Addr} {xs:List Value} (h:w.ownsRow base e size (.slice a n cap) n xs) (k:Nat) (hk:k<=n) (h0:0 < n):w.ownsRow base e size (.slice a k cap) k (xs.take (k * size)):=by
 have hl:=h.1
 have hm:k * size<=n * size:=Nat.mul_le_mul_right _ hk
 refine ⟨by rw [List.length_take];omega,?_⟩
 rcases h.2 with ⟨_,q⟩ | ⟨g,cap',cur,hv,hb,hgg,hle,hcap,hcs,htk⟩
 ·omega
 ·simp only [Value.slice.injEq] at hv
  obtain ⟨rfl,_,rfl⟩:=hv
  refine .inr ⟨g,cap,cur,rfl,hb,hgg,by omega,hcap,hcs,?_⟩
  rw [<-htk,List.take_take,Nat.min_eq_left hm]
section
variable {W1 w w':World} {rb:Nat} {tv fv:Value} {D:Dn} {V:DV}
theorem oP (h:DI W1 w rb tv fv D V) (hb:DB D) (h0:0 < D.top.stack.length) (hbs:∀ f ∈ D.below,f.stack.length<=1000) (ho:D.out.length<=100000) :
 Calls Tryz.prog 61 #[.pointer rb] w fun e w'=>e=.returned (.tuple #[])/\aG W1 w rb tv fv V D.out (dc D) w':=by
 have HP:Hid (Calls Tryz.prog 59 #[.pointer rb] w fun e w'=>e=.returned (.agg #[.int .i64 (au D.top.stack).1,.bool (au D.top.stack).2])/\aG W1 w rb tv fv V D.out { D with top:=ax D.top } w'):=cA h hb.st hb.bl hb.sl h0
 have HST:Hid (D.status=0 \/ D.status=2):=hb.st
 have H:=hid h
 have hbl:=hb.bl
 have HD:Hid (∀ p,dc D=p->dc D=p):=fun _ q=>q
 obtain ⟨x,hx⟩:∃ x,au D.top.stack=x:=⟨_,rfl⟩
 rw [hx] at HP
 have HX:=hid hx
 obtain ⟨xn,xr⟩:=x
 simp only at HP
 clear h hb hx
 go_enter Tryz.func61,Tryz.ntmps61
 go_wp2_with fail
 refine (Calls.mono HP.out ?_)
 rintro ex w1 ⟨rfl,V1,d1,e1⟩
 obtain ⟨xs,lv,kv,e,hxs⟩:=d1.top HST.out
 obtain ⟨g,cap,hg,hg1,hg2,hc1,hc2,c0,c1,c2,c3,fz,gcs,gb⟩:=d1.frs e
 have hxl:xs.length=D.below.length:=by rw [<-hxs,List.length_map]
 have k1:Chg () w1 (w1.alloc (Obj.cells #[xn,.bool xr] 104)):=(Chg.refl _ _).alloc _
 have n1:=Blk.new w1 #[.int .i64 xn,.bool xr] 104
 have d2:=d1.new k1
 have x5:(w1.alloc (Obj.cells #[xn,.bool xr] 104)).cell? ⟨rb,5,none⟩=some (.slice g (xs.length+1) cap):=by rw [<-hg];exact d2.bx.cell 5
 have f5:=d2.bx.frozen 5
 have v0:(w1.alloc (Obj.cells #[xn,.bool xr] 104)).cell? ⟨w1.heap.size,0,none⟩=some (.int .i64 xn):=n1.cell 0
 have v1:(w1.alloc (Obj.cells #[xn,.bool xr] 104)).cell? ⟨w1.heap.size,1,none⟩=some (.bool xr):=n1.cell 1
 have hrv:rb ≠ w1.heap.size:=Nat.ne_of_lt d1.bx.lt
 have D2:=hid d2
 have E2:Hid (Ev rb (aw V D.out) w (aw V1 D.out) (w1.alloc (Obj.cells #[xn,.bool xr] 104))):=e1.trans (Ev.new rb _ k1)
 have HE:=hid e
 have HG:=hid hg
 have HXS:=hid hxs
 have N1:=hid n1
 have hvn:¬ bN (aw V1 D.out) w1.heap.size:=d1.old (Nat.le_refl _)
 have HVN:=hid hvn
 clear d1 e1 e hg hxs c0 c1 c2 c3 fz gb k1 n1 d2 hvn hxl
 go_wp2_with fail
 generalize w1.alloc (Obj.cells #[xn,.bool xr] 104)=w2 at *
 generalize w1.heap.size=vb at *
 have hxl:xs.length=D.below.length:=by have:=HXS.out;rw [<-this,List.length_map]
 have hxb:xs.length<=1000:=by omega
 clear hxl
 go_region
 have hlen:V1.fs.length=xs.length+1:=by rw [HE.out,List.length_append];rfl
 have kB:Chg (fun j=>j=rb) w2 (w2.setCell ⟨rb,5,none⟩ (.slice g xs.length cap)).drew:=(Chg.setCell (S:=fun j=>j=rb) (Chg.refl _ _) _ _ (.inl rfl)).drew
 have hB3:Blk (w2.setCell ⟨rb,5,none⟩ (.slice g xs.length cap)).drew rb ((dcs tv fv { D with top:=ax D.top } V1).setIfInBounds 5 (.slice g xs.length cap)) 53:=(D2.out.bx.set 5 _).drew
 have nV:=N1.out.chg kB (fun q=>hrv q.symm)
 have o3:OE W1.heap.size rb w (aw V D.out) (w2.setCell ⟨rb,5,none⟩ (.slice g xs.length cap)).drew (aw V1 D.out):=OE.box ⟨D2.out.ow,E2.out,D2.out.nrb,D2.out.bx.lt⟩ kB
 have hfr:=o3.ow.ok (frw V1) (by simp [aw])
 unfold frw at hfr
 simp only [HG.out,hlen] at hfr
 have hpre:=qS hfr xs.length (by omega) (by omega)
 rw [HE.out,dy,List.take_append_of_le_length (by rw [dE];exact Nat.le_refl _),List.take_of_length_le (by rw [dE];exact Nat.le_refl _)] at hpre
 obtain ⟨V2,hV2⟩:∃ V2:DV,V2 = { V1 with fv:=.slice g xs.length cap,fs:=xs }:=⟨_,rfl⟩
 have o4:OE W1.heap.size rb w (aw V D.out) (w2.setCell ⟨rb,5,none⟩ (.slice g xs.length cap)).drew (aw V2 D.out):=by
  have o:=o3.upd (r':=frw V2) (S:=fun _=>False) (Chg.refl _ _) (fun j q=>q.elim) (by rw [hV2];exact hpre) (.inl (by rw [hV2];show _=V1.fv.ownBlock;rw [HG.out];rfl))
  refine o.sub ?_
  have:aw V2 D.out=frw V2::rrw V1::orw V1 D.out::(fsr xs++rsr V1.rs):=by rw [hV2];rfl
  rw [this,HE.out]
  refine ((List.Sublist.append_right ?_ _).cons_cons _ |>.cons_cons _).cons_cons _
  unfold fsr
  rw [List.flatMap_append]
  exact List.sublist_append_left _ _
 have O4:=hid o4
 have HB3:Hid (Blk (w2.setCell ⟨rb,5,none⟩ (.slice g xs.length cap)).drew rb (dcs tv fv { D with top:=ax D.top } V2) 53):=by
  rw [hV2];exact hB3
 have y5:(w2.setCell ⟨rb,5,none⟩ (.slice g xs.length cap)).drew.cell? ⟨rb,5,none⟩=some (.slice g xs.length cap):=hB3.cell 5
 have y0:(w2.setCell ⟨rb,5,none⟩ (.slice g xs.length cap)).drew.cell? ⟨vb,0,none⟩=some (.int .i64 xn):=nV.cell 0
 have y1:(w2.setCell ⟨rb,5,none⟩ (.slice g xs.length cap)).drew.cell? ⟨vb,1,none⟩=some (.bool xr):=nV.cell 1
 have HV2:=hid hV2
 have hvb2:¬ bN (aw V2 D.out) vb:=fun q=>HVN.out (by
  obtain ⟨r,hr,q⟩:=q
  rw [hV2] at hr
  simp only [aw,List.mem_cons] at hr
  rcases hr with rfl | hr
  ·exact ⟨frw V1,by simp [aw],by show V1.fv.ownBlock=_;rw [HG.out];exact q⟩
  ·refine ⟨r,?_,q⟩
   simp only [aw,List.mem_cons,HE.out]
   rcases hr with hr | hr | hr
   ·exact .inr (.inl hr)
   ·exact .inr (.inr (.inl hr))
   ·refine .inr (.inr (.inr ?_))
    simp only [List.mem_append,fsr,List.flatMap_append] at hr ⊢
    rcases hr with hr | hr
    ·exact .inl (.inl hr)
    ·exact .inr hr)
 have HCH:Hid (Chg () W1 (w2.setCell ⟨rb,5,none⟩ (.slice g xs.length cap)).drew):=H.out.ev o4.ev
 have HRN:=hid (H.out.rn)
 have HRE:Hid (V2.rs.map (·.1)=D.recs):=by rw [hV2];exact D2.out.re
 clear hfr hpre o3 o4 hB3 nV kB hlen x5 f5 v0 v1 hV2
 generalize (w2.setCell ⟨rb,5,none⟩ (.slice g xs.length cap)).drew=w3 at *
 by_cases hbe:D.below=[]
 ·have hx0:xs.length=0:=by rw [<-List.length_map (f:=(·.1)),HXS.out,hbe];rfl
  have HBE:=hid hbe
  rw [hx0] at y5
  have hoo:=O4.out.ow.ok (orw V2 D.out) (by simp [aw])
  have hoo':ad w3 W1.heap.size V2.ov D.out:=hoo
  obtain ⟨oa,oc,hov⟩:=hoo'.slice
  have y7:w3.cell? ⟨rb,7,none⟩=some (.slice oa D.out.length oc):=by rw [<-hov];exact HB3.out.cell 7
  have y4:w3.cell? ⟨rb,4,none⟩=some (.int .i64 D.status):=HB3.out.cell 4
  have f7:=HB3.out.frozen 7
  have HOV:=hid hov
  rw [hov] at hoo'
  have HOO:=hid hoo'
  have hW3:=HCH.out.size
  clear hoo hoo' hov hbe
  obtain ⟨i,hi1,hi2,hi3,hi4⟩:=dK
  have Hi1:Hid _:=hi1
  have Hi2:Hid _:=hi2
  have Hi3:Hid _:=hi3
  have Hi4:Hid _:=hi4
  clear hi1 hi2 hi3 hi4
  have hrl:=HB3.out.lt
  have hr3:rb ≠ w3.heap.size:=Nat.ne_of_lt hrl
  have hr3':=hr3.symm
  have hvl:vb < w3.heap.size:=World.block_lt_of_cell? w3 _ y0
  have hv3:vb ≠ w3.heap.size:=Nat.ne_of_lt hvl
  have hv3':=hv3.symm
  have j1:Chg () w3 (w3.alloc (Obj.cells #[xn] 3)).drew:=((Chg.refl _ w3).alloc _).drew
  have J1:=hid j1
  have HROW:Hid ((w3.alloc (Obj.cells #[xn] 3)).drew.ownsRow W1.heap.size 3 1 (.slice oa D.out.length oc) D.out.length (aE D.out)):=af HOO.out j1 (fun _ _ q=>q)
  have HNW:Hid (∀ j u,[Value.int .i64 xn][j]?=some u->(w3.alloc (Obj.cells #[xn] 3)).drew.cell? ((⟨w3.heap.size,0,none⟩:Addr).add j)=some u):=World.news_of_block (B:=w3.heap.size) (cs:=#[.int .i64 xn]) (Blk.new' rfl _ 3).drew
  have HB4:Hid (Blk (w3.alloc (Obj.cells #[xn] 3)).drew rb (dcs tv fv { D with top:=ax D.top } V2) 53):=HB3.out.chg j1 (fun q=>q)
  clear j1
  go_wp2
  go_region_law (refine step_append_lies _ rfl (.tmp 29) (.tmp 32) 23 rfl W1.heap.size 3 i (.int .i64 0) 1 8 Tryz.underlying23 Hi1.out Hi2.out Hi3.out Hi4.out rfl (by decide) (.slice oa D.out.length oc) D.out.length (aE D.out) (by simp [Act.eval]) (by exact HROW.out) ⟨w3.heap.size,0,none⟩ 1 1 [.int .i64 xn] (by simp [Act.eval]) rfl (by exact HNW.out) (by intro u hu;simp only [List.mem_cons,List.not_mem_nil,or_false] at hu;subst hu;rfl) (by decide) (by unfold maxLen;omega) (by omega) (by simp;omega) (w3.heap.size+1) (by simp) ?_;intro gg cap2 w4 hown hgrow hat hlt4;have hch4:Chg (fun j=>some j=(Value.slice oa D.out.length oc).ownBlock) (w3.alloc (Obj.cells #[xn] 3)).drew w4:=(aM hgrow).mono (fun _ _ q=>q);have hbk:=HB4.out.chg hch4 (fun q=>ao HROW.out HB4.out (by decide) q.symm);have y7f:=hbk.frozen 7;have y7c:w4.cell? ⟨rb,7,none⟩=some (.slice oa D.out.length oc):=by rw [<-HOV.out];exact hbk.cell 7)
  all_goals
   obtain ⟨V5,hV5⟩:∃ V5:DV,V5 = { V2 with fv:=.slice none 0 0,fs:=[],ov:=.slice gg (D.out.length+1) cap2 }:=⟨_,rfl⟩
   have o5:OE W1.heap.size rb w (aw V D.out) w4 (orw V5 (D.out++[xn])::frw V2::rrw V2::(fsr V2.fs++rsr V2.rs)):=by
    have p:(aw V2 D.out).Perm (orw V2 D.out::frw V2::rrw V2::(fsr V2.fs++rsr V2.rs)):=((List.Perm.swap _ _ _).cons _).trans (List.Perm.swap _ _ _)
    refine ((O4.out.new J1.out).perm p).upd (r':=orw V5 (D.out++[xn])) hch4 (fun j q=>.inr ?_) ?_ ?_
    ·show V2.ov.ownBlock=_;rw [HOV.out];exact q.symm
    ·rw [hV5];unfold orw
     simp only [List.length_append,List.length_singleton]
     simpa [aE] using hown
    ·rcases hat with q | q
     ·exact .inl (by rw [hV5];show _=V2.ov.ownBlock;rw [HOV.out,q];rfl)
     ·exact .inr ⟨gg,by rw [hV5];rfl,by rw [q];simp [World.drew]⟩
   have hb5:=hbk.set 7 (.slice gg (D.out.length+1) cap2)
   have o6:=o5.box (w':=w4.setCell ⟨rb,7,none⟩ (.slice gg (D.out.length+1) cap2)) (Chg.setCell (S:=fun j=>j=rb) (Chg.refl _ _) _ _ (.inl rfl))
   have HO6:=hid o6
   have HB5:=hid hb5
   have z4:(w4.setCell ⟨rb,7,none⟩ (.slice gg (D.out.length+1) cap2)).cell? ⟨rb,4,none⟩=some (.int .i64 D.status):=hb5.cell 4
   have z5:(w4.setCell ⟨rb,7,none⟩ (.slice gg (D.out.length+1) cap2)).cell? ⟨rb,5,none⟩=some V2.fv:=hb5.cell 5
   have HV5:=hid hV5
   clear o5 o6 hb5 hbk y7f y7c hown hgrow hat hch4 hlt4 y0 y1 y5 y7 y4 f7 hV5
   generalize w4.setCell ⟨rb,7,none⟩ (.slice gg (D.out.length+1) cap2)=w7 at *
   go_wp2_with fail
   refine (nA rb 1 w7 HB5.out z4 z5).mono ?_
   rintro ex w8 ⟨rfl,hw8⟩
   have FIN:Hid (aG W1 w rb tv fv V D.out (dc D) w8):=by
    have e0:dc D = { D with top:=ax D.top,out:=D.out++[xn],status:=1 }:=by unfold dc;rw [dif_pos HBE.out,HX.out]
    have k8:Chg (fun j=>j=rb) w7 w8:=by rw [hw8];exact Chg.setCell (S:=fun j=>j=rb) (Chg.setCell (S:=fun j=>j=rb) (Chg.refl _ _) _ _ (.inl rfl)) _ _ (.inl rfl)
    have o8:=((HO6.out.box k8).sub (M:=orw V5 (D.out++[xn])::rrw V2::rsr V2.rs) ((((List.sublist_append_right _ _).cons_cons _).cons _).cons_cons _)).add (r':=frw V5) (Chg.refl _ _) (by rw [HV5.out];exact World.ownsRow_nil _ _ _ _) (fun g hg=>by rw [HV5.out] at hg;cases hg)
    rw [e0]
    refine H.out.fin (D':={ D with top:=ax D.top,out:=D.out++[xn],status:=1 }) (V':=V5) o8 ?_ ?_ ?_ ?_
    ·have e1:aw V5 (D.out++[xn])=frw V5::rrw V2::orw V5 (D.out++[xn])::rsr V2.rs:=by rw [HV5.out];rfl
     show List.Perm _ (aw V5 (D.out++[xn]))
     rw [e1]
     exact (List.Perm.swap _ _ _).cons _
    ·rw [hw8]
     have:=(HB5.out.set 4 (.int .i64 1)).set 5 (.slice none 0 0)
     rw [HV5.out]
     exact this
    ·rw [HV5.out];unfold az;rw [if_neg (by simp only;omega)];rfl
    ·rw [HV5.out];exact HRE.out
   clear hw8 z4 z5
   go_wp2
   exact bodyPost_ret (v:=.tuple #[]) (by simp [results,Tryz.results61]) rfl ⟨rfl,FIN.out⟩
 ·have hx0:xs.length ≠ 0:=fun q=>hbe (by rw [<-HXS.out];rw [List.eq_nil_of_length_eq_zero q];rfl)
  have hx1:((xs.length:Int) == 0)=false:=by rw [beq_eq_false_iff_ne];omega
  obtain ⟨top,htop⟩:∃ t,D.below.getLast hbe=t:=⟨_,rfl⟩
  have hmem:top ∈ D.below:=by rw [<-htop];exact List.getLast_mem hbe
  have hsp:D.below=D.below.dropLast++[top]:=by rw [<-htop];exact (List.dropLast_concat_getLast hbe).symm
  have d3:DI W1 w3 rb tv fv { D with below:=D.below.dropLast,top:=top } V2:=by
   refine ⟨HCH.out,HB3.out,HRN.out,O4.out.ow,?_,HRE.out⟩
   rw [HV2.out]
   show xs.map (·.1)=_
   unfold az
   rw [if_pos HST.out,HXS.out]
   exact hsp
  have HPU:Hid (Calls Tryz.prog 57 #[.pointer rb,xn,.bool xr] w3 fun e w'=>e=.returned (.tuple #[])/\aG W1 w3 rb tv fv V2 D.out { D with below:=D.below.dropLast,top:=aD top (xn,xr) } w'):=bS d3 HST.out xn xr (by rw [List.length_dropLast];omega) (hbs top hmem)
  have HFD:Hid (dc D = { D with below:=D.below.dropLast,top:=aD top (xn,xr) }):=by
   show dc D=_
   unfold dc
   rw [dif_neg hbe,htop,HX.out]
  clear d3 hsp hmem htop
  go_wp2_with fail
  refine (Calls.mono HPU.out ?_)
  rintro ex w4 ⟨rfl,V4,d4,e4⟩
  have FIN:Hid (aG W1 w rb tv fv V D.out (dc D) w4):=by
   rw [HFD.out]
   exact ⟨V4,d4,O4.out.ev.trans e4⟩
  clear d4 e4 y0 y1 y5
  go_wp2
  exact bodyPost_end (v:=.tuple #[]) (by simp [results,Tryz.results61]) rfl ⟨rfl,FIN.out⟩
end
end Go.Proofs.YtnfnbcbadakofaaGreat
