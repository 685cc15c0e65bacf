import Derived.Test.YtnfnbcbadakofaaTkv
import Derived.Test.YtnfnbcbadakofaaCla
namespace Go.Proofs.Ytnfnbcbadakofaa
open Go.RowKit
theorem live_ended {D:Dn} (h:D.status=1 \/ D.status=3 \/ D.status=4 \/ D.status=5):liveP D=0/\dframes D=[]:=by
 have e:dframes D=[]:=by unfold dframes;rw [if_neg (by omega)]
 refine ⟨?_,e⟩
 unfold liveP
 rw [e]
 simp [mkFs,lvW]
theorem clr_rel {c:Cx} {D:Dn} {R:Rn} (h:Rel c D R):Rel c D (clrP c (bare R))/\liveP D=(clrP c (bare R)).words.length/\(clrP c (bare R)).heap=R.heap/\(clrP c (bare R)).depth=R.depth:=by
 have hb:=h.bare
 rcases hb.st with ⟨s0,s2,phi,sm⟩ | ⟨s1,s2⟩
 ·obtain ⟨⟨phi',sm'⟩,lv,_,_⟩:=clr_sim sm s2
  have eh:(bare R).heap=R.heap:=by unfold bare;split <;> rfl
  have ed:(bare R).depth=R.depth:=by unfold bare;split <;> rfl
  exact ⟨⟨hb.heap,hb.depth,hb.h0,hb.h4,hb.d1,hb.d64,.inl ⟨s0,s2,phi',sm'⟩⟩,lv,eh,ed⟩
 ·have hs:R.status ≠ 0:=by
   intro q
   have:(bare R).status=0:=by unfold bare;rw [if_pos q];exact q
   omega
  have eb:bare R=⟨R.heap,R.depth,R.status,[],[],⟨0,0,[],[]⟩,[],0,[]⟩:=by unfold bare;rw [if_neg hs]
  obtain ⟨l1,_⟩:=live_ended (D:=D) (by rw [s2];exact s1)
  refine ⟨⟨hb.heap,hb.depth,hb.h0,hb.h4,hb.d1,hb.d64,.inr ⟨s1,s2⟩⟩,?_,by rw [eb];rfl,by rw [eb];rfl⟩
  rw [l1,eb]
  rfl
def wordsB (l:List Int):Prop:=∀ v ∈ l,0<=v/\v<=65535
theorem VL.wordsB {c:Cx} {D:Dn} {R:Rn} {phi:Nat->Option Nat} (h:Sm c D R phi) {ks:List Int} {ds:List (Int × Bool)} {vs:List Int} (hv:VL (VR c.ls R.words phi) ks ds vs):wordsB vs:=by
 intro v hm
 obtain ⟨i,hi,rfl⟩:=List.mem_iff_getElem.1 hm
 obtain ⟨l,q⟩:=hv.fine h
 have:=q i (by omega)
 rw [List.getD_eq_getElem?_getD,List.getElem?_eq_getElem hi] at this
 exact ⟨this.1,this.2.1⟩
theorem nums_small {c:Cx} (ok:CxOk c) {D:Dn} {R:Rn} {phi:Nat->Option Nat} (h:Sm c D R phi) {f:Int} (f0:0<=f) (fl:f < (c.fs.length:Int)) {g:Fr} {dl ds:List (Int × Bool)} {S post:List Int} (p0:0<=g.pc) (pl:g.pc < ((fnAt c.fs f).code.length:Int)) (hl:VL (VR c.ls R.words phi) (fnAt c.fs f).locals dl g.locals) (hS:spP c.sps f g.pc=some (S++post)) (hk:VL (VR c.ls R.words phi) S ds g.stack):(nums g).length<=17/\wordsB (nums g)/\g.locals.length<=8/\g.stack.length<=8:=by
 have fk:=fnAt_ok ok f0 fl
 have h8:=ok.s8 _ _ _ hS
 rw [List.length_append] at h8
 have l1:=hl.len.2
 have l2:=hk.len.2
 have:=fk.l8
 refine ⟨by unfold nums;rw [List.length_cons,List.length_append];omega,?_,by omega,by omega⟩
 intro v hv
 unfold nums at hv
 rcases List.mem_cons.1 hv with rfl | hv
 ·have:=fk.c64;omega
 ·rcases List.mem_append.1 hv with hv | hv
  ·exact hl.wordsB h v hv
  ·exact hk.wordsB h v hv
end Go.Proofs.Ytnfnbcbadakofaa
namespace Go.Proofs.Ytnfnbcbadakofaa
open Go.RowKit
structure DoH (c:Cx) (x:Int × Int × Int) (R:Rn):Prop where
 rb:RB c R
 op:0<=x.1/\x.1<=18
 fld:x.1=8 \/ x.1=9->0<=x.2.2/\x.2.2<=1000
 set:x.1=9->popV R.top.stack.dropLast ≠ 0->popV R.top.stack.dropLast+x.2.2 < (R.words.length:Int)
 sto:x.1=6->0<=x.2.1/\x.2.1 < (R.top.locals.length:Int)
 pc:0<=R.top.pc/\R.top.pc<=1000
 bpc:∀ f ∈ R.below,0<=f.pc/\f.pc<=1000
 fnl:∀ f,(fnAt c.fs f).locals.length<=1000
 dp:1<=R.depth/\R.depth<=64
 b64:R.below.length<=64
theorem flds_5 {ls:List (List Int)} (h:∀ l ∈ ls,l.length<=5) (t:Int):(flds ls t).length<=5:=by
 unfold flds
 split
 ·simp
 ·rw [List.getD_eq_getElem?_getD]
  cases e:ls[(t - 1).toNat]? with
  | none=>simp
  | some l=>exact h l (List.mem_of_getElem? e)
theorem fnAt_l8 {c:Cx} (ok:CxOk c) (f:Int):(fnAt c.fs f).locals.length<=8:=by
 by_cases h:0<=f/\f < (c.fs.length:Int)
 ·exact (fnAt_ok ok h.1 h.2).l8
 ·unfold fnAt
  rw [dif_neg (by omega)];simp
theorem Wt.frb {c:Cx} (ok:CxOk c) {D:Dn} {R:Rn} {phi:Nat->Option Nat} (h:Sm c D R phi) {f e:Int} {d:DFr} {g:Fr} (w:Wt c (VR c.ls R.words phi) f e d g):FrB g/\0<=g.pc/\g.pc<=1000:=by
 obtain ⟨S,hS,hV⟩:=w.stk
 obtain ⟨_,_,q3,q4⟩:=nums_small ok h w.f0 w.fl w.p0 w.pl w.loc hS hV
 have:=(fnAt_ok ok w.f0 w.fl).c64
 have:=w.pl
 exact ⟨⟨w.loc.wordsB h,hV.wordsB h,by omega,by omega⟩,w.p0,by omega⟩
theorem Tp.frb {c:Cx} (ok:CxOk c) {D:Dn} {R:Rn} {phi:Nat->Option Nat} (h:Sm c D R phi) {f:Int} {d:DFr} {g:Fr} (w:Tp c (VR c.ls R.words phi) f d g):FrB g/\0<=g.pc/\g.pc<=1000:=by
 obtain ⟨S,hS,hV⟩:=w.stk
 obtain ⟨_,_,q3,q4⟩:=nums_small (post:=[]) ok h w.f0 w.fl w.p0 w.pl w.loc (by simpa using hS) hV
 have:=(fnAt_ok ok w.f0 w.fl).c64
 have:=w.pl
 exact ⟨⟨w.loc.wordsB h,hV.wordsB h,by omega,by omega⟩,w.p0,by omega⟩
theorem Bel.frb {c:Cx} (ok:CxOk c) {D:Dn} {R:Rn} {phi:Nat->Option Nat} (h:Sm c D R phi) {ds:List DFr} {gs:List Fr} {f:Int} (hb:Bel c (VR c.ls R.words phi) ds gs f):∀ g ∈ gs,FrB g/\0<=g.pc/\g.pc<=1000:=by
 induction hb with
 | nil=>intro g hg;simp at hg
 | @snoc ds gs f e d g hb w ih =>
  intro g' hg
  rcases List.mem_append.1 hg with hg | hg
  ·exact ih g' hg
  ·simp at hg;subst hg;exact w.frb ok h
theorem Sm.rb {c:Cx} (ok:CxOk c) {D:Dn} {R:Rn} {phi:Nat->Option Nat} (h:Sm c D R phi):RB c R:=by
 obtain ⟨f,hb,ht⟩:=h.fr
 have h1:=h.len
 have h2:=h.h4
 have h3:=h.bl
 have h4:=h.d64
 have h5:=ok.pg.t6
 refine ⟨by omega,?_,by simp only at h5;omega,flds_5 (fun l hl=>(ok.pg.tf l hl).1),by omega,fun g hg=>(hb.frb ok h g hg).1,(ht.frb ok h).1⟩
 intro v hv
 obtain ⟨i,hi,rfl⟩:=List.mem_iff_getElem.1 hv
 have:=h.word hi ok.pg.t6
 rw [List.getD_eq_getElem?_getD,List.getElem?_eq_getElem hi] at this
 exact this
theorem Cu.doh {c:Cx} (ok:CxOk c) {D:Dn} {R:Rn} {phi:Nat->Option Nat} {f:Int} {x:Int × Int × Int} {rest:List Int} (h:Cu c D R phi f x rest):DoH c x R:=by
 have hb:=h.sm.rb ok
 have h3:=h.sm.bl
 have h4:=h.sm.d64
 have h1:=h.sm.d1
 have hio:=h.iok
 obtain ⟨op,A,B⟩:=x
 refine ⟨hb,⟨hio.1.1,hio.1.2⟩,fun q=>?_,fun q hz=>?_,fun q=>?_,(h.tp.frb ok h.sm).2,fun g hg=>(h.bel.frb ok h.sm g hg).2,fun g=>by have:=fnAt_l8 ok g;omega,⟨h1,h4⟩,by omega⟩
 ·simp only [InsOk,gB] at hio
  have h5:=hb.s5 A
  simp only at q ⊢
  have:=hio.2.2.2
  rw [if_neg (by omega)] at this
  exact ⟨hio.2.2.1,by omega⟩
 ·simp only at q hz ⊢
  subst q
  have hi:=hio
  simp only [InsOk,gB] at hi
  have hB0:0<=B:=hi.2.2.1
  have hB1:B < ((flds c.ls A).length:Int):=by have:=hi.2.2.2;simp at this;omega
  have hA1:1<=A:=flds_ne (ls:=c.ls) (by omega)
  have e:ahead c.ls c.fs (fnAt c.fs f) 9 A B=[A]++[tyAt (flds c.ls A) B]:=by simp [ahead]
  have hs:=h.stk
  simp only [e] at hs
  rw [<-List.append_assoc] at hs
  obtain ⟨h1,v1⟩:=hs.snoc
  obtain ⟨h2,v2⟩:=h1.snoc
  obtain ⟨_,hz' | ⟨d,a,x,y,z,s⟩⟩:=v2.ref (by omega)
  ·exact absurd hz'.2 hz
  ·have hw:=(s.val h.sm.mem.full).2.1
   omega
 ·simp only at q ⊢
  subst q
  simp only [InsOk,bA] at hio
  have hl:=h.tp.loc.len.2
  have:=hio.2.1
  simp at this
  omega
def Gd (c:Cx) (R:Rn):Prop:=∃ D,Rel c D R/\D.status=R.status/\D.out=R.out/\D.used=R.used
theorem Gd.doh {c:Cx} (ok:CxOk c) {R:Rn} (h:Gd c R) (h0:R.status=0):DoH c (nxtP c R) R:=by
 obtain ⟨D,hr,_⟩:=h
 rcases hr.st with ⟨_,_,phi,sm⟩ | ⟨q,_⟩
 ·obtain ⟨f,x,rest,cu,e1,_⟩:=sm.cu ok
  rw [e1];exact cu.doh ok
 ·omega
theorem Gd.step {c:Cx} (ok:CxOk c) {R:Rn} (h:Gd c R) (h0:R.status=0):Gd c (doP c (nxtP c R) R)/\(doP c (nxtP c R) R).inp=R.inp:=by
 obtain ⟨D,hr,hs,ho,hu⟩:=h
 rcases hr.st with ⟨_,_,phi,sm⟩ | ⟨q,_⟩
 ·obtain ⟨f,x,rest,cu,e1,_⟩:=sm.cu ok
  rw [e1]
  have nx:=step_sim ok cu (by rw [hs,h0]) h0 ho hu
  have hh:=nx.hp
  refine ⟨⟨dstP c R.inp x D,⟨by rw [hh.2.2.1,hh.1];exact hr.heap,by rw [hh.2.2.2,hh.2.1];exact hr.depth,by rw [hh.1];exact hr.h0,by rw [hh.1];exact hr.h4,by rw [hh.2.1];exact hr.d1,by rw [hh.2.1];exact hr.d64,?_⟩,nx.st,nx.out,nx.used⟩,nx.inp⟩
  rcases nx.ends with q | q
  ·exact .inl ⟨q,.inl (by rw [nx.st,q]),nx.go q⟩
  ·exact .inr ⟨q,nx.st⟩
 ·omega
theorem Gd.of {c:Cx} {D:Dn} {R:Rn} (h:Rel c D R):Gd c R:=by
 refine ⟨{ D with status:=R.status,out:=R.out,used:=R.used },⟨h.heap,h.depth,h.h0,h.h4,h.d1,h.d64,?_⟩,rfl,rfl,rfl⟩
 rcases h.st with ⟨q,_,phi,sm⟩ | ⟨q,_⟩
 ·exact .inl ⟨q,.inl q,phi,sm.out rfl rfl rfl rfl rfl rfl rfl rfl rfl rfl⟩
 ·exact .inr ⟨q,rfl⟩
end Go.Proofs.Ytnfnbcbadakofaa
namespace Go.Proofs.Ytnfnbcbadakofaa
open Go.RowKit
def shf (inp:List Int) (u:Nat) (o:List Int) (R:Rn):Rn:={ R with inp:=inp,used:=u+R.used,out:=o++R.out }
section
variable {c:Cx} {R:Rn} {inp o:List Int} {u:Nat}
theorem uv_shf (x:Int × Int × Int) (h:R.inp=inp.drop u):uvP x (shf inp u o R)=shf inp u o (uvP x R)/\(uvP x R).inp=R.inp:=by
 unfold uvP
 have e:inp.getD (u+R.used) 0=R.inp.getD R.used 0:=by
  rw [h,List.getD_eq_getElem?_getD,List.getD_eq_getElem?_getD,List.getElem?_drop]
 by_cases h0:x.1=0
 ·rw [if_pos h0,if_pos h0];exact ⟨rfl,rfl⟩
 rw [if_neg h0,if_neg h0]
 by_cases h1:x.1=1 \/ x.1=2 \/ x.1=3 \/ x.1=4 \/ x.1=12
 ·rw [if_pos h1,if_pos h1];exact ⟨rfl,rfl⟩
 rw [if_neg h1,if_neg h1]
 by_cases h5:x.1=5
 ·rw [if_pos h5,if_pos h5];exact ⟨rfl,rfl⟩
 rw [if_neg h5,if_neg h5]
 by_cases h6:x.1=6
 ·rw [if_pos h6,if_pos h6];exact ⟨rfl,rfl⟩
 rw [if_neg h6,if_neg h6]
 by_cases h10:x.1=10
 ·rw [if_pos h10,if_pos h10];exact ⟨rfl,rfl⟩
 rw [if_neg h10,if_neg h10]
 by_cases h11:x.1=11
 ·rw [if_pos h11,if_pos h11];exact ⟨rfl,rfl⟩
 rw [if_neg h11,if_neg h11]
 by_cases h17:x.1=17
 ·rw [if_pos h17,if_pos h17]
  refine ⟨?_,rfl⟩
  simp [shf]
 rw [if_neg h17,if_neg h17]
 by_cases h18:x.1=18
 ·rw [if_pos h18,if_pos h18]
  refine ⟨?_,rfl⟩
  show ({ shf inp u o R with top:=pushF R.top (inp.getD (u+R.used) 0 % 65536),used:=u+R.used+1 }:Rn)=shf inp u o { R with top:=pushF R.top (R.inp.getD R.used 0 % 65536),used:=R.used+1 }
  rw [e]
  simp [shf,Nat.add_assoc]
 rw [if_neg h18,if_neg h18]
 exact ⟨rfl,rfl⟩
theorem mr2_shf (t:Int):mr2P c t (shf inp u o R)=shf inp u o (mr2P c t R)/\(mr2P c t R).inp=R.inp:=by
 by_cases h:R.heap < (R.words.length:Int)+((flds c.ls t).length:Int)+1
 ·have e1:mr2P c t (shf inp u o R) = { shf inp u o R with status:=4 }:=if_pos h
  have e2:mr2P c t R = { R with status:=4 }:=if_pos h
  rw [e1,e2];exact ⟨rfl,rfl⟩
 ·have e1:mr2P c t (shf inp u o R)=_:=if_neg h
  have e2:mr2P c t R=_:=if_neg h
  rw [e1,e2];exact ⟨rfl,rfl⟩
theorem mr_shf (t:Int):mrP c t (shf inp u o R)=shf inp u o (mrP c t R)/\(mrP c t R).inp=R.inp:=by
 by_cases h:R.heap < (R.words.length:Int)+((flds c.ls t).length:Int)+1
 ·have e1:mrP c t (shf inp u o R)=mr2P c t (clrP c (shf inp u o R)):=by unfold mrP;exact congrArg _ (if_pos h)
  have e2:mrP c t R=mr2P c t (clrP c R):=by unfold mrP;rw [if_pos h]
  rw [e1,e2]
  have e3:clrP c (shf inp u o R)=shf inp u o (clrP c R):=rfl
  rw [e3]
  obtain ⟨a,b⟩:=mr2_shf (c:=c) (R:=clrP c R) (inp:=inp) (u:=u) (o:=o) t
  exact ⟨a,b⟩
 ·have e1:mrP c t (shf inp u o R)=mr2P c t (shf inp u o R):=by unfold mrP;exact congrArg _ (if_neg h)
  have e2:mrP c t R=mr2P c t R:=by unfold mrP;rw [if_neg h]
  rw [e1,e2]
  exact mr2_shf t
theorem ur_shf (x:Int × Int × Int):urP c x (shf inp u o R)=shf inp u o (urP c x R)/\(urP c x R).inp=R.inp:=by
 unfold urP
 by_cases h7:x.1=7
 ·rw [if_pos h7,if_pos h7];exact mr_shf _
 ·rw [if_neg h7,if_neg h7]
  by_cases h8:x.1=8
  ·rw [if_pos h8,if_pos h8]
   by_cases hz:popV R.top.stack=0
   ·rw [if_pos (show popV (shf inp u o R).top.stack=0 from hz),if_pos hz];exact ⟨rfl,rfl⟩
   ·rw [if_neg (show ¬ popV (shf inp u o R).top.stack=0 from hz),if_neg hz];exact ⟨rfl,rfl⟩
  ·rw [if_neg h8,if_neg h8]
   by_cases hz:popV R.top.stack.dropLast=0
   ·rw [if_pos (show popV (shf inp u o R).top.stack.dropLast=0 from hz),if_pos hz];exact ⟨rfl,rfl⟩
   ·rw [if_neg (show ¬ popV (shf inp u o R).top.stack.dropLast=0 from hz),if_neg hz];exact ⟨rfl,rfl⟩
theorem cl_shf (f:Int):clP c f (shf inp u o R)=shf inp u o (clP c f R)/\(clP c f R).inp=R.inp:=by
 by_cases h:R.depth<=(R.below.length:Int)+1
 ·have e1:clP c f (shf inp u o R) = { shf inp u o R with status:=5 }:=if_pos h
  have e2:clP c f R = { R with status:=5 }:=if_pos h
  rw [e1,e2];exact ⟨rfl,rfl⟩
 ·have e1:clP c f (shf inp u o R)=_:=if_neg h
  have e2:clP c f R=_:=if_neg h
  rw [e1,e2];exact ⟨rfl,rfl⟩
theorem gb_shf:gbP (shf inp u o R)=shf inp u o (gbP R)/\(gbP R).inp=R.inp:=by
 by_cases h:R.below=[]
 ·have e1:gbP (shf inp u o R)=_:=dif_pos h
  have e2:gbP R=_:=dif_pos h
  rw [e1,e2]
  refine ⟨?_,rfl⟩
  simp [shf]
 ·have e1:gbP (shf inp u o R)=_:=dif_neg h
  have e2:gbP R=_:=dif_neg h
  rw [e1,e2];exact ⟨rfl,rfl⟩
theorem do_shf (x:Int × Int × Int) (h:R.inp=inp.drop u):doP c x (shf inp u o R)=shf inp u o (doP c x R)/\(doP c x R).inp=R.inp:=by
 unfold doP
 by_cases h13:x.1=13
 ·rw [if_pos h13,if_pos h13];exact ⟨rfl,rfl⟩
 rw [if_neg h13,if_neg h13]
 by_cases h14:x.1=14
 ·rw [if_pos h14,if_pos h14];exact ⟨rfl,rfl⟩
 rw [if_neg h14,if_neg h14]
 by_cases h15:x.1=15
 ·rw [if_pos h15,if_pos h15];exact cl_shf _
 rw [if_neg h15,if_neg h15]
 by_cases h16:x.1=16
 ·rw [if_pos h16,if_pos h16];exact gb_shf
 rw [if_neg h16,if_neg h16]
 by_cases h7:x.1=7 \/ x.1=8 \/ x.1=9
 ·rw [if_pos h7,if_pos h7]
  obtain ⟨a,b⟩:=ur_shf (c:=c) (R:=R) (inp:=inp) (u:=u) (o:=o) x
  rw [a];exact ⟨rfl,b⟩
 ·rw [if_neg h7,if_neg h7]
  obtain ⟨a,b⟩:=uv_shf (o:=o) x h
  rw [a];exact ⟨rfl,b⟩
theorem go_shf:∀ (n:Nat) {R:Rn},R.inp=inp.drop u->goOnP c n (shf inp u o R)=(shf inp u o (goOnP c n R).1,(goOnP c n R).2):=by
 intro n
 induction n with
 | zero=>intro R h;rfl
 | succ n ih =>
  intro R h
  unfold goOnP
  by_cases h0:R.status ≠ 0
  ·rw [if_pos h0,if_pos (show (shf inp u o R).status ≠ 0 from h0)];rfl
  ·rw [if_neg h0,if_neg (show ¬ (shf inp u o R).status ≠ 0 from h0)]
   have en:nxtP c (shf inp u o R)=nxtP c R:=rfl
   have ew:((nxtP c (shf inp u o R)).1=18/\(shf inp u o R).inp.length<=(shf inp u o R).used) ↔ ((nxtP c R).1=18/\R.inp.length<=R.used):=by
    rw [en,h,List.length_drop]
    show (_/\inp.length<=u+R.used) ↔ _
    omega
   by_cases hw:(nxtP c R).1=18/\R.inp.length<=R.used
   ·rw [if_pos hw,if_pos (ew.2 hw)]
   ·rw [if_neg hw,if_neg (fun q=>hw (ew.1 q)),en]
    obtain ⟨a,b⟩:=do_shf (c:=c) (o:=o) (nxtP c R) h
    rw [a]
    exact ih (by rw [b];exact h)
end
theorem go_add (c:Cx) (b:Nat):∀ (a:Nat) (R:Rn),(goOnP c (a+b) R=goOnP c b (goOnP c a R).1/\((goOnP c a R).2=(goOnP c a R).1.status)) \/ (goOnP c (a+b) R=goOnP c a R/\(goOnP c a R).2=2/\(goOnP c a R).1.status=0/\(b ≠ 0->goOnP c b (goOnP c a R).1=goOnP c a R)):=by
 intro a
 induction a with
 | zero=>intro R;exact .inl ⟨by rw [Nat.zero_add];rfl,rfl⟩
 | succ a ih =>
  intro R
  rw [Nat.succ_add]
  by_cases h0:R.status ≠ 0
  ·have e1:∀ n,goOnP c n R=(R,R.status):=by
    intro n;cases n with
    | zero=>rfl
    | succ n=>unfold goOnP;rw [if_pos h0]
   rw [e1,e1]
   exact .inl ⟨(e1 b).symm,rfl⟩
  ·by_cases hw:(nxtP c R).1=18/\R.inp.length<=R.used
   ·have e1:∀ n,goOnP c (n+1) R=(R,2):=by
     intro n;unfold goOnP;rw [if_neg h0,if_pos hw]
    rw [e1,e1]
    refine .inr ⟨rfl,rfl,by simpa using h0,fun hb=>?_⟩
    obtain ⟨m,rfl⟩:∃ m,b=m+1:=⟨b - 1,by omega⟩
    exact e1 m
   ·have e1:∀ n,goOnP c (n+1) R=goOnP c n (doP c (nxtP c R) R):=by
     intro n;conv=>lhs;unfold goOnP
     rw [if_neg h0,if_neg hw]
    rw [e1,e1]
    exact ih _
end Go.Proofs.Ytnfnbcbadakofaa
namespace Go.Proofs.Ytnfnbcbadakofaa
open Go.RowKit
theorem spP_inv {sps:List Spots} {f i:Int} {S:List Int} (h:spP sps f i=some S):∃ j k:Nat,f=(j:Int)/\i=(k:Int)/\j < sps.length/\(sps.getD j [])[k]?=some (some S):=by
 unfold spP at h
 split at h
 ·cases h
 ·split at h
  ·cases h
  ·rename_i h1 h2
   refine ⟨f.toNat,i.toNat,by omega,by omega,by omega,?_⟩
   rw [List.getD_eq_getElem?_getD] at h
   cases e:(sps.getD f.toNat [])[i.toNat]? with
   | none=>rw [e] at h;cases h
   | some x=>rw [e] at h;simp at h;rw [h]
theorem spP_of {sps:List Spots} {j k:Nat} {S:List Int} (hj:j < sps.length) (h:(sps.getD j [])[k]?=some (some S)):spP sps (j:Int) (k:Int)=some S:=by
 have hk:k < (sps.getD j []).length:=(List.getElem?_eq_some_iff.1 h).1
 unfold spP
 rw [if_neg (by omega),Int.toNat_natCast,if_neg (by omega),Int.toNat_natCast,List.getD_eq_getElem?_getD,h];rfl
theorem reach_8 {p:Pg} {f:Fn} {n i:Nat} {S:List Int} (h:Reach n (aftC p.types p.funcs f) (wayC f) i S):S.length<=8:=by
 cases h with
 | zero=>simp
 | step _ ha _ _ _ =>
  unfold aftC at ha
  obtain ⟨_,_,_,q,_⟩:=after_inv ha
  exact q
def cxO (s:ByteArray):Cx:=⟨(opF s).2.2.1.types,(opF s).2.2.1.funcs,(opF s).2.2.2⟩
theorem fitF_sol {p:Pg} (h:PgWf p) {f:Fn} (hf:f ∈ p.funcs) (h0:(fitF p f).2.2=false):Sol f.code.length (aftC p.types p.funcs f) (wayC f) (fitF p f).1/\Snd f.code.length (aftC p.types p.funcs f) (wayC f) (fitF p f).1:=by
 obtain ⟨b,hb⟩:=h.fn hf
 exact (doc_fit (h.way hf) (by have:=hb.c1;omega)).1 _ ((fitF_rnds h hf).2 h0)
theorem cx_ok {s:ByteArray} (h:(opF s).1=0):CxOk (cxO s):=by
 obtain ⟨hw,_,hsp,hfit⟩:=opF_ok h
 unfold cxO
 generalize (opF s).2.2.1=p at *
 generalize (opF s).2.2.2=sps at *
 have hlen:sps.length=p.funcs.length:=by rw [hsp,List.length_map]
 have hget:∀ j (hj:j < p.funcs.length),sps.getD j []=(fitF p p.funcs[j]).1:=fun j hj=>by
  rw [hsp,List.getD_eq_getElem?_getD,List.getElem?_map,List.getElem?_eq_getElem hj];rfl
 have hfn:∀ j (hj:j < p.funcs.length),fnAt p.funcs (j:Int)=p.funcs[j]:=fun j hj=>by
  unfold fnAt;rw [dif_pos ⟨by omega,by simpa using hj⟩];rfl
 have hsol:=fun j (hj:j < p.funcs.length)=>fitF_sol hw (List.getElem_mem hj) (hfit _ (List.getElem_mem hj))
 refine ⟨fun f i S hS=>?_,fun f f0 fl=>?_,fun f i S hS=>?_,hw⟩
 ·obtain ⟨j,k,rfl,rfl,hj,hk⟩:=spP_inv hS
  simp only at hj hk ⊢
  have hj':j < p.funcs.length:=by omega
  rw [hget j hj'] at hk
  rw [hfn j hj']
  obtain ⟨s1,s2⟩:=hsol j hj'
  have hkl:k < p.funcs[j].code.length:=by
   have:=(List.getElem?_eq_some_iff.1 hk).1
   rw [s1.len] at this;exact this
  have hi:insP p.funcs[j] (k:Int)=p.funcs[j].code.getD k (0,0,0):=by
   unfold insP;rw [if_neg (by omega),Int.toNat_natCast]
  rw [hi,Int.toNat_natCast]
  obtain ⟨t,h1,h2⟩:=s1.clo k S hk
  have h1':afterP p.types p.funcs p.funcs[j] (p.funcs[j].code.getD k (0,0,0)).1 (p.funcs[j].code.getD k (0,0,0)).2.1 (p.funcs[j].code.getD k (0,0,0)).2.2 S=some t:=h1
  rw [h1']
  refine ⟨rfl,fun T hT m hm=>?_⟩
  simp only [Option.some.injEq] at hT
  subst hT
  obtain ⟨a,b,c⟩:=h2 m hm
  refine ⟨a,b,?_⟩
  have:=spP_of (sps:=sps) (j:=j) (k:=m.toNat) (S:=t) (by omega) (by rw [hget j hj'];exact c)
  rwa [Int.toNat_of_nonneg a] at this
 ·simp only at fl
  obtain ⟨j,rfl⟩:∃ j:Nat,f=(j:Int):=⟨f.toNat,by omega⟩
  have hj':j < p.funcs.length:=by omega
  exact spP_of (sps:=sps) (k:=0) (by omega) (by rw [hget j hj'];exact (hsol j hj').1.zero)
 ·obtain ⟨j,k,rfl,rfl,hj,hk⟩:=spP_inv hS
  have hj':j < p.funcs.length:=by simp only at hj;omega
  simp only at hk
  rw [hget j hj'] at hk
  exact reach_8 ((hsol j hj').2 k S hk)
end Go.Proofs.Ytnfnbcbadakofaa
namespace Go.Proofs.Ytnfnbcbadakofaa
open Go.RowKit
def stR (c:Cx) (h d:Int):Rn:=⟨h,d,0,[],[],entP 0 (fnAt c.fs 0) [],[],0,[]⟩
def stD (c:Cx) (h d:Int):Dn:=⟨h,d,0,[],⟨0,0,blankP (fnAt c.fs 0).locals 0,[]⟩,[],[],0⟩
theorem rel_start {c:Cx} (ok:CxOk c) {h d:Int} (h0:0<=h) (h4:h<=4000) (d1:1<=d) (d64:d<=64):Rel c (stD c h d) (stR c h d):=by
 have hf:(0:Int) < (c.fs.length:Int):=by have:=ok.pg.f1;simp only at this;omega
 have fk:=fnAt_ok ok (Int.le_refl 0) hf
 refine ⟨rfl,rfl,h0,h4,d1,d64,.inl ⟨rfl,.inl rfl,fun _=>none,?_⟩⟩
 refine ⟨h0,h4,d1,d64,rfl,rfl,⟨rfl,?_,?_,?_,?_⟩,h0,by simpa [stR] using d1,0,.nil,?_⟩
 ·intro a t hs;unfold St at hs;simp [stR,recO] at hs
 ·intro d d' a q;cases q
 ·intro d a q;cases q
 ·intro a t hs;unfold St at hs;simp [stR,recO] at hs
 ·have hs:=ok.zero 0 (Int.le_refl 0) hf
  refine ⟨rfl,rfl,Int.le_refl _,hf,rfl,Int.le_refl _,by have:=fk.c1;show (0:Int) < _;omega,?_,[],hs,.nil⟩
  have:=vl_blank (P:=VR c.ls (stR c h d).words fun _=>none) (vr_num (by decide) (by decide)) (fun k hk=>vr_nil hk) (fnAt c.fs 0).locals (fun t ht=>(fk.lt t ht).1)
  simpa [stD,stR,blankP,entP] using this
theorem start_lay (s:ByteArray) (h d:Int):startL s (opF s).2.2.1.funcs h d=layR (mksP s) (stR (cxO s) h d):=rfl
end Go.Proofs.Ytnfnbcbadakofaa
