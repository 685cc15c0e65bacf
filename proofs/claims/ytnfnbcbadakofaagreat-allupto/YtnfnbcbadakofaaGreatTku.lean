import Derived.Test.YtnfnbcbadakofaaGreatSms
namespace Go.Proofs.YtnfnbcbadakofaaGreat
open Go.RowKit
section
variable {c:Cx} {D:Dn} {R:Rn} {phi:Nat->Option Nat} {f:Int} {op A B:Int} {rest:List Int}
theorem Cu.pc (h:Cu c D R phi f (op,A,B) rest):((R.top.pc.toNat:Nat):Int)=R.top.pc:=by have:=h.tp.p0;omega
theorem Cu.next (h:Cu c D R phi f (op,A,B) rest) (h13:op ≠ 13) (h16:op ≠ 16) {D':Dn} {R':Rn} (hst:D'.status=0) (hst':R'.status=0) (ho:D'.out=R'.out) (hu:D'.used=R'.used) (hi:R'.inp=R.inp)
 (hh:R'.heap=R.heap/\R'.depth=R.depth/\D'.heap=D.heap/\D'.depth=D.depth) (hw:R'.words=R.words) (hr:D'.recs=D.recs) (hb:R'.below=R.below) (hb':D'.below=D.below)
 (fn:R'.top.fn=R.top.fn) (dfn:D'.top.fn=D.top.fn) (pc:R'.top.pc=R.top.pc+1) (dpc:D'.top.pc=D.top.pc+1)
 (loc:VL (VR c.ls R.words phi) (aq c.fs f).locals D'.top.locals R'.top.locals) (stk:VL (VR c.ls R.words phi) (rest++ag c.ls c.fs (aq c.fs f) op A B) D'.top.stack R'.top.stack):Nx c D R D' R':=by
 refine h.top hst hst' ho hu hi hh hw hr hb hb' fn dfn (by rw [pc,dpc,h.tp.pc]) ?_ loc stk
 have:=eK (A:=A) (i:=R.top.pc.toNat) h13 h16
 rw [h.pc] at this;rw [pc];exact this
theorem np (h:Cu c D R phi f (0,A,B) rest) (s0:D.status=0) (s0':R.status=0) (ho:D.out=R.out) (hu:D.used=R.used):Nx c D R (aN c R.inp (0,A,B) D) (doP c (0,A,B) R):=by
 have hi:=h.iok
 have e:ak c.ls c.fs (aq c.fs f) 0 A B=[]:=by simp [ak]
 have hs:=h.stk
 simp only [e,List.append_nil] at hs
 simp only [cH,bA] at hi
 refine h.next (by decide) (by decide) s0 s0' ho hu rfl ⟨rfl,rfl,rfl,rfl⟩ rfl rfl rfl rfl rfl rfl rfl rfl h.tp.loc ?_
 have:ag c.ls c.fs (aq c.fs f) 0 A B=[0]:=by simp [ag]
 rw [this]
 have hA:A<=255:=by have:=hi.2.1.2;simpa using this
 have hA0:0<=A:=by have:=hi.2.1.1;simpa using this
 exact hs.app (.one (ei (n:=A) hA0 (by omega)))
theorem tO {op a b:Int} (ho:op=1 \/ op=2 \/ op=3 \/ op=4):bz op a b=dB op a b/\0<=dB op a b/\dB op a b < 65536:=by
 rcases ho with rfl | rfl | rfl | rfl <;> simp only [bz,dB] <;> simp <;> first | done | omega | (split <;> omega)
theorem fy (h:Cu c D R phi f (op,A,B) rest) (hop:op=1 \/ op=2 \/ op=3 \/ op=4) (s0:D.status=0) (s0':R.status=0) (ho:D.out=R.out) (hu:D.used=R.used):Nx c D R (aN c R.inp (op,A,B) D) (doP c (op,A,B) R):=by
 have e:ak c.ls c.fs (aq c.fs f) op A B=[0]++[0]:=by simp [ak,hop]
 have hs:=h.stk
 simp only [e] at hs
 rw [<-List.append_assoc] at hs
 obtain ⟨h1,v1⟩:=hs.snoc
 obtain ⟨h2,v2⟩:=h1.snoc
 obtain ⟨x1,y1,z1⟩:=v1.num
 obtain ⟨x2,y2,z2⟩:=v2.num
 have hq:=tO (op:=op) (a:=aF R.top.stack.dropLast) (b:=aF R.top.stack) hop
 have ed:aN c R.inp (op,A,B) D = { ap D with top:=aD (ax (ax (ap D).top)) (bz op (au (ap D).top.stack.dropLast).1 (au (ap D).top.stack).1,false) }:=by
  unfold aN cp;simp only;rw [if_neg (by rcases hop with h | h | h | h <;> omega),if_pos hop]
 have er:doP c (op,A,B) R=gO { R with top:=cG (aR (aR R.top)) (dB op (aF R.top.stack.dropLast) (aF R.top.stack)) }:=by
  unfold doP uvP;simp only
  rw [if_neg (by rcases hop with h | h | h | h <;> omega),if_neg (by rcases hop with h | h | h | h <;> omega),if_neg (by rcases hop with h | h | h | h <;> omega),if_neg (by rcases hop with h | h | h | h <;> omega),if_neg (by rcases hop with h | h | h | h <;> omega),
   if_neg (by rcases hop with h | h | h | h <;> omega),if_pos (by rcases hop with h | h | h | h <;> simp [h])]
 rw [ed,er]
 refine h.next (by rcases hop with h | h | h | h <;> omega) (by rcases hop with h | h | h | h <;> omega) s0 s0' ho hu rfl ⟨rfl,rfl,rfl,rfl⟩ rfl rfl rfl rfl rfl rfl rfl rfl h.tp.loc ?_
 have:ag c.ls c.fs (aq c.fs f) op A B=[0]:=by rcases hop with rfl | rfl | rfl | rfl <;> simp [ag]
 rw [this]
 refine VL.app h2 (.one ?_)
 show VR c.ls R.words phi 0 (bz op (au D.top.stack.dropLast).1 (au D.top.stack).1,false) (dB op (aF R.top.stack.dropLast) (aF R.top.stack))
 rw [x1,x2]
 simp only
 rw [hq.1]
 exact ei hq.2.1 hq.2.2
theorem mh (h:Cu c D R phi f (5,A,B) rest) (s0:D.status=0) (s0':R.status=0) (ho:D.out=R.out) (hu:D.used=R.used):Nx c D R (aN c R.inp (5,A,B) D) (doP c (5,A,B) R):=by
 have hi:=h.iok
 have e:ak c.ls c.fs (aq c.fs f) 5 A B=[]:=by simp [ak]
 have hs:=h.stk
 simp only [e,List.append_nil] at hs
 simp only [cH,bA] at hi
 have hA0:0<=A:=hi.2.1.1
 have hA1:A < ((aq c.fs f).locals.length:Int):=by have:=hi.2.1.2;simp at this;omega
 refine h.next (by decide) (by decide) s0 s0' ho hu rfl ⟨rfl,rfl,rfl,rfl⟩ rfl rfl rfl rfl rfl rfl rfl rfl h.tp.loc ?_
 have:ag c.ls c.fs (aq c.fs f) 5 A B=[aU (aq c.fs f).locals A]:=by simp [ag]
 rw [this]
 refine VL.app hs (.one ?_)
 have hl:=h.tp.loc.len
 have:=h.tp.loc.get (i:=A.toNat) (by omega)
 rw [cP hA0 hA1]
 show VR c.ls R.words phi _ (D.top.locals.getD A.toNat (0,false)) (aU R.top.locals A)
 rw [cP hA0 (by rw [hl.2];exact hA1)]
 exact this
theorem kC (h:Cu c D R phi f (6,A,B) rest) (s0:D.status=0) (s0':R.status=0) (ho:D.out=R.out) (hu:D.used=R.used):Nx c D R (aN c R.inp (6,A,B) D) (doP c (6,A,B) R):=by
 have hi:=h.iok
 have e:ak c.ls c.fs (aq c.fs f) 6 A B=[aU (aq c.fs f).locals A]:=by simp [ak]
 have hs:=h.stk
 simp only [e] at hs
 simp only [cH,bA] at hi
 have hA0:0<=A:=hi.2.1.1
 have hA1:A < ((aq c.fs f).locals.length:Int):=by have:=hi.2.1.2;simp at this;omega
 have hl:=h.tp.loc.len
 obtain ⟨h1,v1⟩:=hs.snoc
 rw [cP hA0 hA1] at v1
 refine h.next (by decide) (by decide) s0 s0' ho hu rfl ⟨rfl,rfl,rfl,rfl⟩ rfl rfl rfl rfl rfl rfl rfl rfl ?_ ?_
 ·show VL _ _ (D.top.locals.set A.toNat (au D.top.stack)) (if 0<=A/\A < (R.top.locals.length:Int) then R.top.locals.set A.toNat (aF R.top.stack) else R.top.locals)
  rw [if_pos ⟨hA0,by rw [hl.2];exact hA1⟩]
  exact h.tp.loc.set v1
 ·have:ag c.ls c.fs (aq c.fs f) 6 A B=[]:=by simp [ag]
  rw [this,List.append_nil]
  exact h1
theorem nj (h:Cu c D R phi f (10,A,B) rest) (s0:D.status=0) (s0':R.status=0) (ho:D.out=R.out) (hu:D.used=R.used):Nx c D R (aN c R.inp (10,A,B) D) (doP c (10,A,B) R):=by
 have hi:=h.iok
 have e:ak c.ls c.fs (aq c.fs f) 10 A B=[]:=by simp [ak]
 have hs:=h.stk
 simp only [e,List.append_nil] at hs
 simp only [cH,bA] at hi
 refine h.next (by decide) (by decide) s0 s0' ho hu rfl ⟨rfl,rfl,rfl,rfl⟩ rfl rfl rfl rfl rfl rfl rfl rfl h.tp.loc ?_
 have:ag c.ls c.fs (aq c.fs f) 10 A B=[A]:=by simp [ag]
 rw [this]
 exact hs.app (.one (kq (by have:=hi.2.1.1;simp at this;omega)))
theorem rt (h:Cu c D R phi f (11,A,B) rest) (s0:D.status=0) (s0':R.status=0) (ho:D.out=R.out) (hu:D.used=R.used):Nx c D R (aN c R.inp (11,A,B) D) (doP c (11,A,B) R):=by
 have e:ak c.ls c.fs (aq c.fs f) 11 A B=[A]:=by simp [ak]
 have hs:=h.stk
 simp only [e] at hs
 obtain ⟨h1,v1⟩:=hs.snoc
 refine h.next (by decide) (by decide) s0 s0' ho hu rfl ⟨rfl,rfl,rfl,rfl⟩ rfl rfl rfl rfl rfl rfl rfl rfl h.tp.loc ?_
 have:ag c.ls c.fs (aq c.fs f) 11 A B=[0]:=by simp [ag]
 rw [this]
 refine VL.app h1 (.one ?_)
 show VR c.ls R.words phi 0 (if (au D.top.stack).1=0 then 1 else 0,false) (if aF R.top.stack=0 then 1 else 0)
 have hz:=v1.zero
 by_cases hv:aF R.top.stack=0
 ·rw [if_pos hv,if_pos (hz.2 hv)];exact ei (by decide) (by decide)
 ·rw [if_neg hv,if_neg (fun e=>hv (hz.1 e))];exact ei (by decide) (by decide)
theorem mU (h:Cu c D R phi f (12,A,B) rest) (s0:D.status=0) (s0':R.status=0) (ho:D.out=R.out) (hu:D.used=R.used):Nx c D R (aN c R.inp (12,A,B) D) (doP c (12,A,B) R):=by
 have e:ak c.ls c.fs (aq c.fs f) 12 A B=[A]++[A]:=by simp [ak]
 have hs:=h.stk
 simp only [e] at hs
 rw [<-List.append_assoc] at hs
 obtain ⟨h1,v1⟩:=hs.snoc
 obtain ⟨h2,v2⟩:=h1.snoc
 refine h.next (by decide) (by decide) s0 s0' ho hu rfl ⟨rfl,rfl,rfl,rfl⟩ rfl rfl rfl rfl rfl rfl rfl rfl h.tp.loc ?_
 have:ag c.ls c.fs (aq c.fs f) 12 A B=[0]:=by simp [ag]
 rw [this]
 refine VL.app h2 (.one ?_)
 show VR c.ls R.words phi 0 (if (au D.top.stack.dropLast).1=(au D.top.stack).1 then 1 else 0,false) (dB 12 (aF R.top.stack.dropLast) (aF R.top.stack))
 have er:dB 12 (aF R.top.stack.dropLast) (aF R.top.stack)=if aF R.top.stack.dropLast=aF R.top.stack then 1 else 0:=by unfold dB;simp
 rw [er]
 have hz:=v2.same h.sm.mem v1
 by_cases hv:aF R.top.stack.dropLast=aF R.top.stack
 ·rw [if_pos hv,if_pos (hz.2 hv)];exact ei (by decide) (by decide)
 ·rw [if_neg hv,if_neg (fun e=>hv (hz.1 e))];exact ei (by decide) (by decide)
theorem kM (h:Cu c D R phi f (17,A,B) rest) (s0:D.status=0) (s0':R.status=0) (ho:D.out=R.out) (hu:D.used=R.used):Nx c D R (aN c R.inp (17,A,B) D) (doP c (17,A,B) R):=by
 have e:ak c.ls c.fs (aq c.fs f) 17 A B=[0]:=by simp [ak]
 have hs:=h.stk
 simp only [e] at hs
 obtain ⟨h1,v1⟩:=hs.snoc
 obtain ⟨x1,y1,z1⟩:=v1.num
 refine h.next (by decide) (by decide) s0 s0' ?_ hu rfl ⟨rfl,rfl,rfl,rfl⟩ rfl rfl rfl rfl rfl rfl rfl rfl h.tp.loc ?_
 ·show D.out++[(au D.top.stack).1]=R.out++[aF R.top.stack]
  rw [x1,ho]
 ·have:ag c.ls c.fs (aq c.fs f) 17 A B=[]:=by simp [ag]
  rw [this,List.append_nil]
  exact h1
theorem ny (h:Cu c D R phi f (18,A,B) rest) (s0:D.status=0) (s0':R.status=0) (ho:D.out=R.out) (hu:D.used=R.used):Nx c D R (aN c R.inp (18,A,B) D) (doP c (18,A,B) R):=by
 have e:ak c.ls c.fs (aq c.fs f) 18 A B=[]:=by simp [ak]
 have hs:=h.stk
 simp only [e,List.append_nil] at hs
 refine h.next (by decide) (by decide) s0 s0' ho (by show D.used+1=R.used+1;rw [hu]) rfl ⟨rfl,rfl,rfl,rfl⟩ rfl rfl rfl rfl rfl rfl rfl rfl h.tp.loc ?_
 have:ag c.ls c.fs (aq c.fs f) 18 A B=[0]:=by simp [ag]
 rw [this]
 refine VL.app hs (.one ?_)
 show VR c.ls R.words phi 0 (R.inp.getD D.used 0 % 65536,false) (R.inp.getD R.used 0 % 65536)
 rw [hu]
 exact ei (Int.emod_nonneg _ (by decide)) (Int.emod_lt_of_pos _ (by decide))
theorem mQ (h:Cu c D R phi f (13,A,B) rest) (s0:D.status=0) (s0':R.status=0) (ho:D.out=R.out) (hu:D.used=R.used):Nx c D R (aN c R.inp (13,A,B) D) (doP c (13,A,B) R):=by
 have e:ak c.ls c.fs (aq c.fs f) 13 A B=[]:=by simp [ak]
 have hs:=h.stk
 simp only [e,List.append_nil] at hs
 refine h.top s0 s0' ho hu rfl ⟨rfl,rfl,rfl,rfl⟩ rfl rfl rfl rfl rfl rfl rfl ?_ h.tp.loc ?_
 ·show A ∈ bU 13 A R.top.pc.toNat
  simp [bU]
 ·have:ag c.ls c.fs (aq c.fs f) 13 A B=[]:=by simp [ag]
  rw [this,List.append_nil]
  exact hs
theorem mW (h:Cu c D R phi f (14,A,B) rest) (s0:D.status=0) (s0':R.status=0) (ho:D.out=R.out) (hu:D.used=R.used):Nx c D R (aN c R.inp (14,A,B) D) (doP c (14,A,B) R):=by
 have e:ak c.ls c.fs (aq c.fs f) 14 A B=[0]:=by simp [ak]
 have hs:=h.stk
 simp only [e] at hs
 obtain ⟨h1,v1⟩:=hs.snoc
 obtain ⟨x1,y1,z1⟩:=v1.num
 refine h.top s0 s0' ho hu rfl ⟨rfl,rfl,rfl,rfl⟩ rfl rfl rfl rfl rfl rfl ?_ ?_ h.tp.loc ?_
 ·show (if (au D.top.stack).1=0 then A else D.top.pc+1)=if aF R.top.stack=0 then A else R.top.pc+1
  rw [x1,h.tp.pc]
 ·show (if aF R.top.stack=0 then A else R.top.pc+1) ∈ bU 14 A R.top.pc.toNat
  have hp:=h.pc
  unfold bU
  rw [if_neg (by decide),if_pos rfl,hp]
  split <;> simp
 ·have:ag c.ls c.fs (aq c.fs f) 14 A B=[]:=by simp [ag]
  rw [this,List.append_nil]
  exact h1
end
end Go.Proofs.YtnfnbcbadakofaaGreat
namespace Go.Proofs.YtnfnbcbadakofaaGreat
open Go.RowKit
theorem gS {ws:List Int} {a n i:Nat} (h:i < n):(seg ws a n).getD i 0=ws.getD (a+1+i) 0:=by
 unfold seg
 rw [List.getD_eq_getElem?_getD,List.getD_eq_getElem?_getD,List.getElem?_take_of_lt h,List.getElem?_drop]
theorem qJ {ws:List Int} {a n i:Nat} {v:Int} (_h:i < n):seg (ws.set (a+1+i) v) a n=(seg ws a n).set i v:=by
 unfold seg
 rw [List.drop_set]
 rw [if_neg (by omega),show a+1+i - (a+1)=i by omega]
 rw [List.take_set]
theorem qD {ws:List Int} {a n p:Nat} {v:Int} (h:∀ i,i < n->p ≠ a+1+i):seg (ws.set p v) a n=seg ws a n:=by
 apply List.ext_getElem?
 intro i
 unfold seg
 by_cases hi:i < n
 ·rw [List.getElem?_take_of_lt hi,List.getElem?_take_of_lt hi,List.getElem?_drop,List.getElem?_drop,List.getElem?_set_ne (h i hi)]
 ·rw [List.getElem?_take_eq_none (by omega),List.getElem?_take_eq_none (by omega)]
theorem fK {ls:List (List Int)} {A:Int} (h:0 < (flds ls A).length):1<=A:=by
 unfold flds at h
 split at h
 ·simp at h
 ·omega
theorem Mm.vr_mono {ls:List (List Int)} {ws ws':List Int} {phi phi':Nat->Option Nat} (hs:∀ a t,St ls ws a t->St ls ws' a t) (hp:∀ d a,phi d=some a->phi' d=some a):∀ k d v,VR ls ws phi k d v->VR ls ws' phi' k d v:=by
 intro k d v h
 rcases h with h | ⟨a,b,h | ⟨e,q,x,y,z,s⟩⟩
 ·exact .inl h
 ·exact .inr ⟨a,b,.inl h⟩
 ·exact .inr ⟨a,b,.inr ⟨e,q,x,y,hp _ _ z,hs _ _ s⟩⟩
theorem Mm.set {ls:List (List Int)} {recs:List (List (Int × Bool))} {ws:List Int} {phi:Nat->Option Nat} (hm:Mm ls recs ws phi) {e a i:Nat} {t:Int} (hp:phi e=some a) (hs:St ls ws a t) (hi:i < (flds ls t).length) {d:Int × Bool} {v:Int} (hv:VR ls ws phi ((flds ls t).getD i 0) d v) :
 Mm ls (recs.set e ((recs.getD e []).set i d)) (ws.set (a+1+i) v) phi/\∀ k d' v',VR ls ws phi k d' v'->VR ls (ws.set (a+1+i) v) phi k d' v':=by
 obtain ⟨r1,r2⟩:=oi (v:=v) ((hs.val hm.full).2.2 i hi)
 have st1:∀ b t,St ls ws b t->St ls (ws.set (a+1+i) v) b t:=fun b t h=>by unfold St at h ⊢;rw [r1];exact h
 have st2:∀ b t,St ls (ws.set (a+1+i) v) b t->St ls ws b t:=fun b t h=>by unfold St at h ⊢;rw [r1] at h;exact h
 have hmono:=Mm.vr_mono (phi:=phi) (phi':=phi) st1 (fun _ _ h=>h)
 refine ⟨⟨by rw [r2];exact hm.full,fun b t h=>hm.typ b t (st2 b t h),hm.inj,fun d' b hb=>?_,fun b t h=>hm.sur b t (st2 b t h)⟩,hmono⟩
 obtain ⟨x,t',y,z⟩:=hm.dom d' b hb
 refine ⟨by rw [List.length_set];exact x,t',st1 _ _ y,?_⟩
 by_cases hd:d'=e
 ·subst hd
  rw [hp] at hb
  simp only [Option.some.injEq] at hb
  subst hb
  have:=hs.uniq y
  subst this
  rw [qJ hi]
  have:(recs.set d' ((recs.getD d' []).set i d)).getD d' []=(recs.getD d' []).set i d:=by
   rw [List.getD_eq_getElem?_getD,List.getElem?_set_self x];rfl
  rw [this]
  exact (z.set hv).mono hmono
 ·have hne:b ≠ a:=fun h=>hd (hm.inj _ _ a (by rw [hb,h]) hp)
  rw [qD (fun j hj=>(hs.apart y hm.full (fun h=>hne h.symm) hi hj).1)]
  have:(recs.set e ((recs.getD e []).set i d)).getD d' []=recs.getD d' []:=by
   rw [List.getD_eq_getElem?_getD,List.getElem?_set_ne (fun h=>hd h.symm),List.getD_eq_getElem?_getD]
  rw [this]
  exact z.mono hmono
section
variable {c:Cx} {D:Dn} {R:Rn} {phi:Nat->Option Nat} {f:Int} {op A B:Int} {rest:List Int}
theorem Cu.end (_h:Cu c D R phi f (op,A,B) rest) {D':Dn} {R':Rn} {s:Int} (hs:s=1 \/ s=3 \/ s=4 \/ s=5) (hst:D'.status=s) (hst':R'.status=s) (ho:D'.out=R'.out) (hu:D'.used=R'.used) (hi:R'.inp=R.inp)
 (hh:R'.heap=R.heap/\R'.depth=R.depth/\D'.heap=D.heap/\D'.depth=D.depth):Nx c D R D' R':=
 ⟨by rw [hst,hst'],ho,hu,hi,hh,fun h=>by rw [hst'] at h;omega,by rw [hst'];omega⟩
theorem n8 (h:Cu c D R phi f (8,A,B) rest) (s0:D.status=0) (s0':R.status=0) (ho:D.out=R.out) (hu:D.used=R.used):Nx c D R (aN c R.inp (8,A,B) D) (doP c (8,A,B) R):=by
 have hi:=h.iok
 simp only [cH,gB] at hi
 have hB0:0<=B:=hi.2.2.1
 have hB1:B < ((flds c.ls A).length:Int):=by have:=hi.2.2.2;simp at this;omega
 have hA1:1<=A:=fK (ls:=c.ls) (by omega)
 have e:ak c.ls c.fs (aq c.fs f) 8 A B=[A]:=by simp [ak]
 have hs:=h.stk
 simp only [e] at hs
 obtain ⟨h1,v1⟩:=hs.snoc
 have ed:aN c R.inp (8,A,B) D=(if (au D.top.stack).1=0 then { ap D with top:=ax (ap D).top,status:=3 } else { ap D with top:=aD (ax (ap D).top) ((D.recs.getD ((au D.top.stack).1 - 1).toNat []).getD B.toNat (0,false)) }):=rfl
 have er:doP c (8,A,B) R=gO (if aF R.top.stack=0 then { R with top:=aR R.top,status:=3 } else { R with top:=cG (aR R.top) (aU R.words (aF R.top.stack+B)) }):=rfl
 rw [ed,er]
 obtain ⟨_,hz | ⟨d,a,x,y,z,s⟩⟩:=v1.ref (by omega)
 ·rw [if_pos hz.1,if_pos hz.2]
  exact h.end (s:=3) (by omega) rfl rfl ho hu rfl ⟨rfl,rfl,rfl,rfl⟩
 ·rw [if_neg (by omega),if_neg (by omega)]
  refine h.next (by decide) (by decide) s0 s0' ho hu rfl ⟨rfl,rfl,rfl,rfl⟩ rfl rfl rfl rfl rfl rfl rfl rfl h.tp.loc ?_
  have:ag c.ls c.fs (aq c.fs f) 8 A B=[aU (flds c.ls A) B]:=by simp [ag]
  rw [this,cP hB0 hB1]
  refine VL.app h1 (.one ?_)
  show VR c.ls R.words phi _ ((D.recs.getD ((au D.top.stack).1 - 1).toNat []).getD B.toNat (0,false)) (aU R.words (aF R.top.stack+B))
  obtain ⟨_,t,s',hv⟩:=h.sm.mem.dom _ _ z
  have:=s.uniq s'
  subst this
  have hw:=(s.val h.sm.mem.full).2.1
  have:=hv.get (i:=B.toNat) (by omega)
  rw [gS (by omega)] at this
  rw [cP (by omega) (by omega),show (aF R.top.stack+B).toNat=a+1+B.toNat by omega,show ((au D.top.stack).1 - 1).toNat=d by omega]
  exact this
theorem Tp.nextF {c:Cx} {P:Int->Int × Bool->Int->Prop} {f:Int} {d:DFr} {g:Fr} (h:Tp c P f d g) {d':DFr} {g':Fr} (fn:g'.fn=g.fn) (dfn:d'.fn=d.fn) (pc:d'.pc=g'.pc) (p0:0<=g'.pc) (pl:g'.pc < ((aq c.fs f).code.length:Int)) {Q:Int->Int × Bool->Int->Prop} (loc:VL Q (aq c.fs f).locals d'.locals g'.locals) {S:List Int} (hS:spP c.sps f g'.pc=some S) (stk:VL Q S d'.stack g'.stack):Tp c Q f d' g':=
 ⟨by rw [fn];exact h.fn,by rw [dfn];exact h.dfn,h.f0,h.fl,pc,p0,pl,loc,S,hS,stk⟩
theorem pW (h:Cu c D R phi f (9,A,B) rest) (s0:D.status=0) (s0':R.status=0) (ho:D.out=R.out) (hu:D.used=R.used):Nx c D R (aN c R.inp (9,A,B) D) (doP c (9,A,B) R):=by
 have hi:=h.iok
 simp only [cH,gB] at hi
 have hB0:0<=B:=hi.2.2.1
 have hB1:B < ((flds c.ls A).length:Int):=by have:=hi.2.2.2;simp at this;omega
 have hA1:1<=A:=fK (ls:=c.ls) (by omega)
 have e:ak c.ls c.fs (aq c.fs f) 9 A B=[A]++[aU (flds c.ls A) B]:=by simp [ak]
 have hs:=h.stk
 simp only [e] at hs
 rw [<-List.append_assoc] at hs
 obtain ⟨h1,v1⟩:=hs.snoc
 obtain ⟨h2,v2⟩:=h1.snoc
 have ed:aN c R.inp (9,A,B) D=(if (au D.top.stack.dropLast).1=0 then { ap D with top:=ax (ax (ap D).top),status:=3 } else { ap D with top:=ax (ax (ap D).top),recs:=D.recs.set ((au D.top.stack.dropLast).1 - 1).toNat ((D.recs.getD ((au D.top.stack.dropLast).1 - 1).toNat []).set B.toNat (au D.top.stack)) }):=rfl
 have er:doP c (9,A,B) R=gO (if aF R.top.stack.dropLast=0 then { R with top:=aR (aR R.top),status:=3 } else { R with top:=aR (aR R.top),words:=if 0<=aF R.top.stack.dropLast+B/\aF R.top.stack.dropLast+B < (R.words.length:Int) then R.words.set (aF R.top.stack.dropLast+B).toNat (aF R.top.stack) else R.words }):=rfl
 rw [ed,er]
 obtain ⟨_,hz | ⟨d,a,x,y,z,s⟩⟩:=v2.ref (by omega)
 ·rw [if_pos hz.1,if_pos hz.2]
  exact h.end (s:=3) (by omega) rfl rfl ho hu rfl ⟨rfl,rfl,rfl,rfl⟩
 ·have hw:=(s.val h.sm.mem.full).2.1
  rw [cP hB0 hB1] at v1
  obtain ⟨m1,m2⟩:=h.sm.mem.set z s (i:=B.toNat) (by omega) v1
  rw [if_neg (by omega),if_neg (by omega),if_pos ⟨by omega,by omega⟩,show (aF R.top.stack.dropLast+B).toNat=a+1+B.toNat by omega,show ((au D.top.stack.dropLast).1 - 1).toNat=d by omega]
  have hwy:=h.way _ (eK (op:=9) (A:=A) (i:=R.top.pc.toNat) (by decide) (by decide))
  rw [h.pc] at hwy
  have:ag c.ls c.fs (aq c.fs f) 9 A B=[]:=by simp [ag]
  simp only [this,List.append_nil] at hwy
  refine ⟨?_,ho,hu,rfl,⟨rfl,rfl,rfl,rfl⟩,fun _=>⟨phi,?_⟩,.inl s0'⟩
  ·show D.status=R.status
   rw [s0,s0']
  ·refine ⟨h.sm.h0,h.sm.h4,h.sm.d1,h.sm.d64,h.sm.heap,h.sm.depth,m1,?_,h.sm.bl,f,h.bel.mono m2,?_⟩
   ·show ((R.words.set _ _).length:Int)<=R.heap
    rw [List.length_set];exact h.sm.len
   ·exact h.tp.nextF (g':=uD (aR (aR R.top))) (d':=ax (ax (ap D).top)) rfl rfl (by show D.top.pc+1=R.top.pc+1;rw [h.tp.pc]) hwy.1 hwy.2.1 (h.tp.loc.mono m2) hwy.2.2 (h2.mono m2)
theorem lO {S:List Int} {n:Nat} (h:n<=S.length):cS S n=S.drop (S.length - n)/\dw S n=S.take (S.length - n):=by
 unfold cS dw;rw [if_neg (by omega),if_neg (by omega)];exact ⟨rfl,rfl⟩
theorem jH {P:Int->Int × Bool->Int->Prop} (h0:P 0 (0,false) 0) (h1:∀ k,k ≠ 0->P k (0,true) 0) (l:List Int) (hl:∀ t ∈ l,0<=t):VL P l (l.map fun t=>((0:Int),decide (0 < t))) (List.replicate l.length 0):=by
 induction l with
 | nil=>exact .nil
 | cons t l ih =>
  have ht:=hl t (by simp)
  refine .cons ?_ (ih (fun t h=>hl t (by simp [h])))
  by_cases h:t=0
  ·subst h;simpa using h0
  ·have:decide (0 < t)=true:=by simp;omega
   show P t (0,decide (0 < t)) 0
   rw [this];exact h1 t h
theorem jP {c:Cx} (ok:bM c) {g:Int} (h0:0<=g) (hl:g < (c.fs.length:Int)):aP c.fs g=(aq c.fs g).locals.take (aq c.fs g).args.toNat/\(aP c.fs g).length=(aq c.fs g).args.toNat:=by
 have hj:g.toNat < c.fs.length:=by omega
 have hk:=cj ok h0 hl
 have e:aP c.fs g=(aq c.fs g).locals.take (aq c.fs g).args.toNat:=by
  rw [fY,bT,if_neg (by have:=hk.a0;have:=hk.al;omega)]
 refine ⟨e,?_⟩
 rw [e,List.length_take]
 have:=hk.a0
 have:=hk.al
 omega
theorem nl (ok:bM c) (h:Cu c D R phi f (15,A,B) rest) (s0:D.status=0) (s0':R.status=0) (ho:D.out=R.out) (hu:D.used=R.used):Nx c D R (aN c R.inp (15,A,B) D) (doP c (15,A,B) R):=by
 have hi:=h.iok
 simp only [cH,bA] at hi
 have hA0:0<=A:=hi.2.1.1
 have hA1:A < (c.fs.length:Int):=by have:=hi.2.1.2;simp at this;omega
 have e:ak c.ls c.fs (aq c.fs f) 15 A B=aP c.fs A:=by simp [ak]
 have hs:=h.stk
 have hsp:=h.spt
 simp only [e] at hs hsp
 obtain ⟨h1,h2⟩:=hs.split
 have hl:=hs.len
 rw [List.length_append] at hl
 have hbl:=h.bel.len
 have ed:aN c R.inp (15,A,B) D=ie c A (ap D):=rfl
 have er:doP c (15,A,B) R=clP c A R:=rfl
 rw [ed,er]
 unfold ie clP
 have e1:(ap D).depth=R.depth:=h.sm.depth
 have e2:(ap D).below.length=R.below.length:=hbl
 by_cases hd:R.depth<=(R.below.length:Int)+1
 ·rw [if_pos (show (ap D).depth<=((ap D).below.length:Int)+1 by rw [e1,e2];exact hd),if_pos hd]
  exact h.end (s:=5) (by omega) rfl rfl ho hu rfl ⟨rfl,rfl,rfl,rfl⟩
 ·rw [if_neg (show ¬ (ap D).depth<=((ap D).below.length:Int)+1 by rw [e1,e2];exact hd),if_neg hd]
  obtain ⟨p1,p2⟩:=lO (S:=R.top.stack) (n:=(aP c.fs A).length) (by omega)
  have fk:=cj ok hA0 hA1
  obtain ⟨ae,al⟩:=jP ok hA0 hA1
  have ez:=ok.zero A hA0 hA1
  refine ⟨?_,ho,hu,rfl,⟨rfl,rfl,rfl,rfl⟩,fun _=>⟨phi,?_⟩,.inl s0'⟩
  ·show D.status=R.status
   rw [s0,s0']
  ·refine h.sm.same ⟨rfl,rfl,rfl,rfl⟩ rfl rfl ?_ ⟨A,?_,?_⟩
   ·show ((R.below++[_]).length:Int)+1<=R.depth
    rw [List.length_append];simp;omega
   ·refine .snoc h.bel ⟨h.tp.fn,h.tp.dfn,h.tp.f0,h.tp.fl,?_,h.tp.p0,h.tp.pl,by rw [h.ins],by rw [h.ins],h.tp.loc,rest,hsp,?_⟩
    ·show D.top.pc+1=R.top.pc+1
     rw [h.tp.pc]
    ·show VL _ rest (D.top.stack.take (D.top.stack.length - (aP c.fs A).length)) (dw R.top.stack (aP c.fs A).length)
     rw [p2,show D.top.stack.length - (aP c.fs A).length=rest.length by omega,show R.top.stack.length - (aP c.fs A).length=rest.length by omega]
     exact h1
   ·refine ⟨rfl,rfl,hA0,hA1,rfl,Int.le_refl _,?_,?_,[],ez,.nil⟩
    ·show (0:Int) < _
     have:=fk.c1;omega
    ·show VL _ (aq c.fs A).locals (D.top.stack.drop (D.top.stack.length - (aP c.fs A).length)++cz (aq c.fs A).locals (aP c.fs A).length) (cS R.top.stack (aP c.fs A).length++List.replicate ((aq c.fs A).locals.length - (cS R.top.stack (aP c.fs A).length).length) 0)
     have hn:(cS R.top.stack (aP c.fs A).length).length=(aP c.fs A).length:=by rw [p1,List.length_drop];omega
     rw [hn,p1,show D.top.stack.length - (aP c.fs A).length=rest.length by omega,show R.top.stack.length - (aP c.fs A).length=rest.length by omega]
     have hsplit:(aq c.fs A).locals=aP c.fs A++(aq c.fs A).locals.drop (aP c.fs A).length:=by
      rw [al];conv=>lhs;rw [<-List.take_append_drop (aq c.fs A).args.toNat (aq c.fs A).locals,<-ae]
     conv=>arg 2;rw [hsplit]
     refine VL.app h2 ?_
     have:=jH (P:=VR c.ls R.words phi) (ei (Int.le_refl 0) (by decide)) (fun k hk=>kq hk) ((aq c.fs A).locals.drop (aP c.fs A).length) (fun t ht=>(fk.lt t (List.mem_of_mem_drop ht)).1)
     rw [List.length_drop] at this
     exact this
theorem si {c:Cx} {g:Int} (h0:0<=g) (hl:g < (c.fs.length:Int)):j5 c.fs g=(aq c.fs g).result:=by
 have hj:g.toNat < c.fs.length:=by omega
 unfold j5 aq;rw [dif_pos ⟨h0,hj⟩,dif_pos ⟨h0,hj⟩]
theorem Bel.inv {c:Cx} {P:Int->Int × Bool->Int->Prop} {ds:List DFr} {gs:List Fr} {h:Int} (hb:Bel c P ds gs h) (hne:gs ≠ []):∃ (hd:ds ≠ []) (f:Int),Bel c P ds.dropLast gs.dropLast f/\Wt c P f h (ds.getLast hd) (gs.getLast hne):=by
 cases hb with
 | nil=>exact absurd rfl hne
 | snoc hb hw=>exact ⟨by simp,_,by simpa using hb,by simpa using hw⟩
theorem Bel.nil_inv {c:Cx} {P:Int->Int × Bool->Int->Prop} {ds:List DFr} {gs:List Fr} {h:Int} (hb:Bel c P ds gs h) (he:gs=[]):h=0:=by
 cases hb with
 | nil=>rfl
 | snoc _ _=>simp at he
theorem pT (ok:bM c) (h:Cu c D R phi f (16,A,B) rest) (s0:D.status=0) (s0':R.status=0) (ho:D.out=R.out) (hu:D.used=R.used):Nx c D R (aN c R.inp (16,A,B) D) (doP c (16,A,B) R):=by
 have hr:=h.ret rfl
 subst hr
 have e:ak c.ls c.fs (aq c.fs f) 16 A B=[(aq c.fs f).result]:=by simp [ak]
 have hs:=h.stk
 simp only [e] at hs
 obtain ⟨_,v1⟩:=hs.snoc
 have hbl:=h.bel.len
 have ed:aN c R.inp (16,A,B) D=dc (ap D):=rfl
 have er:doP c (16,A,B) R=gbP R:=rfl
 rw [ed,er]
 unfold dc gbP
 by_cases hb:R.below=[]
 ·have hb':(ap D).below=[]:=by show D.below=[];exact List.eq_nil_of_length_eq_zero (by rw [hbl,hb];rfl)
  rw [dif_pos hb,dif_pos hb']
  have hf0:f=0:=h.bel.nil_inv hb
  have hres:(aq c.fs f).result=0:=(h.fok.fst (by rw [hf0];rfl)).2
  rw [hres] at v1
  obtain ⟨x1,_,_⟩:=v1.num
  refine h.end (s:=1) (by omega) rfl rfl ?_ hu rfl ⟨rfl,rfl,rfl,rfl⟩
  show D.out++[(au D.top.stack).1]=R.out++[aF R.top.stack]
  rw [x1,ho]
 ·obtain ⟨hd,f',hb1,hw⟩:=h.bel.inv hb
  have hd':(ap D).below ≠ []:=hd
  rw [dif_neg hb,dif_neg hd']
  obtain ⟨S,hS,hV⟩:=hw.stk
  obtain ⟨q1,q2⟩:=ok.fit _ _ _ hS
  obtain ⟨T,hT⟩:=Option.isSome_iff_exists.1 q1
  obtain ⟨rest',t1,t2,_,_⟩:=gy hT
  have q3:=q2 T hT
  rw [hw.op,hw.tgt] at q3 t1 t2
  have hp0:=hw.p0
  have hway:=q3 _ (eK (A:=f) (i:=(R.below.getLast hb).pc.toNat) (by decide) (by decide))
  rw [show (((R.below.getLast hb).pc.toNat:Nat):Int)=(R.below.getLast hb).pc by omega] at hway
  have ea:ak c.ls c.fs (aq c.fs f') 15 f (aV (aq c.fs f') (R.below.getLast hb).pc).2.2=aP c.fs f:=by simp [ak]
  have eb:ag c.ls c.fs (aq c.fs f') 15 f (aV (aq c.fs f') (R.below.getLast hb).pc).2.2=[(aq c.fs f).result]:=by simp [ag,si h.tp.f0 h.tp.fl]
  rw [ea] at t1
  have hre:S=rest':=List.append_cancel_right t1
  subst hre
  rw [eb] at t2
  subst t2
  refine ⟨?_,ho,hu,rfl,⟨rfl,rfl,rfl,rfl⟩,fun _=>⟨phi,?_⟩,.inl s0'⟩
  ·show D.status=R.status
   rw [s0,s0']
  ·refine h.sm.same ⟨rfl,rfl,rfl,rfl⟩ rfl rfl ?_ ⟨f',hb1,?_⟩
   ·show ((R.below.dropLast).length:Int)+1<=R.depth
    have:=h.sm.bl
    rw [List.length_dropLast];omega
   ·refine ⟨hw.fn,hw.dfn,hw.f0,hw.fl,hw.pc,hway.1,hway.2.1,hw.loc,_,hway.2.2,?_⟩
    exact VL.app hV (.one v1)
end
end Go.Proofs.YtnfnbcbadakofaaGreat
namespace Go.Proofs.YtnfnbcbadakofaaGreat
open Go.RowKit
def sz (recs:List (List (Int × Bool))) (d:Nat):Nat:=1+(recs.getD d []).length
def aX (recs:List (List (Int × Bool))):List Nat->Nat->Option Nat
 | [],_=>none
 | e::L,d=>if e=d then some 0 else (aX recs L d).map (· + sz recs e)
def tot (recs:List (List (Int × Bool))):List Nat->Nat
 | []=>0
 | e::L=>sz recs e+tot recs L
section
variable {recs:List (List (Int × Bool))}
theorem lq (L L':List Nat):tot recs (L++L')=tot recs L+tot recs L':=by
 induction L with
 | nil=>simp [tot]
 | cons e L ih=>simp [tot,ih];omega
theorem cM (L:List Nat) (d:Nat):aX recs L d=none ↔ d ∉ L:=by
 induction L with
 | nil=>simp [aX]
 | cons e L ih =>
  unfold aX
  by_cases h:e=d
  ·rw [if_pos h];simp [h]
  ·rw [if_neg h];simp [ih];exact fun _=>fun h'=>h h'.symm
theorem qX {L:List Nat} {d:Nat} (h:d ∈ L):∃ o,aX recs L d=some o:=by
 cases ho:aX recs L d with
 | none=>exact absurd h ((cM L d).1 ho)
 | some o=>exact ⟨o,rfl⟩
theorem gZ {L:List Nat} {d o:Nat} (h:aX recs L d=some o) (L':List Nat):aX recs (L++L') d=some o:=by
 induction L generalizing o with
 | nil=>simp [aX] at h
 | cons e L ih =>
  simp only [aX,List.cons_append] at h ⊢
  by_cases hd:e=d
  ·rw [if_pos hd] at h ⊢;exact h
  ·rw [if_neg hd] at h ⊢
   cases ho:aX recs L d with
   | none=>rw [ho] at h;cases h
   | some o'=>rw [ho] at h;rw [ih ho];exact h
theorem lA {L:List Nat} {d:Nat} (h:d ∉ L) (L':List Nat):aX recs (L++d::L') d=some (tot recs L):=by
 induction L with
 | nil=>simp [aX,tot]
 | cons e L ih =>
  simp only [List.mem_cons,not_or] at h
  simp only [aX,List.cons_append,tot]
  rw [if_neg (fun x=>h.1 x.symm),ih h.2]
  simp;omega
theorem iy {L:List Nat} {d o:Nat} (h:aX recs L d=some o):o+sz recs d<=tot recs L:=by
 induction L generalizing o with
 | nil=>simp [aX] at h
 | cons e L ih =>
  simp only [aX,tot] at h ⊢
  by_cases hd:e=d
  ·rw [if_pos hd] at h;simp at h;subst h;subst hd;omega
  ·rw [if_neg hd] at h
   cases ho:aX recs L d with
   | none=>rw [ho] at h;cases h
   | some o'=>rw [ho] at h;have:=ih ho;simp at h;omega
theorem eG {L:List Nat} {d e o p:Nat} (h:aX recs L d=some o) (h':aX recs L e=some p) (hne:d ≠ e):o+sz recs d<=p \/ p+sz recs e<=o:=by
 induction L generalizing o p with
 | nil=>simp [aX] at h
 | cons x L ih =>
  simp only [aX] at h h'
  by_cases hd:x=d
  ·rw [if_pos hd] at h;simp at h;subst h;subst hd
   rw [if_neg hne] at h'
   cases ho:aX recs L e with
   | none=>rw [ho] at h';cases h'
   | some o'=>rw [ho] at h';simp at h';omega
  ·rw [if_neg hd] at h
   cases ho:aX recs L d with
   | none=>rw [ho] at h;cases h
   | some o' =>
    rw [ho] at h
    simp at h
    by_cases he:x=e
    ·rw [if_pos he] at h';simp at h';subst h';subst he;omega
    ·rw [if_neg he] at h'
     cases hp:aX recs L e with
     | none=>rw [hp] at h';cases h'
     | some p'=>rw [hp] at h';simp at h';have:=ih ho hp;omega
theorem qN {L:List Nat} {d e o:Nat} (h:aX recs L d=some o) (h':aX recs L e=some o):d=e:=by
 rcases Nat.decEq d e with hne | he
 ·rcases eG h h' hne with a | a <;> unfold sz at a <;> omega
 ·exact he
end
def mvS (ls:List (List Int)):List (Option Int)->List Int->Nat
 | some t::os,r::rs=>(if r ≠ 0 then 1+(flds ls t).length else 0)+mvS ls os rs
 | none::os,_::rs=>mvS ls os rs
 | _,_=>0
theorem tH (ls:List (List Int)) (ws:List Int):∀ (n:Nat) (rs:List Int),mvS ls (bd ls n ws) rs+n<=ws.length+bC ls n ws:=by
 induction ws with
 | nil=>intro n rs;cases n <;> simp [bd,mvS,bC]
 | cons w ws ih =>
  intro n rs
  cases rs with
  | nil =>
   cases n with
   | zero=>have:=ih (flds ls w).length [];simp only [bd,mvS,bC,List.length_cons];omega
   | succ n=>have:=ih n [];simp only [bd,mvS,bC,List.length_cons];omega
  | cons r rs =>
   cases n with
   | zero=>have:=ih (flds ls w).length rs;simp only [bd,mvS,bC,List.length_cons];split <;> omega
   | succ n=>have:=ih n rs;simp only [bd,mvS,bC,List.length_cons];omega
theorem ry {ls:List (List Int)} {v:Int} (hv:v ≠ 0):∀ {os:List (Option Int)} {rs:List Int} {a:Nat} {t:Int},os[a]?=some (some t)->rs[a]?=some 0->mvS ls os (rs.set a v)=mvS ls os rs+1+(flds ls t).length:=by
 intro os
 induction os with
 | nil=>intro rs a t h;simp at h
 | cons o os ih =>
  intro rs a t h h'
  cases rs with
  | nil=>simp at h'
  | cons r rs =>
   cases a with
   | zero =>
    simp at h h';subst h;subst h'
    simp [mvS,hv];omega
   | succ a =>
    have:=ih (rs:=rs) (a:=a) (t:=t) (by simpa using h) (by simpa using h')
    cases o with
    | none=>simpa [mvS] using this
    | some u=>simp only [mvS,List.set_cons_succ];rw [this];omega
theorem oM (ls:List (List Int)) (os:List (Option Int)) (n:Nat):mvS ls os (List.replicate n 0)=0:=by
 induction os generalizing n with
 | nil=>cases n <;> simp [mvS]
 | cons o os ih =>
  cases n with
  | zero=>cases o <;> simp [mvS]
  | succ n=>cases o <;> simp [mvS,List.replicate_succ,ih]
def VN (ls:List (List Int)) (recs:List (List (Int × Bool))) (ws:List Int) (phi:Nat->Option Nat) (L:List Nat) (kind:Int) (d:Int × Bool) (v:Int):Prop:=
 (kind=0/\d.2=false/\d.1=v/\0<=v/\v < 65536) \/
 (kind ≠ 0/\d.2=true/\((d.1=0/\v=0) \/ ∃ e o a:Nat,d.1=(e:Int)+1/\v=(o:Int)+1/\aX recs L e=some o/\phi e=some a/\St ls ws a kind))
theorem VN.app {ls:List (List Int)} {recs:List (List (Int × Bool))} {ws:List Int} {phi:Nat->Option Nat} {L:List Nat} {kind:Int} {d:Int × Bool} {v:Int} (h:VN ls recs ws phi L kind d v) (L':List Nat):VN ls recs ws phi (L++L') kind d v:=by
 rcases h with h | ⟨a,b,h | ⟨e,o,p,x,y,z,s⟩⟩
 ·exact .inl h
 ·exact .inr ⟨a,b,.inl h⟩
 ·exact .inr ⟨a,b,.inr ⟨e,o,p,x,y,gZ z L',s⟩⟩
structure Lk (ls:List (List Int)) (recs:List (List (Int × Bool))) (ws:List Int) (phi:Nat->Option Nat) (k:Nat) (mk:Mk) (mv:Mv):Prop where
 sl:mk.seen.length=recs.length
 seen:∀ d,d < recs.length->mk.seen.getD d true=decide (d ∈ mk.list)
 sc:mk.seen.countP id=mk.list.length
 dom:∀ d ∈ mk.list,∃ a,phi d=some a
 nd:mk.list.Nodup
 rl:mv.refs.length=ws.length
 refs:∀ d a,phi d=some a->(mv.refs.getD a 0=0/\aX recs mk.list d=none) \/ ∃ o:Nat,mv.refs.getD a 0=(o:Int)+1/\aX recs mk.list d=some o
 tl:mv.to.length=tot recs mk.list
 ms:mv.to.length=mvS ls (bd ls 0 ws) mv.refs
 kl:k<=mv.to.length
 con:∀ d o a t,aX recs mk.list d=some o->phi d=some a->St ls ws a t->mv.to.getD o 0=t/\∀ i,i < (flds ls t).length ->
  (o+1+i < k->VN ls recs ws phi mk.list ((flds ls t).getD i 0) ((recs.getD d []).getD i (0,false)) (mv.to.getD (o+1+i) 0))/\(k<=o+1+i->mv.to.getD (o+1+i) 0=ws.getD (a+1+i) 0)
section
variable {ls:List (List Int)} {recs:List (List (Int × Bool))} {ws:List Int} {phi:Nat->Option Nat}
theorem Mm.size (hm:Mm ls recs ws phi) {d a:Nat} {t:Int} (hp:phi d=some a) (hs:St ls ws a t):sz recs d=1+(flds ls t).length:=by
 obtain ⟨_,t',s',hv⟩:=hm.dom d a hp
 have:=hs.uniq s'
 subst this
 unfold sz;rw [hv.len.1]
theorem Lk.le (hm:Mm ls recs ws phi) {k:Nat} {mk:Mk} {mv:Mv} (h:Lk ls recs ws phi k mk mv):mv.to.length<=ws.length:=by
 have:=tH ls ws 0 mv.refs
 rw [hm.full] at this
 rw [h.ms];omega
theorem eV {l l':List Int} {i:Nat} (h:i < l.length):(l++l').getD i 0=l.getD i 0:=by
 rw [List.getD_eq_getElem?_getD,List.getD_eq_getElem?_getD,List.getElem?_append_left h]
theorem ew {l l':List Int} {i:Nat} (h:l.length<=i):(l++l').getD i 0=l'.getD (i - l.length) 0:=by
 rw [List.getD_eq_getElem?_getD,List.getD_eq_getElem?_getD,List.getElem?_append_right h]
theorem iA {l:List Int} {i:Nat} {v:Int} (h:i < l.length):(l.set i v).getD i 0=v:=by rw [List.getD_eq_getElem?_getD,List.getElem?_set_self h];rfl
theorem eB {l:List Int} {i j:Nat} {v:Int} (h:i ≠ j):(l.set i v).getD j 0=l.getD j 0:=by rw [List.getD_eq_getElem?_getD,List.getElem?_set_ne h,<-List.getD_eq_getElem?_getD]
theorem js {l:List Int} {a n i:Nat} (h:i < n):((l.drop a).take n).getD i 0=l.getD (a+i) 0:=by
 rw [List.getD_eq_getElem?_getD,List.getD_eq_getElem?_getD,List.getElem?_take_of_lt h,List.getElem?_drop]
theorem sW {mk:Mk} {v:Int × Bool} (h:v.2=false):mkV mk v=mk:=by unfold mkV;rw [if_neg (by simp [h])]
theorem td {mk:Mk} {v:Int × Bool} (h:v.1=0):mkV mk v=mk:=by unfold mkV;rw [if_neg (by omega)]
set_option maxHeartbeats 1000000 in
theorem jK (hm:Mm ls recs ws phi) {k:Nat} {mk:Mk} {mv:Mv} (h:Lk ls recs ws phi k mk mv) {kind:Int} {d:Int × Bool} {v:Int} (hv:VR ls ws phi kind d v) :
 Lk ls recs ws phi k (mkV mk d) (mv1 ls ws kind v mv).2/\VN ls recs ws phi (mkV mk d).list kind d (mv1 ls ws kind v mv).1/\(∃ L',(mkV mk d).list=mk.list++L')/\∃ T,(mv1 ls ws kind v mv).2.to=mv.to++T:=by
 rcases hv with ⟨k0,d2,d1,v0,v1⟩ | ⟨k0,d2,⟨d1,v0⟩ | ⟨e,a,x,y,z,s⟩⟩
 ·rw [sW d2]
  have:mv1 ls ws kind v mv=(v,mv):=by unfold mv1;rw [if_neg (by simp [k0])]
  rw [this]
  exact ⟨h,.inl ⟨k0,d2,d1,v0,v1⟩,⟨[],by simp⟩,⟨[],by simp⟩⟩
 ·rw [td d1]
  have:mv1 ls ws kind v mv=(0,mv):=by unfold mv1 mvP;rw [if_pos k0,if_pos (by omega)]
  rw [this]
  exact ⟨h,.inr ⟨k0,d2,.inl ⟨d1,rfl⟩⟩,⟨[],by simp⟩,⟨[],by simp⟩⟩
 ·have e1:mv1 ls ws kind v mv=mvP ls ws mv v:=by unfold mv1;rw [if_pos k0]
  rw [e1]
  obtain ⟨w1,w2,_⟩:=s.val hm.full
  have hel:=(hm.dom e a z).1
  have ha:(v - 1).toNat=a:=by omega
  have hde:(d.1 - 1).toNat=e:=by omega
  have hwa:ws.getD a 0=kind:=by rw [List.getD_eq_getElem?_getD,w1];rfl
  have hal:a < ws.length:=by omega
  unfold mvP
  rw [ha,hwa,if_neg (by omega)]
  have hsn:=h.seen e hel
  rcases h.refs e a z with ⟨r0,o0⟩ | ⟨o,r1,o1⟩
  ·have hne:e ∉ mk.list:=(cM _ _).1 o0
   rw [r0,if_neg (by simp),if_neg (by omega)]
   have emk:mkV mk d=⟨mk.seen.set e true,mk.list++[e]⟩:=by
    unfold mkV;rw [hde,if_pos ⟨d2,by omega,by rw [hsn];simp [hne]⟩]
   rw [emk]
   have hof:=lA (recs:=recs) hne []
   have hsz:=hm.size z s
   have hrg:mv.refs[a]?=some 0:=by
    have hl:=h.rl
    rw [List.getD_eq_getElem?_getD] at r0
    rw [List.getElem?_eq_getElem (by omega)] at r0 ⊢
    simpa using r0
   have hTl:((ws.drop a).take (1+(flds ls kind).length)).length=1+(flds ls kind).length:=by rw [List.length_take,List.length_drop];omega
   refine ⟨⟨by simp [h.sl],?_,?_,?_,List.nodup_append.2 ⟨h.nd,by simp,fun x hx y hy=>by simp at hy;subst hy;exact fun q=>hne (q ▸ hx)⟩,by simp [h.rl],?_,?_,?_,?_,?_⟩,?_,⟨[e],rfl⟩,⟨_,rfl⟩⟩
   ·intro d' hd'
    by_cases hq:d'=e
    ·subst hq
     rw [List.getD_eq_getElem?_getD,List.getElem?_set_self (by rw [h.sl];exact hd')];simp
    ·rw [List.getD_eq_getElem?_getD,List.getElem?_set_ne (fun x=>hq x.symm),<-List.getD_eq_getElem?_getD,h.seen d' hd']
     simp [hq]
   ·have hsg:mk.seen[e]?=some false:=by
     rw [List.getD_eq_getElem?_getD] at hsn
     rw [List.getElem?_eq_getElem (by rw [h.sl];exact hel)] at hsn ⊢
     simp [hne] at hsn ⊢;exact hsn
    have hsc:=h.sc
    have hlt:e < mk.seen.length:=by rw [h.sl];exact hel
    rw [List.countP_set hlt]
    have:mk.seen[e]=false:=by rw [List.getElem?_eq_getElem hlt] at hsg;simpa using hsg
    simp [this,hsc]
   ·intro d' hd'
    rcases List.mem_append.1 hd' with hd' | hd'
    ·exact h.dom d' hd'
    ·simp at hd';subst hd';exact ⟨a,z⟩
   ·intro d' a' hp
    by_cases hq:d'=e
    ·subst hq
     rw [z] at hp;simp at hp;subst hp
     refine .inr ⟨tot recs mk.list,?_,hof⟩
     rw [List.getD_eq_getElem?_getD,List.getElem?_set_self (by rw [h.rl];exact hal),<-h.tl];rfl
    ·have hna:a ≠ a':=fun x=>hq (hm.inj _ _ a (by rw [hp,x]) z)
     rw [List.getD_eq_getElem?_getD,List.getElem?_set_ne hna,<-List.getD_eq_getElem?_getD]
     rcases h.refs d' a' hp with ⟨q1,q2⟩ | ⟨o',q1,q2⟩
     ·refine .inl ⟨q1,?_⟩
      rw [cM] at q2 ⊢
      simp [q2,hq]
     ·exact .inr ⟨o',q1,gZ q2 _⟩
   ·show (mv.to++_).length=_
    rw [List.length_append,hTl,lq,h.tl];simp [tot];omega
   ·show (mv.to++_).length=mvS ls (bd ls 0 ws) (mv.refs.set a _)
    rw [ry (by omega) s hrg,List.length_append,hTl,h.ms];omega
   ·show k<=(mv.to++_).length
    have:=h.kl
    rw [List.length_append];omega
   ·intro d' o' a' t' ho' hp' hs'
    by_cases hq:d'=e
    ·subst hq
     rw [z] at hp';simp at hp';subst hp'
     have:=s.uniq hs'
     subst this
     have hq2:aX recs (mk.list++[d']) d'=some o':=ho'
     rw [hof] at hq2
     simp at hq2
     subst hq2
     have htl:=h.tl
     refine ⟨?_,fun i hi=>⟨fun hk=>?_,fun _=>?_⟩⟩
     ·show (mv.to++_).getD _ 0=_
      rw [ew (by omega),htl,Nat.sub_self,js (by omega),Nat.add_zero,hwa]
     ·have:=h.kl;omega
     ·show (mv.to++_).getD _ 0=_
      rw [ew (by omega),js (by omega),htl];congr 1;omega
    ·have ho2:aX recs mk.list d'=some o':=by
      cases hx:aX recs mk.list d' with
      | some o2=>have:=gZ hx [e];rw [show aX recs (mk.list++[e]) d'=some o' from ho'] at this;exact this.symm
      | none =>
       rw [cM] at hx
       have:aX recs (mk.list++[e]) d'=none:=by rw [cM];simp [hx,hq]
       rw [show aX recs (mk.list++[e]) d'=some o' from ho'] at this;cases this
     obtain ⟨c1,c2⟩:=h.con d' o' a' t' ho2 hp' hs'
     have hlt:=iy ho2
     have hz':=hm.size hp' hs'
     have htl:=h.tl
     refine ⟨?_,fun i hi=>?_⟩
     ·show (mv.to++_).getD _ 0=_
      rw [eV (by omega)];exact c1
     ·show (_->VN _ _ _ _ _ _ _ ((mv.to++_).getD _ 0))/\(_->(mv.to++_).getD _ 0=_)
      rw [eV (by omega)]
      exact ⟨fun hk=>((c2 i hi).1 hk).app _,(c2 i hi).2⟩
   ·refine .inr ⟨k0,d2,.inr ⟨e,tot recs mk.list,a,x,?_,hof,z,s⟩⟩
    show (mv.to.length:Int)+1=_
    rw [h.tl]
  ·have hin:e ∈ mk.list:=by
    rcases Classical.em (e ∈ mk.list) with q | q
    ·exact q
    ·rw [(cM _ _).2 q] at o1;cases o1
   rw [r1,if_pos (by omega)]
   have emk:mkV mk d=mk:=by
    unfold mkV;rw [hde,if_neg]
    rw [hsn];simp [hin]
   rw [emk]
   exact ⟨h,.inr ⟨k0,d2,.inr ⟨e,o,a,x,rfl,o1,z,s⟩⟩,⟨[],by simp⟩,⟨[],by simp⟩⟩
end
end Go.Proofs.YtnfnbcbadakofaaGreat
namespace Go.Proofs.YtnfnbcbadakofaaGreat
open Go.RowKit
theorem rJ {P Q:Int->Int × Bool->Int->Prop} {ks:List Int} {ds:List (Int × Bool)} {vs:List Int} (h:VL P ks ds vs) (hm:∀ k d v,P k d v->Q k d v):VL Q ks ds vs:=h.mono hm
section
variable {ls:List (List Int)} {recs:List (List (Int × Bool))} {ws:List Int} {phi:Nat->Option Nat}
theorem VN.pre {L L':List Nat} (hL:∃ M,L'=L++M) {kind:Int} {d:Int × Bool} {v:Int} (h:VN ls recs ws phi L kind d v):VN ls recs ws phi L' kind d v:=by
 obtain ⟨M,rfl⟩:=hL;exact h.app M
theorem dP {L L' L'':List Nat} (h:∃ M,L'=L++M) (h':∃ M,L''=L'++M):∃ M,L''=L++M:=by
 obtain ⟨M,rfl⟩:=h;obtain ⟨M',rfl⟩:=h';exact ⟨M++M',by simp⟩
theorem iw (hm:Mm ls recs ws phi) {k:Nat} {ks:List Int} {ds:List (Int × Bool)} {vs:List Int} (hv:VL (VR ls ws phi) ks ds vs):∀ (pre post:List Int) {mk:Mk} {mv:Mv},Lk ls recs ws phi k mk mv ->
 Lk ls recs ws phi k (mkA mk ds) (mvL ls ws (pre++ks++post) pre.length vs mv).2/\VL (VN ls recs ws phi (mkA mk ds).list) ks ds (mvL ls ws (pre++ks++post) pre.length vs mv).1/\∃ M,(mkA mk ds).list=mk.list++M:=by
 induction hv with
 | nil=>intro pre post mk mv h;exact ⟨h,.nil,[],by simp [mkA]⟩
 | @cons kd d v ks ds vs hp hr ih =>
  intro pre post mk mv h
  have ek:aU (pre++kd::ks++post) (pre.length:Int)=kd:=by
   rw [cP (by omega) (by simp;omega)];simp
  obtain ⟨l1,l2,l3,_⟩:=jK hm h hp
  have hih:=ih (pre++[kd]) post l1
  have e1:pre++[kd]++ks++post=pre++kd::ks++post:=by simp
  have e2:(pre++[kd]).length=pre.length+1:=by simp
  rw [e1,e2] at hih
  simp only [mvL,ek]
  have e3:mkA mk (d::ds)=mkA (mkV mk d) ds:=rfl
  rw [e3]
  exact ⟨hih.1,.cons (l2.pre hih.2.2) hih.2.1,dP l3 hih.2.2⟩
variable {c:Cx}
structure FrT (c:Cx) (P:Int->Int × Bool->Int->Prop) (d:DFr) (g:Fr):Prop where
 loc:VL P (aq c.fs g.fn).locals d.locals g.locals
 stk:∃ S post,skP c.sps g.fn g.pc=S++post/\VL P S d.stack g.stack
theorem iT (hm:Mm c.ls recs ws phi) {k:Nat} {d:DFr} {g:Fr} (hf:FrT c (VR c.ls ws phi) d g) {mk:Mk} {mv:Mv} (h:Lk c.ls recs ws phi k mk mv) :
 Lk c.ls recs ws phi k (mkF mk d) (cK c ws g mv).2/\VL (VN c.ls recs ws phi (mkF mk d).list) (aq c.fs g.fn).locals d.locals (cK c ws g mv).1.locals/\(∀ S post,skP c.sps g.fn g.pc=S++post->VL (VR c.ls ws phi) S d.stack g.stack->VL (VN c.ls recs ws phi (mkF mk d).list) S d.stack (cK c ws g mv).1.stack)/\∃ M,(mkF mk d).list=mk.list++M:=by
 have h1:=iw hm hf.loc [] [] h
 simp only [List.nil_append,List.append_nil,List.length_nil] at h1
 obtain ⟨S,post,hS,hV⟩:=hf.stk
 have h2:=iw hm hV [] post h1.1
 simp only [List.nil_append,List.length_nil] at h2
 rw [<-hS] at h2
 refine ⟨h2.1,rJ h1.2.1 (fun _ _ _ x=>x.pre h2.2.2),?_,dP h1.2.2 h2.2.2⟩
 intro S' post' hS' hV'
 have h3:=iw hm hV' [] post' h1.1
 simp only [List.nil_append,List.length_nil] at h3
 rw [<-hS'] at h3
 exact h3.2.1
theorem Wt.frt {P:Int->Int × Bool->Int->Prop} {f h:Int} {d:DFr} {g:Fr} (w:Wt c P f h d g):FrT c P d g:=by
 obtain ⟨S,hS,hV⟩:=w.stk
 exact ⟨by rw [w.fn];exact w.loc,S,aP c.fs h,by unfold skP;rw [w.fn,hS];rfl,hV⟩
theorem Tp.frt {P:Int->Int × Bool->Int->Prop} {f:Int} {d:DFr} {g:Fr} (w:Tp c P f d g):FrT c P d g:=by
 obtain ⟨S,hS,hV⟩:=w.stk
 exact ⟨by rw [w.fn];exact w.loc,S,[],by unfold skP;rw [w.fn,hS];simp,hV⟩
theorem Wt.moved (hm:Mm c.ls recs ws phi) {k:Nat} {f h:Int} {d:DFr} {g:Fr} (w:Wt c (VR c.ls ws phi) f h d g) {mk:Mk} {mv:Mv} (hl:Lk c.ls recs ws phi k mk mv) :
 Lk c.ls recs ws phi k (mkF mk d) (cK c ws g mv).2/\Wt c (VN c.ls recs ws phi (mkF mk d).list) f h d (cK c ws g mv).1/\∃ M,(mkF mk d).list=mk.list++M:=by
 obtain ⟨a,b,e,x⟩:=iT hm w.frt hl
 obtain ⟨S,hS,hV⟩:=w.stk
 refine ⟨a,⟨w.fn,w.dfn,w.f0,w.fl,w.pc,w.p0,w.pl,w.op,w.tgt,?_,S,hS,?_⟩,x⟩
 ·rw [w.fn] at b;exact b
 ·exact e S (aP c.fs h) (by unfold skP;rw [w.fn,hS];rfl) hV
theorem Tp.moved (hm:Mm c.ls recs ws phi) {k:Nat} {f:Int} {d:DFr} {g:Fr} (w:Tp c (VR c.ls ws phi) f d g) {mk:Mk} {mv:Mv} (hl:Lk c.ls recs ws phi k mk mv) :
 Lk c.ls recs ws phi k (mkF mk d) (cK c ws g mv).2/\Tp c (VN c.ls recs ws phi (mkF mk d).list) f d (cK c ws g mv).1/\∃ M,(mkF mk d).list=mk.list++M:=by
 obtain ⟨a,b,e,x⟩:=iT hm w.frt hl
 obtain ⟨S,hS,hV⟩:=w.stk
 refine ⟨a,⟨w.fn,w.dfn,w.f0,w.fl,w.pc,w.p0,w.pl,?_,S,hS,?_⟩,x⟩
 ·rw [w.fn] at b;exact b
 ·exact e S [] (by unfold skP;rw [w.fn,hS];simp) hV
theorem mS (frm:List Int) (gs gs':List Fr):∀ m,aZ c frm (gs++gs') m=((aZ c frm gs m).1++(aZ c frm gs' (aZ c frm gs m).2).1,(aZ c frm gs' (aZ c frm gs m).2).2):=by
 induction gs with
 | nil=>intro m;simp [aZ]
 | cons g gs ih=>intro m;simp [aZ,ih]
theorem ng (frm:List Int) (gs:List Fr):∀ m,(aZ c frm gs m).1.length=gs.length:=by
 induction gs with
 | nil=>intro m;simp [aZ]
 | cons g gs ih=>intro m;simp [aZ,ih]
theorem Bel.moved (hm:Mm c.ls recs ws phi) {k:Nat} {ds:List DFr} {gs:List Fr} {f:Int} (hb:Bel c (VR c.ls ws phi) ds gs f) {mk:Mk} {mv:Mv} (hl:Lk c.ls recs ws phi k mk mv) :
 Lk c.ls recs ws phi k (cI mk ds) (aZ c ws gs mv).2/\Bel c (VN c.ls recs ws phi (cI mk ds).list) ds (aZ c ws gs mv).1 f/\∃ M,(cI mk ds).list=mk.list++M:=by
 induction hb with
 | nil=>exact ⟨hl,.nil,[],by simp [cI]⟩
 | @snoc ds gs f h d g hb hw ih =>
  obtain ⟨a,b,e⟩:=ih
  obtain ⟨a',b',e'⟩:=hw.moved hm a
  have e1:cI mk (ds++[d])=mkF (cI mk ds) d:=by simp [cI]
  have e2:aZ c ws (gs++[g]) mv=((aZ c ws gs mv).1++[(cK c ws g (aZ c ws gs mv).2).1],(cK c ws g (aZ c ws gs mv).2).2):=by
   rw [mS];simp [aZ]
  rw [e1,e2]
  exact ⟨a',.snoc (b.mono (fun _ _ _ x=>x.pre e')) b',dP e e'⟩
theorem pO (hm:Mm ls recs ws phi) {d o a:Nat} {t:Int} (hp:phi d=some a) (hs:St ls ws a t) {j:Nat} (hj:j < (flds ls t).length) {mk:Mk} {mv:Mv} (h:Lk ls recs ws phi (o+1+j) mk mv) (ho:aX recs mk.list d=some o) :
 Lk ls recs ws phi (o+1+j+1) (mkV mk ((recs.getD d []).getD j (0,false)))
  ⟨(mv1 ls ws ((flds ls t).getD j 0) (mv.to.getD (o+1+j) 0) mv).2.to.set (o+1+j) (mv1 ls ws ((flds ls t).getD j 0) (mv.to.getD (o+1+j) 0) mv).1,(mv1 ls ws ((flds ls t).getD j 0) (mv.to.getD (o+1+j) 0) mv).2.refs⟩ /\
 aX recs (mkV mk ((recs.getD d []).getD j (0,false))).list d=some o/\∃ M,(mkV mk ((recs.getD d []).getD j (0,false))).list=mk.list++M:=by
 obtain ⟨_,t',s',hv⟩:=hm.dom d a hp
 have:=hs.uniq s'
 subst this
 have hvr:=hv.get (i:=j) hj
 rw [gS hj] at hvr
 have hold:=((h.con d o a t ho hp hs).2 j hj).2 (Nat.le_refl _)
 rw [<-hold] at hvr
 obtain ⟨l1,l2,l3,T,l4⟩:=jK hm h hvr
 have hol:=iy ho
 have hsz:=hm.size hp hs
 have htl:=h.tl
 generalize mv1 ls ws ((flds ls t).getD j 0) (mv.to.getD (o+1+j) 0) mv=r at *
 generalize hmk:mkV mk ((recs.getD d []).getD j (0,false))=mk' at *
 have hod:aX recs mk'.list d=some o:=by obtain ⟨M,e⟩:=l3;rw [e];exact gZ ho M
 have hlt:o+1+j < r.2.to.length:=by rw [l4,List.length_append];omega
 refine ⟨⟨l1.sl,l1.seen,l1.sc,l1.dom,l1.nd,l1.rl,l1.refs,by simpa using l1.tl,by simpa using l1.ms,by simp;omega,?_⟩,hod,l3⟩
 intro d' o' a' t' ho' hp' hs'
 obtain ⟨c1,c2⟩:=l1.con d' o' a' t' ho' hp' hs'
 have hsz':=hm.size hp' hs'
 have hposn:∀ i,i < (flds ls t').length->o'+1+i=o+1+j->d'=d/\i=j:=by
  intro i hi he
  rcases Nat.decEq d' d with hne | hq
  ·rcases eG ho' hod hne with q | q <;> omega
  ·subst hq
   rw [hod] at ho';simp at ho';exact ⟨rfl,by omega⟩
 have hpos0:o' ≠ o+1+j:=by
  intro he
  rcases Nat.decEq d' d with hne | hq
  ·rcases eG ho' hod hne with q | q <;> omega
  ·subst hq
   rw [hod] at ho';simp at ho';omega
 refine ⟨?_,fun i hi=>⟨fun hk=>?_,fun hk=>?_⟩⟩
 ·show (r.2.to.set (o+1+j) r.1).getD o' 0=t'
  rw [eB (fun x=>hpos0 x.symm)];exact c1
 ·show VN _ _ _ _ _ _ _ ((r.2.to.set (o+1+j) r.1).getD (o'+1+i) 0)
  by_cases he:o'+1+i=o+1+j
  ·obtain ⟨q1,q2⟩:=hposn i hi he
   subst q1;subst q2
   rw [hp] at hp';simp at hp';subst hp'
   have:=hs.uniq hs'
   subst this
   rw [he,iA hlt]
   exact l2
  ·rw [eB (fun x=>he x.symm)]
   exact (c2 i hi).1 (by omega)
 ·show (r.2.to.set (o+1+j) r.1).getD (o'+1+i) 0=_
  rw [eB (by omega)]
  exact (c2 i hi).2 (by omega)
theorem iB {l:List Int} {i:Nat}:l.set i (l.getD i 0)=l:=by
 apply List.ext_getElem?
 intro j
 by_cases h:i=j
 ·subst h
  by_cases hi:i < l.length
  ·rw [List.getElem?_set_self hi,List.getD_eq_getElem?_getD,List.getElem?_eq_getElem hi];rfl
  ·rw [List.getElem?_eq_none (by simp;omega),List.getElem?_eq_none (by omega)]
 ·rw [List.getElem?_set_ne h]
theorem qI {n k:Nat} {kinds:List Int} {r:Nat} {mv:Mv} (hk:k < mv.to.length) {kind:Int} (hkd:aU kinds ((kinds.length:Int) - ((r+1:Nat):Int))=kind) :
 mvW ls ws (n+1) k kinds (r+1) mv=mvW ls ws n (k+1) kinds r ⟨(mv1 ls ws kind (mv.to.getD k 0) mv).2.to.set k (mv1 ls ws kind (mv.to.getD k 0) mv).1,(mv1 ls ws kind (mv.to.getD k 0) mv).2.refs⟩:=by
 rw [mvW]
 rw [if_pos hk,if_neg (by omega),hkd]
 unfold mv1
 by_cases h:kind ≠ 0
 ·rw [if_pos h,if_pos h];rfl
 ·rw [if_neg h,if_neg h];simp only [iB];rfl
theorem mD (hm:Mm ls recs ws phi) {d o a:Nat} {t:Int} (hp:phi d=some a) (hs:St ls ws a t):∀ (r j n:Nat) {mk:Mk} {mv:Mv},j+r=(flds ls t).length->Lk ls recs ws phi (o+1+j) mk mv->aX recs mk.list d=some o ->
 ∃ mv',mvW ls ws (n+r) (o+1+j) (flds ls t) r mv=mvW ls ws n (o+1+(flds ls t).length) (flds ls t) 0 mv'/\Lk ls recs ws phi (o+1+(flds ls t).length) (mkA mk ((recs.getD d []).drop j)) mv'/\∃ M,(mkA mk ((recs.getD d []).drop j)).list=mk.list++M:=by
 intro r
 induction r with
 | zero =>
  intro j n mk mv hj h ho
  have hdl:(recs.getD d []).drop j=[]:=by
   have:=hm.size hp hs
   unfold sz at this
   exact List.drop_eq_nil_of_le (by omega)
  rw [hdl]
  have:j=(flds ls t).length:=by omega
  subst this
  exact ⟨mv,rfl,h,[],by simp [mkA]⟩
 | succ r ih =>
  intro j n mk mv hj h ho
  have hjl:j < (flds ls t).length:=by omega
  have hsz:=hm.size hp hs
  have hol:=iy ho
  have htl:=h.tl
  have hkd:aU (flds ls t) (((flds ls t).length:Int) - ((r+1:Nat):Int))=(flds ls t).getD j 0:=by
   rw [cP (by omega) (by omega)];congr 1;omega
  obtain ⟨l1,l2,l3⟩:=pO hm hp hs hjl h ho
  have hdr:(recs.getD d []).drop j=(recs.getD d []).getD j (0,false)::(recs.getD d []).drop (j+1):=by
   have hlt:j < (recs.getD d []).length:=by unfold sz at hsz;omega
   generalize recs.getD d []=l at hlt
   rw [List.drop_eq_getElem_cons hlt,List.getD_eq_getElem?_getD,List.getElem?_eq_getElem hlt];rfl
  obtain ⟨mv',q1,q2,q3⟩:=ih (j+1) n (by omega) l1 l2
  refine ⟨mv',?_,?_,?_⟩
  ·rw [show n+(r+1)=n+r+1 by omega,qI (by omega) hkd];exact q1
  ·rw [hdr];exact q2
  ·rw [hdr];exact dP l3 q3
theorem mr (hm:Mm ls recs ws phi):∀ (kf i n:Nat) {mk:Mk} {mv:Mv} {kinds:List Int},i<=mk.list.length->recs.length<=kf+i->ws.length<=n+tot recs (mk.list.take i)->Lk ls recs ws phi (tot recs (mk.list.take i)) mk mv ->
 ∃ mkf,Lk ls recs ws phi (tot recs mkf.list) mkf (mvW ls ws n (tot recs (mk.list.take i)) kinds 0 mv)/\lvW recs kf i mk (tot recs (mk.list.take i))=tot recs mkf.list/\(∃ M,mkf.list=mk.list++M):=by
 intro kf
 induction kf with
 | zero =>
  intro i n mk mv kinds hi hk hn h
  have hc:mk.list.length<=recs.length:=by rw [<-h.sc,<-h.sl];exact List.countP_le_length
  have he:i=mk.list.length:=by omega
  subst he
  rw [List.take_length] at h ⊢
  have:mvW ls ws n (tot recs mk.list) kinds 0 mv=mv:=by
   cases n with
   | zero=>rfl
   | succ n=>rw [mvW,if_neg (by rw [h.tl];omega)]
  rw [this]
  exact ⟨mk,h,rfl,[],by simp⟩
 | succ kf ih =>
  intro i n mk mv kinds hi hk hn h
  have hc:mk.list.length<=recs.length:=by rw [<-h.sc,<-h.sl];exact List.countP_le_length
  by_cases hil:i < mk.list.length
  ·obtain ⟨d,hd⟩:∃ d,mk.list[i]=d:=⟨_,rfl⟩
   have hsplit:mk.list=mk.list.take i++d::mk.list.drop (i+1):=by
    conv=>lhs;rw [<-List.take_append_drop i mk.list,List.drop_eq_getElem_cons hil,hd]
   have hdn:d ∉ mk.list.take i:=by
    have hnd:=h.nd
    rw [hsplit] at hnd
    have:=(List.nodup_append.1 hnd).2.2
    intro hx
    exact this d hx d (by simp) rfl
   have ho:aX recs mk.list d=some (tot recs (mk.list.take i)):=by
    conv=>lhs;rw [hsplit]
    exact lA hdn _
   have hmem:d ∈ mk.list:=by rw [hsplit];simp
   obtain ⟨a,hp⟩:=h.dom d hmem
   obtain ⟨_,t,hs,hv⟩:=hm.dom d a hp
   have hsz:=hm.size hp hs
   have hol:=iy ho
   have htl:=h.tl
   have hle:=h.le hm
   obtain ⟨c1,c2⟩:=h.con d _ a t ho hp hs
   generalize hO:tot recs (mk.list.take i)=o at *
   obtain ⟨n',rfl⟩:∃ n',n=n'+(flds ls t).length+1:=⟨n - (flds ls t).length - 1,by omega⟩
   have hl1:Lk ls recs ws phi (o+1+0) mk mv:=by
    refine ⟨h.sl,h.seen,h.sc,h.dom,h.nd,h.rl,h.refs,h.tl,h.ms,by omega,?_⟩
    intro d' o' a' t' ho' hp' hs'
    obtain ⟨x1,x2⟩:=h.con d' o' a' t' ho' hp' hs'
    have hsz':=hm.size hp' hs'
    refine ⟨x1,fun j hj=>⟨fun hk=>?_,fun hk=>(x2 j hj).2 (by omega)⟩⟩
    refine (x2 j hj).1 ?_
    rcases Nat.lt_or_ge (o'+1+j) o with hlt | hge
    ·exact hlt
    ·exfalso
     have heq:o'+1+j=o:=by omega
     rcases Nat.decEq d' d with hne | hq
     ·rcases eG ho' ho hne with q | q <;> omega
     ·subst hq;rw [ho] at ho';simp at ho';omega
   obtain ⟨mv',q1,q2,q3⟩:=mD hm hp hs (flds ls t).length 0 n' (by omega) hl1 ho
   simp only [List.drop_zero] at q1 q2 q3
   have e1:mvW ls ws (n'+(flds ls t).length+1) o kinds 0 mv=mvW ls ws (n'+(flds ls t).length) (o+1) (flds ls t) (flds ls t).length mv:=by
    rw [mvW,if_pos (by omega),if_pos rfl,c1]
   have hdg:mk.list.getD i 0=d:=by rw [List.getD_eq_getElem?_getD,List.getElem?_eq_getElem hil,hd];rfl
   have e2:lvW recs (kf+1) i mk o=lvW recs kf (i+1) (mkA mk (recs.getD d [])) (o+1+(recs.getD d []).length):=by
    rw [lvW,if_pos hil,hdg]
   obtain ⟨M,hM⟩:=q3
   have htk:tot recs ((mkA mk (recs.getD d [])).list.take (i+1))=o+1+(flds ls t).length:=by
    rw [hM,List.take_append_of_le_length (by omega),List.take_succ_eq_append_getElem hil,lq,hO,hd]
    simp [tot];omega
   have:=ih (i+1) n' (kinds:=flds ls t) (mk:=mkA mk (recs.getD d [])) (mv:=mv') (by rw [hM];simp;omega) (by omega) (by rw [htk];omega) (by rw [htk];exact q2)
   obtain ⟨mkf,z1,z2,z3⟩:=this
   refine ⟨mkf,?_,?_,dP ⟨M,hM⟩ z3⟩
   ·rw [e1,show o+1=o+1+0 by rfl,q1];rw [htk] at z1;exact z1
   ·rw [e2];rw [htk] at z2
    rw [show o+1+(recs.getD d []).length=o+1+(flds ls t).length by unfold sz at hsz;omega];exact z2
  ·have he:i=mk.list.length:=by omega
   subst he
   rw [List.take_length] at h ⊢
   have e1:mvW ls ws n (tot recs mk.list) kinds 0 mv=mv:=by
    cases n with
    | zero=>rfl
    | succ n=>rw [mvW,if_neg (by rw [h.tl];omega)]
   have e2:lvW recs (kf+1) mk.list.length mk (tot recs mk.list)=tot recs mk.list:=by rw [lvW,if_neg (by omega)]
   rw [e1,e2]
   exact ⟨mk,h,rfl,[],by simp⟩
end
end Go.Proofs.YtnfnbcbadakofaaGreat
namespace Go.Proofs.YtnfnbcbadakofaaGreat
open Go.RowKit
theorem sI {ls:List (List Int)} {recs:List (List (Int × Bool))} {ty:Nat->Int}:∀ {L:List Nat} {to:List Int},L.Nodup->to.length=tot recs L->(∀ d ∈ L,sz recs d=1+(flds ls (ty d)).length)->(∀ d o,aX recs L d=some o->to.getD o 0=ty d) ->
 bC ls 0 to=0/\∀ a t,St ls to a t ↔ ∃ d,aX recs L d=some a/\t=ty d:=by
 intro L
 induction L with
 | nil =>
  intro to _ hl _ _
  have:to=[]:=List.eq_nil_of_length_eq_zero (by simpa [tot] using hl)
  subst this
  exact ⟨rfl,fun a t=>by simp [St,bd,aX]⟩
 | cons e L ih =>
  intro to hnd hl hz hc
  have hze:=hz e (by simp)
  obtain ⟨hne,hnd'⟩:=List.nodup_cons.1 hnd
  simp only [tot] at hl
  have h0:=hc e 0 (by simp [aX])
  cases to with
  | nil=>simp at hl;omega
  | cons x to =>
   simp at h0
   subst h0
   simp only [List.length_cons] at hl
   have hsk:=gd ls (to.take (flds ls (ty e)).length) (flds ls (ty e)).length (by rw [List.length_take];omega)
   have htl:(to.take (flds ls (ty e)).length).length=(flds ls (ty e)).length:=by rw [List.length_take];omega
   rw [htl] at hsk
   have eto:to=to.take (flds ls (ty e)).length++to.drop (flds ls (ty e)).length:=(List.take_append_drop _ _).symm
   have hih:=ih (to:=to.drop (flds ls (ty e)).length) hnd' (by rw [List.length_drop];omega) (fun d hd=>hz d (by simp [hd])) (by
    intro d o ho
    have hde:e ≠ d:=fun q=>hne (by
     subst q
     rcases Classical.em (e ∈ L) with z | z
     ·exact z
     ·rw [(cM _ _).2 z] at ho;cases ho)
    have:=hc d (o+sz recs e) (by simp [aX,hde,ho])
    rw [hze] at this
    rw [List.getD_eq_getElem?_getD,List.getElem?_drop,<-List.getD_eq_getElem?_getD]
    rw [show o+(1+(flds ls (ty e)).length)=((flds ls (ty e)).length+o)+1 by omega] at this
    simpa using this)
   have er:bd ls 0 (ty e::to)=some (ty e)::(List.replicate (flds ls (ty e)).length none++bd ls 0 (to.drop (flds ls (ty e)).length)):=by
    rw [bd]
    congr 1
    conv=>lhs;rw [eto]
    rw [ib,hsk.1,hsk.2,Nat.sub_self]
   have ee:bC ls 0 (ty e::to)=bC ls 0 (to.drop (flds ls (ty e)).length):=by
    rw [bC]
    conv=>lhs;rw [eto]
    rw [ix,hsk.2,Nat.sub_self]
   refine ⟨by rw [ee];exact hih.1,fun a t=>?_⟩
   unfold St
   rw [er]
   rcases Nat.lt_trichotomy a 0 with h | h | h
   ·omega
   ·subst h
    constructor
    ·intro q;simp at q;exact ⟨e,by simp [aX],q.symm⟩
    ·rintro ⟨d,q1,q2⟩
     simp only [aX] at q1
     by_cases hd:e=d
     ·subst hd;simp [q2]
     ·rw [if_neg hd] at q1
      cases ho:aX recs L d with
      | none=>rw [ho] at q1;cases q1
      | some o=>rw [ho] at q1;simp at q1;omega
   ·obtain ⟨b,rfl⟩:∃ b,a=b+1:=⟨a - 1,by omega⟩
    rw [List.getElem?_cons_succ]
    rcases Nat.lt_or_ge b (flds ls (ty e)).length with hb | hb
    ·rw [List.getElem?_append_left (by simpa using hb),List.getElem?_replicate_of_lt hb]
     constructor
     ·intro q;simp at q
     ·rintro ⟨d,q1,q2⟩
      simp only [aX] at q1
      by_cases hd:e=d
      ·rw [if_pos hd] at q1;simp at q1
      ·rw [if_neg hd] at q1
       cases ho:aX recs L d with
       | none=>rw [ho] at q1;cases q1
       | some o=>rw [ho] at q1;simp at q1;omega
    ·rw [List.getElem?_append_right (by simpa using hb),List.length_replicate]
     have:=hih.2 (b - (flds ls (ty e)).length) t
     unfold St at this
     rw [this]
     constructor
     ·rintro ⟨d,q1,q2⟩
      refine ⟨d,?_,q2⟩
      have hde:e ≠ d:=fun q=>hne (by
       subst q
       rcases Classical.em (e ∈ L) with z | z
       ·exact z
       ·rw [(cM _ _).2 z] at q1;cases q1)
      simp only [aX]
      rw [if_neg hde,q1];simp;omega
     ·rintro ⟨d,q1,q2⟩
      refine ⟨d,?_,q2⟩
      simp only [aX] at q1
      by_cases hd:e=d
      ·rw [if_pos hd] at q1;simp at q1
      ·rw [if_neg hd] at q1
       cases ho:aX recs L d with
       | none=>rw [ho] at q1;cases q1
       | some o=>rw [ho] at q1;simp at q1;simp;omega
section
variable {ls:List (List Int)} {recs:List (List (Int × Bool))} {ws:List Int} {phi:Nat->Option Nat}
theorem sN {P:Int->Int × Bool->Int->Prop} {ks:List Int} {ds:List (Int × Bool)} {vs:List Int} (h1:ds.length=ks.length) (h2:vs.length=ks.length) (h:∀ i,i < ks.length->P (ks.getD i 0) (ds.getD i (0,false)) (vs.getD i 0)):VL P ks ds vs:=by
 induction ks generalizing ds vs with
 | nil =>
  have:ds=[]:=List.eq_nil_of_length_eq_zero h1
  have:vs=[]:=List.eq_nil_of_length_eq_zero h2
  subst_vars;exact .nil
 | cons k ks ih =>
  cases ds with
  | nil=>simp at h1
  | cons d ds =>
   cases vs with
   | nil=>simp at h2
   | cons v vs =>
    refine .cons (by simpa using h 0 (by simp)) (ih (by simpa using h1) (by simpa using h2) (fun i hi=>?_))
    simpa using h (i+1) (by simpa using hi)
theorem Lk.done (hm:Mm ls recs ws phi) {mk:Mk} {mv:Mv} (h:Lk ls recs ws phi (tot recs mk.list) mk mv) :
 Mm ls recs mv.to (aX recs mk.list)/\∀ k d v,VN ls recs ws phi mk.list k d v->VR ls mv.to (aX recs mk.list) k d v:=by
 have hty:∀ d a t,phi d=some a->St ls ws a t->ws.getD ((phi d).getD 0) 0=t:=by
  intro d a t hp hs
  rw [hp]
  have:=(hs.val hm.full).1
  rw [List.getD_eq_getElem?_getD];simp [this]
 have hmem:∀ d o,aX recs mk.list d=some o->d ∈ mk.list:=by
  intro d o ho
  rcases Classical.em (d ∈ mk.list) with z | z
  ·exact z
  ·rw [(cM _ _).2 z] at ho;cases ho
 have hall:∀ d o,aX recs mk.list d=some o->∃ a t,phi d=some a/\St ls ws a t/\d < recs.length/\sz recs d=1+(flds ls t).length:=by
  intro d o ho
  obtain ⟨a,hp⟩:=h.dom d (hmem d o ho)
  obtain ⟨hl,t,hs,_⟩:=hm.dom d a hp
  exact ⟨a,t,hp,hs,hl,hm.size hp hs⟩
 obtain ⟨r1,r2⟩:=sI (ls:=ls) (recs:=recs) (ty:=fun d=>ws.getD ((phi d).getD 0) 0) h.nd h.tl (by
  intro d hd
  obtain ⟨o,ho⟩:=qX (recs:=recs) hd
  obtain ⟨a,t,hp,hs,_,hz⟩:=hall d o ho
  rw [hty d a t hp hs];exact hz) (by
  intro d o ho
  obtain ⟨a,t,hp,hs,_,_⟩:=hall d o ho
  rw [hty d a t hp hs]
  exact (h.con d o a t ho hp hs).1)
 have hconv:∀ k d v,VN ls recs ws phi mk.list k d v->VR ls mv.to (aX recs mk.list) k d v:=by
  intro k d v hv
  rcases hv with hv | ⟨k0,d2,hv | ⟨e,o,a,x,y,z,p,s⟩⟩
  ·exact .inl hv
  ·exact .inr ⟨k0,d2,.inl hv⟩
  ·exact .inr ⟨k0,d2,.inr ⟨e,o,x,y,z,(r2 o k).2 ⟨e,z,(hty e a k p s).symm⟩⟩⟩
 refine ⟨⟨r1,?_,fun d d' a=>qN,?_,?_⟩,hconv⟩
 ·intro a t hs
  obtain ⟨d,ho,ht⟩:=(r2 a t).1 hs
  obtain ⟨a',t',hp,hs',_,_⟩:=hall d a ho
  rw [hty d a' t' hp hs'] at ht
  subst ht
  exact hm.typ _ _ hs'
 ·intro d o ho
  obtain ⟨a,t,hp,hs,hl,hz⟩:=hall d o ho
  refine ⟨hl,t,(r2 o t).2 ⟨d,ho,(hty d a t hp hs).symm⟩,?_⟩
  have hlt:=iy ho
  have htl:=h.tl
  unfold sz at hz hlt
  refine sN (by omega) ?_ (fun i hi=>?_)
  ·unfold seg;rw [List.length_take,List.length_drop];omega
  ·rw [gS hi]
   exact hconv _ _ _ (((h.con d o a t ho hp hs).2 i hi).1 (by omega))
 ·intro a t hs
  obtain ⟨d,ho,_⟩:=(r2 a t).1 hs
  exact ⟨d,ho⟩
theorem Lk.start:Lk ls recs ws phi 0 ⟨List.replicate recs.length false,[]⟩ ⟨[],List.replicate ws.length 0⟩:=by
 refine ⟨by simp,?_,?_,by simp,by simp,by simp,?_,rfl,?_,Nat.zero_le _,?_⟩
 ·intro d hd
  rw [List.getD_eq_getElem?_getD,List.getElem?_replicate_of_lt hd];simp
 ·simp [List.countP_replicate]
 ·intro d a _
  refine .inl ⟨?_,rfl⟩
  rw [List.getD_eq_getElem?_getD]
  by_cases h:a < ws.length
  ·rw [List.getElem?_replicate_of_lt h];rfl
  ·rw [List.getElem?_eq_none (by simp;omega)];rfl
 ·rw [oM];rfl
 ·intro d o a t ho;simp [aX] at ho
end
theorem gR {c:Cx} {D:Dn} {R:Rn} {phi:Nat->Option Nat} (h:Sm c D R phi) (hst:D.status=0 \/ D.status=2):(∃ phi',Sm c D (a9 c R) phi')/\(bk D:Nat)=(a9 c R).words.length/\(a9 c R).words.length<=R.words.length/\(a9 c R).below.length=R.below.length:=by
 obtain ⟨f,hb,ht⟩:=h.fr
 have l0:=Lk.start (ls:=c.ls) (recs:=D.recs) (ws:=R.words) (phi:=phi)
 obtain ⟨l1,b1,p1⟩:=hb.moved h.mem l0
 obtain ⟨l2,t2,p2⟩:=ht.moved h.mem l1
 have e1:mkF (cI ⟨List.replicate D.recs.length false,[]⟩ D.below) D.top=cI ⟨List.replicate D.recs.length false,[]⟩ (az D):=by
  unfold az;rw [if_pos hst];simp [cI]
 have e2:mvA c R=(((aZ c R.words R.below ⟨[],List.replicate R.words.length 0⟩).1,(cK c R.words R.top (aZ c R.words R.below ⟨[],List.replicate R.words.length 0⟩).2).1),mvW c.ls R.words (6 * R.words.length) 0 [] 0 (cK c R.words R.top (aZ c R.words R.below ⟨[],List.replicate R.words.length 0⟩).2).2):=rfl
 rw [e1] at l2 t2 p2
 obtain ⟨mkf,z1,z2,z3⟩:=mr h.mem (D.recs.length+1) 0 (6 * R.words.length) (kinds:=[]) (Nat.zero_le _) (by omega) (by simp [tot];omega) (by simpa [tot] using l2)
 simp only [List.take_zero,tot] at z1 z2
 obtain ⟨m1,m2⟩:=z1.done h.mem
 have hw:(a9 c R).words=(mvW c.ls R.words (6 * R.words.length) 0 [] 0 (cK c R.words R.top (aZ c R.words R.below ⟨[],List.replicate R.words.length 0⟩).2).2).to:=rfl
 have hle:(a9 c R).words.length<=R.words.length:=by rw [hw];exact z1.le h.mem
 have hbl:(a9 c R).below.length=R.below.length:=ng _ _ _
 refine ⟨⟨aX D.recs mkf.list,h.h0,h.h4,h.d1,h.d64,h.heap,h.depth,m1,?_,?_,f,?_,?_⟩,?_,hle,hbl⟩
 ·have:=h.len
  show ((a9 c R).words.length:Int)<=R.heap
  omega
 ·show ((a9 c R).below.length:Int)+1<=R.depth
  rw [hbl];exact h.bl
 ·exact b1.mono (fun k d v x=>m2 _ _ _ ((x.pre p2).pre z3))
 ·exact t2.mono (fun k d v x=>m2 _ _ _ (x.pre z3))
 ·unfold bk
  rw [z2,hw,z1.tl]
section
variable {c:Cx} {D:Dn} {R:Rn} {phi:Nat->Option Nat} {f:Int} {op A B:Int} {rest:List Int}
theorem jp (h:Cu c D R phi f (7,A,B) rest) (s0:D.status=0) (s0':R.status=0) (ho:D.out=R.out) (hu:D.used=R.used) {D':Dn} {R':Rn} (hd:D'=ap D) (hroom:(R.words.length:Int)+((flds c.ls A).length:Int)+1<=R.heap)
 (hR:R'=gO (dz c A R)):Nx c D R { D' with recs:=D'.recs++[D'.top.stack.drop (D'.top.stack.length - (flds c.ls A).length)],top:={ D'.top with stack:=D'.top.stack.take (D'.top.stack.length - (flds c.ls A).length)++[((D'.recs.length:Int)+1,true)] } } R':=by
 have hi:=h.iok
 simp only [cH,bA] at hi
 have hA1:1<=A:=by have:=hi.2.1.1;simpa using this
 have hA2:A<=(c.ls.length:Int):=by have:=hi.2.1.2;simpa using this
 have e:ak c.ls c.fs (aq c.fs f) 7 A B=flds c.ls A:=by simp [ak]
 have hs:=h.stk
 simp only [e] at hs
 obtain ⟨h1,h2⟩:=hs.split
 have hl:=hs.len
 rw [List.length_append] at hl
 obtain ⟨q1,q2⟩:=lO (S:=R.top.stack) (n:=(flds c.ls A).length) (by omega)
 subst hd;subst hR
 have eR:dz c A R = { R with words:=R.words++A::R.top.stack.drop rest.length,top:={ R.top with stack:=R.top.stack.take rest.length++[(R.words.length:Int)+1] } }:=by
  unfold dz;rw [if_neg (by omega),q1,q2,show R.top.stack.length - (flds c.ls A).length=rest.length by omega]
 rw [eR]
 have ed:(ap D).top.stack.length - (flds c.ls A).length=rest.length:=by show D.top.stack.length - _=_;omega
 rw [ed]
 obtain ⟨r1,r2⟩:=oz h.sm.mem.full A (R.top.stack.drop rest.length) (by rw [List.length_drop];omega)
 have hrl:=fT c.ls R.words 0
 have st1:∀ a t,St c.ls R.words a t->St c.ls (R.words++A::R.top.stack.drop rest.length) a t:=by
  intro a t q;unfold St at q ⊢;rw [r1]
  have:a < (bd c.ls 0 R.words).length:=by
   rcases Nat.lt_or_ge a (bd c.ls 0 R.words).length with z | z
   ·exact z
   ·rw [List.getElem?_eq_none z] at q;cases q
  rw [List.getElem?_append_left this];exact q
 have st0:St c.ls (R.words++A::R.top.stack.drop rest.length) R.words.length A:=by
  unfold St;rw [r1,List.getElem?_append_right (by omega),hrl];simp
 have st2:∀ a t,St c.ls (R.words++A::R.top.stack.drop rest.length) a t->St c.ls R.words a t \/ (a=R.words.length/\t=A):=by
  intro a t q
  unfold St at q ⊢
  rw [r1] at q
  rcases Nat.lt_or_ge a R.words.length with z | z
  ·rw [List.getElem?_append_left (by omega)] at q;exact .inl q
  ·rw [List.getElem?_append_right (by omega),hrl] at q
   cases hx:a - R.words.length with
   | zero=>rw [hx] at q;simp at q;exact .inr ⟨by omega,q.symm⟩
   | succ n =>
    rw [hx,List.getElem?_cons_succ] at q
    rcases Nat.lt_or_ge n (R.top.stack.drop rest.length).length with y | y
    ·rw [List.getElem?_replicate_of_lt y] at q;simp at q
    ·rw [List.getElem?_eq_none (by rw [List.length_replicate];exact y)] at q;cases q
 have hphi:∀ d a,phi d=some a->d < D.recs.length/\a < R.words.length:=by
  intro d a hp
  obtain ⟨x,t,s,_⟩:=h.sm.mem.dom d a hp
  have:=(s.val h.sm.mem.full).2.1
  exact ⟨x,by omega⟩
 have hp':∀ d a,phi d=some a->(fun d=>if d=D.recs.length then some R.words.length else phi d) d=some a:=by
  intro d a hp
  have:=(hphi d a hp).1
  show (if d=D.recs.length then some R.words.length else phi d)=some a
  rw [if_neg (by omega)];exact hp
 have hmono:=Mm.vr_mono (ls:=c.ls) (phi:=phi) (phi':=fun d=>if d=D.recs.length then some R.words.length else phi d) st1 hp'
 have hmm:Mm c.ls (D.recs++[D.top.stack.drop rest.length]) (R.words++A::R.top.stack.drop rest.length) (fun d=>if d=D.recs.length then some R.words.length else phi d):=by
  refine ⟨r2,?_,?_,?_,?_⟩
  ·intro a t q
   rcases st2 a t q with q | ⟨_,rfl⟩
   ·exact h.sm.mem.typ a t q
   ·exact ⟨hA1,hA2⟩
  ·intro d d' a x y
   by_cases hd:d=D.recs.length <;> by_cases hd':d'=D.recs.length
   ·rw [hd,hd']
   ·rw [if_pos hd] at x;rw [if_neg hd'] at y
    simp at x;have:=(hphi _ _ y).2;omega
   ·rw [if_neg hd] at x;rw [if_pos hd'] at y
    simp at y;have:=(hphi _ _ x).2;omega
   ·rw [if_neg hd] at x;rw [if_neg hd'] at y
    exact h.sm.mem.inj _ _ _ x y
  ·intro d a x
   by_cases hd:d=D.recs.length
   ·rw [if_pos hd] at x
    simp at x;subst x;subst hd
    refine ⟨by simp,A,st0,?_⟩
    have ex:(D.recs++[D.top.stack.drop rest.length]).getD D.recs.length []=D.top.stack.drop rest.length:=by
     rw [List.getD_eq_getElem?_getD,List.getElem?_append_right (Nat.le_refl _)];simp
    have ey:seg (R.words++A::R.top.stack.drop rest.length) R.words.length (flds c.ls A).length=R.top.stack.drop rest.length:=by
     unfold seg
     rw [show R.words++A::R.top.stack.drop rest.length=(R.words++[A])++R.top.stack.drop rest.length by simp,List.drop_left' (by simp),List.take_of_length_le (by rw [List.length_drop];omega)]
    rw [ex,ey]
    exact h2.mono hmono
   ·rw [if_neg hd] at x
    obtain ⟨x1,t,s,hv⟩:=h.sm.mem.dom d a x
    have hw:=(s.val h.sm.mem.full).2.1
    refine ⟨by simp;omega,t,st1 _ _ s,?_⟩
    have ex:(D.recs++[D.top.stack.drop rest.length]).getD d []=D.recs.getD d []:=by
     rw [List.getD_eq_getElem?_getD,List.getElem?_append_left x1,List.getD_eq_getElem?_getD]
    have ey:seg (R.words++A::R.top.stack.drop rest.length) a (flds c.ls t).length=seg R.words a (flds c.ls t).length:=by
     apply List.ext_getElem?
     intro i
     unfold seg
     by_cases hi:i < (flds c.ls t).length
     ·rw [List.getElem?_take_of_lt hi,List.getElem?_take_of_lt hi,List.getElem?_drop,List.getElem?_drop,List.getElem?_append_left (by omega)]
     ·rw [List.getElem?_take_eq_none (by omega),List.getElem?_take_eq_none (by omega)]
    rw [ex,ey]
    exact hv.mono hmono
  ·intro a t q
   rcases st2 a t q with q | ⟨rfl,rfl⟩
   ·obtain ⟨d,hd⟩:=h.sm.mem.sur a t q
    exact ⟨d,hp' d a hd⟩
   ·exact ⟨D.recs.length,by simp⟩
 have hwy:=h.way _ (eK (op:=7) (A:=A) (i:=R.top.pc.toNat) (by decide) (by decide))
 rw [h.pc] at hwy
 have eb:ag c.ls c.fs (aq c.fs f) 7 A B=[A]:=by simp [ag]
 simp only [eb] at hwy
 refine ⟨?_,ho,hu,rfl,⟨rfl,rfl,rfl,rfl⟩,fun _=>⟨_,h.sm.h0,h.sm.h4,h.sm.d1,h.sm.d64,h.sm.heap,h.sm.depth,hmm,?_,h.sm.bl,f,h.bel.mono hmono,?_⟩,.inl s0'⟩
 ·show D.status=R.status
  rw [s0,s0']
 ·show (((R.words++A::R.top.stack.drop rest.length).length:Nat):Int)<=R.heap
  rw [List.length_append,List.length_cons,List.length_drop];omega
 ·refine ⟨h.tp.fn,h.tp.dfn,h.tp.f0,h.tp.fl,?_,hwy.1,hwy.2.1,h.tp.loc.mono hmono,_,hwy.2.2,?_⟩
  ·show D.top.pc+1=R.top.pc+1
   rw [h.tp.pc]
  ·refine VL.app (h1.mono hmono) (.one (.inr ⟨by omega,rfl,.inr ⟨D.recs.length,R.words.length,rfl,rfl,?_,st0⟩⟩))
   simp
theorem Sm.inc {c:Cx} {D:Dn} {R:Rn} {phi:Nat->Option Nat} {f:Int} {x:Int × Int × Int} {rest:List Int} (_h:Cu c D R phi f x rest) {R':Rn} {phi':Nat->Option Nat} (hs:Sm c D R' phi') (hfn:R'.top.fn=R.top.fn) (hpc:R'.top.pc=R.top.pc) (ok:bM c):∃ rest',Cu c D R' phi' f x rest':=by
 obtain ⟨f',x',rest',hc,hx,_⟩:=hs.cu ok
 have e1:f'=f:=by rw [<-hc.tp.fn,hfn,_h.tp.fn]
 subst e1
 have e2:x'=x:=by rw [<-hc.ins,hpc,_h.ins]
 subst e2
 exact ⟨rest',hc⟩
theorem pp (ok:bM c) (h:Cu c D R phi f (7,A,B) rest) (s0:D.status=0) (s0':R.status=0) (ho:D.out=R.out) (hu:D.used=R.used):Nx c D R (aN c R.inp (7,A,B) D) (doP c (7,A,B) R):=by
 obtain ⟨⟨phi',hs'⟩,hlv,hle,_⟩:=gR h.sm (.inl s0)
 have ed:aN c R.inp (7,A,B) D=(if (ap D).heap < (bk (ap D):Int)+1+((flds c.ls A).length:Int) then { ap D with status:=4 } else { ap D with recs:=(ap D).recs++[(ap D).top.stack.drop ((ap D).top.stack.length - (flds c.ls A).length)],top:={ (ap D).top with stack:=(ap D).top.stack.take ((ap D).top.stack.length - (flds c.ls A).length)++[(((ap D).recs.length:Int)+1,true)] } }):=rfl
 have er:doP c (7,A,B) R=gO (dz c A (if R.heap < (R.words.length:Int)+((flds c.ls A).length:Int)+1 then a9 c R else R)):=rfl
 have elv:bk (ap D)=bk D:=by
  have hf:az (ap D)=D.below++[(ap D).top]:=by unfold az;rw [if_pos (.inl s0)];rfl
  have hf':az D=D.below++[D.top]:=by unfold az;rw [if_pos (.inl s0)]
  unfold bk
  rw [hf,hf']
  show lvW D.recs _ 0 (cI _ (D.below++[(ap D).top])) 0=_
  have:cI ⟨List.replicate D.recs.length false,[]⟩ (D.below++[(ap D).top])=cI ⟨List.replicate D.recs.length false,[]⟩ (D.below++[D.top]):=by
   unfold cI;rw [List.foldl_append,List.foldl_append];rfl
  show lvW D.recs (D.recs.length+1) 0 (cI ⟨List.replicate D.recs.length false,[]⟩ (D.below++[(ap D).top])) 0=_
  rw [this]
 have hh:(ap D).heap=R.heap:=h.sm.heap
 rw [ed,er,elv]
 by_cases hroom:R.heap < (R.words.length:Int)+((flds c.ls A).length:Int)+1
 ·rw [if_pos hroom]
  by_cases hfull:R.heap < ((a9 c R).words.length:Int)+((flds c.ls A).length:Int)+1
  ·rw [if_pos (by rw [hh,hlv];omega)]
   have:dz c A (a9 c R) = { a9 c R with status:=4 }:=by unfold dz;exact if_pos hfull
   rw [this]
   exact h.end (s:=4) (by omega) rfl rfl ho hu rfl ⟨rfl,rfl,rfl,rfl⟩
  ·rw [if_neg (by rw [hh,hlv];omega)]
   obtain ⟨rest',hc⟩:=Sm.inc h hs' rfl rfl ok
   have:=jp (D':=ap D) (R':=gO (dz c A (a9 c R))) hc s0 s0' ho hu rfl (by show _<=R.heap;omega) rfl
   exact ⟨this.st,this.out,this.used,this.inp,this.hp,this.go,this.ends⟩
 ·rw [if_neg hroom,if_neg (by rw [hh,hlv];omega)]
  exact jp h s0 s0' ho hu rfl (by omega) rfl
theorem hH {x:Int × Int × Int} (ok:bM c) (h:Cu c D R phi f x rest) (s0:D.status=0) (s0':R.status=0) (ho:D.out=R.out) (hu:D.used=R.used):Nx c D R (aN c R.inp x D) (doP c x R):=by
 obtain ⟨op,A,B⟩:=x
 have hop:=h.iok.1
 simp only at hop
 obtain ⟨n,rfl⟩:∃ n:Nat,op=(n:Int):=⟨op.toNat,by omega⟩
 have hn:n<=18:=by omega
 rcases n with _ | _ | _ | _ | _ | _ | _ | _ | _ | _ | _ | _ | _ | _ | _ | _ | _ | _ | _ | n
 ·exact np h s0 s0' ho hu
 ·exact fy h (by simp) s0 s0' ho hu
 ·exact fy h (by simp) s0 s0' ho hu
 ·exact fy h (by simp) s0 s0' ho hu
 ·exact fy h (by simp) s0 s0' ho hu
 ·exact mh h s0 s0' ho hu
 ·exact kC h s0 s0' ho hu
 ·exact pp ok h s0 s0' ho hu
 ·exact n8 h s0 s0' ho hu
 ·exact pW h s0 s0' ho hu
 ·exact nj h s0 s0' ho hu
 ·exact rt h s0 s0' ho hu
 ·exact mU h s0 s0' ho hu
 ·exact mQ h s0 s0' ho hu
 ·exact mW h s0 s0' ho hu
 ·exact nl ok h s0 s0' ho hu
 ·exact pT ok h s0 s0' ho hu
 ·exact kM h s0 s0' ho hu
 ·exact ny h s0 s0' ho hu
 ·omega
end
end Go.Proofs.YtnfnbcbadakofaaGreat
namespace Go.Proofs.YtnfnbcbadakofaaGreat
open Go.RowKit
structure Rel (c:Cx) (D:Dn) (R:Rn):Prop where
 heap:D.heap=R.heap
 depth:D.depth=R.depth
 h0:0<=R.heap
 h4:R.heap<=4000
 d1:1<=R.depth
 d64:R.depth<=64
 st:(R.status=0/\(D.status=0 \/ D.status=2)/\∃ phi,Sm c D R phi) \/ ((R.status=1 \/ R.status=3 \/ R.status=4 \/ R.status=5)/\D.status=R.status)
theorem Sm.out {c:Cx} {D:Dn} {R:Rn} {phi:Nat->Option Nat} (h:Sm c D R phi) {D':Dn} {R':Rn} (e1:D'.heap=D.heap) (e2:D'.depth=D.depth) (e3:D'.below=D.below) (e4:D'.top=D.top) (e5:D'.recs=D.recs) (f1:R'.heap=R.heap) (f2:R'.depth=R.depth) (f3:R'.below=R.below) (f4:R'.top=R.top) (f5:R'.words=R.words):Sm c D' R' phi:=
 h.same ⟨f1,f2,e1,e2⟩ f5 e5 (by rw [f3];exact h.bl) (by rw [e3,e4,f3,f4];exact h.fr)
theorem rX {c:Cx} (ok:bM c) (inp:List Int):∀ (n:Nat) {D:Dn} {R:Rn},R.inp=inp->D.out=R.out->D.used=R.used->D.status=R.status->Rel c D R ->
 Rel c (en c inp n D) (bu c n R).1/\(en c inp n D).out=(bu c n R).1.out/\(en c inp n D).used=(bu c n R).1.used/\(en c inp n D).status=(bu c n R).2/\(bu c n R).1.heap=R.heap/\(bu c n R).1.depth=R.depth/\(bu c n R).1.inp=inp:=by
 intro n
 induction n with
 | zero=>intro D R hi ho hu hs h;exact ⟨h,ho,hu,hs,rfl,rfl,hi⟩
 | succ n ih =>
  intro D R hi ho hu hs h
  unfold en bu
  by_cases h0:R.status=0
  ·have h0':D.status=0:=by rw [hs,h0]
   rw [if_neg (show ¬ (D.status ≠ 0) by rw [h0'];simp),if_neg (show ¬ (R.status ≠ 0) by rw [h0];simp)]
   rcases h.st with ⟨_,_,phi,sm⟩ | ⟨q,_⟩
   ·obtain ⟨f,x,rest,cu,e1,e2⟩:=sm.cu ok
    rw [e1,e2,hi]
    by_cases hr:x.1=18/\inp.length<=R.used
    ·rw [if_pos (show x.1=18/\inp.length<=D.used by rw [hu];exact hr),if_pos hr]
     exact ⟨⟨h.heap,h.depth,h.h0,h.h4,h.d1,h.d64,.inl ⟨h0,.inr rfl,phi,sm.out rfl rfl rfl rfl rfl rfl rfl rfl rfl rfl⟩⟩,ho,hu,rfl,rfl,rfl,hi⟩
    ·rw [if_neg (show ¬ (x.1=18/\inp.length<=D.used) by rw [hu];exact hr),if_neg hr]
     have nx:=hH ok cu h0' h0 ho hu
     rw [hi] at nx
     have hh:=nx.hp
     have hrel:Rel c (aN c inp x D) (doP c x R):=by
      refine ⟨by rw [hh.2.2.1,hh.1];exact h.heap,by rw [hh.2.2.2,hh.2.1];exact h.depth,by rw [hh.1];exact h.h0,by rw [hh.1];exact h.h4,by rw [hh.2.1];exact h.d1,by rw [hh.2.1];exact h.d64,?_⟩
      rcases nx.ends with q | q
      ·exact .inl ⟨q,.inl (by rw [nx.st,q]),nx.go q⟩
      ·exact .inr ⟨q,nx.st⟩
     have:=ih (by rw [nx.inp];exact hi) nx.out nx.used nx.st hrel
     rw [hh.1,hh.2.1] at this
     exact this
   ·omega
  ·rw [if_pos (show D.status ≠ 0 by rw [hs];exact h0),if_pos h0]
   exact ⟨h,ho,hu,hs,rfl,rfl,hi⟩
theorem tN {c:Cx} (ok:bM c) (inp:List Int) (n:Nat) {D:Dn} {R:Rn} (h:Rel c D R) (hu:R.used=0) (hout:R.out=[]) :
 Rel c (dGo c inp n D) (bu c n { R with inp:=inp }).1/\(dGo c inp n D).out=(bu c n { R with inp:=inp }).1.out/\(dGo c inp n D).used=(bu c n { R with inp:=inp }).1.used/\(dGo c inp n D).status=(bu c n { R with inp:=inp }).2/\(bu c n { R with inp:=inp }).1.heap=R.heap/\(bu c n { R with inp:=inp }).1.depth=R.depth/\(bu c n { R with inp:=inp }).1.inp=inp:=by
 unfold dGo
 refine rX ok inp n (R:={ R with inp:=inp }) rfl hout.symm hu.symm ?_ ?_
 ·show (if D.status=2 then 0 else D.status)=R.status
  rcases h.st with ⟨q,q' | q',_⟩ | ⟨q,q'⟩
  ·rw [if_neg (by omega),q,q']
  ·rw [if_pos q',q]
  ·rw [if_neg (by omega),q']
 ·refine ⟨h.heap,h.depth,h.h0,h.h4,h.d1,h.d64,?_⟩
  rcases h.st with ⟨q,q',phi,sm⟩ | ⟨q,q'⟩
  ·refine .inl ⟨q,.inl ?_,phi,sm.out rfl rfl rfl rfl rfl rfl rfl rfl rfl rfl⟩
   show (if D.status=2 then 0 else D.status)=0
   rcases q' with q' | q'
   ·rw [if_neg (by omega),q']
   ·rw [if_pos q']
  ·refine .inr ⟨q,?_⟩
   show (if D.status=2 then 0 else D.status)=R.status
   rw [if_neg (by omega),q']
def At (ns:List Int) (p:Nat) (X:List Int):Prop:=∃ pre post,ns=pre++X++post/\pre.length=p
theorem At.tk {ns:List Int} {p:Nat} {v:Int} {X:List Int} (h:At ns p (v::X)) {lo hi:Int} (h1:lo<=v) (h2:v<=hi):Go.Proofs.YtnfnbcbadakofaaGreat.tk ns lo hi (p,false)=(v,(p+1,false))/\At ns (p+1) X:=by
 obtain ⟨pre,post,rfl,rfl⟩:=h
 refine ⟨?_,pre++[v],post,by simp,by simp⟩
 have hg:(pre++v::X++post).getD pre.length 0=v:=by
  rw [List.getD_eq_getElem?_getD,List.append_assoc,List.getElem?_append_right (Nat.le_refl _)];simp
 unfold Go.Proofs.YtnfnbcbadakofaaGreat.tk
 simp only
 rw [if_neg (by simp),hg,if_neg (by omega)]
theorem At.split {ns:List Int} {p:Nat} {X Y:List Int} (h:At ns p (X++Y)):At ns (p+X.length) Y:=by
 obtain ⟨pre,post,rfl,rfl⟩:=h
 exact ⟨pre++X,post,by simp,by simp⟩
theorem At.tv {ns recs:List Int} {kinds vs:List Int} (hl:vs.length=kinds.length) (hv:∀ i,i < kinds.length->0<=vs.getD i 0/\vs.getD i 0<=65535/\dH recs (kinds.getD i 0) (vs.getD i 0)=false):∀ {p:Nat} {X:List Int},At ns p (vs++X)->tvP ns recs kinds (p,false)=(vs,(p+vs.length,false))/\At ns (p+vs.length) X:=by
 induction kinds generalizing vs with
 | nil =>
  have:vs=[]:=List.eq_nil_of_length_eq_zero hl
  subst this
  intro p X h;exact ⟨rfl,by simpa using h⟩
 | cons k ks ih =>
  cases vs with
  | nil=>simp at hl
  | cons v vs =>
   intro p X h
   obtain ⟨a,b,e⟩:=hv 0 (by simp)
   simp only [List.getD_cons_zero] at a b e
   obtain ⟨t1,t2⟩:=At.tk (X:=vs++X) h a b
   obtain ⟨i1,i2⟩:=ih (by simpa using hl) (fun i hi=>by simpa using hv (i+1) (by simpa using hi)) t2
   unfold tvP
   rw [t1]
   simp only
   rw [e,Bool.or_false,i1]
   refine ⟨?_,?_⟩
   ·simp;omega
   ·rw [List.length_cons,show p+(vs.length+1)=p+1+vs.length by omega];exact i2
theorem At.tl {ns:List Int} {hi:Int} {vs:List Int} (hv:∀ v ∈ vs,0<=v/\v<=hi) {p:Nat} {X:List Int} (h:At ns p (vs++X)):tkL ns hi vs.length (p,false)=(vs,(p+vs.length,false)):=by
 obtain ⟨n,hn⟩:∃ n,vs.length=n:=⟨_,rfl⟩
 induction n generalizing vs X with
 | zero=>have:vs=[]:=List.eq_nil_of_length_eq_zero hn;subst this;rfl
 | succ n ih =>
  have hne:vs ≠ []:=by intro q;subst q;simp at hn
  have e:vs=vs.dropLast++[vs.getLast hne]:=(List.dropLast_concat_getLast hne).symm
  have hdl:vs.dropLast.length=n:=by rw [List.length_dropLast];omega
  generalize hd:vs.dropLast=us at *
  generalize vs.getLast hne=u at *
  subst e
  have h':At ns p (us++(u::X)):=by simpa using h
  have i1:=ih (fun v hv'=>hv v (by simp [hv'])) h' hdl
  have hu:=hv u (by simp)
  obtain ⟨t1,_⟩:=(h'.split).tk (lo:=0) (hi:=hi) hu.1 hu.2
  rw [show (us++[u]).length=us.length+1 by simp,tkL,i1]
  simp only
  rw [t1]
  simp;omega
theorem VR.fine {c:Cx} {D:Dn} {R:Rn} {phi:Nat->Option Nat} (h:Sm c D R phi) {k:Int} {d:Int × Bool} {v:Int} (hv:VR c.ls R.words phi k d v):0<=v/\v<=65535/\dH (cD c.ls 0 R.words) k v=false:=by
 rcases hv with ⟨k0,_,_,a,b⟩ | ⟨k0,_,⟨_,v0⟩ | ⟨e,a,_,y,_,s⟩⟩
 ·refine ⟨a,by omega,?_⟩
  unfold dH;simp [k0]
 ·refine ⟨by omega,by omega,?_⟩
  unfold dH;simp [v0]
 ·have hw:=(s.val h.mem.full).2.1
  have:=h.len
  have:=h.h4
  refine ⟨by omega,by omega,?_⟩
  have hl:=fT c.ls R.words 0
  have:aU (cD c.ls 0 R.words) (v - 1)=k:=by
   rw [cP (by omega) (by unfold cD;rw [List.length_map,hl];omega),show (v - 1).toNat=a by omega]
   unfold cD
   unfold St at s
   rw [List.getD_eq_getElem?_getD,List.getElem?_map,s];rfl
  unfold dH
  simp [this]
theorem VL.fine {c:Cx} {D:Dn} {R:Rn} {phi:Nat->Option Nat} (h:Sm c D R phi) {ks:List Int} {ds:List (Int × Bool)} {vs:List Int} (hv:VL (VR c.ls R.words phi) ks ds vs):vs.length=ks.length/\∀ i,i < ks.length->0<=vs.getD i 0/\vs.getD i 0<=65535/\dH (cD c.ls 0 R.words) (ks.getD i 0) (vs.getD i 0)=false:=
 ⟨hv.len.2,fun _ hi=>(hv.get hi).fine h⟩
def Bd (ls:List (List Int)) (ws:List Int) (p:Nat):Prop:=p<=ws.length/\bC ls 0 (ws.take p)=0
theorem Bd.next {ls:List (List Int)} {ws:List Int} {p:Nat} (h:Bd ls ws p) (hp:p < ws.length):St ls ws p (ws.getD p 0)/\(bC ls 0 ws=0->Bd ls ws (p+1+(flds ls (ws.getD p 0)).length)):=by
 have hd:ws.drop p=ws.getD p 0::ws.drop (p+1):=by
  rw [List.drop_eq_getElem_cons hp,List.getD_eq_getElem?_getD,List.getElem?_eq_getElem hp];rfl
 have hw:ws=ws.take p++ws.drop p:=(List.take_append_drop _ _).symm
 have hs:St ls ws p (ws.getD p 0):=by
  unfold St
  conv=>lhs;rw [hw,ib,h.2,hd]
  rw [List.getElem?_append_right (by rw [fT,List.length_take];omega),fT,List.length_take,show p - min p ws.length=0 by omega,bd];rfl
 refine ⟨hs,fun he=>?_⟩
 have hv:=(hs.val he).2.1
 refine ⟨hv,?_⟩
 have e:ws.take (p+1+(flds ls (ws.getD p 0)).length)=ws.take p++(ws.getD p 0::(ws.drop (p+1)).take (flds ls (ws.getD p 0)).length):=by
  generalize (flds ls (ws.getD p 0)).length=F at *
  conv=>lhs;rw [hw]
  rw [List.take_append,List.take_of_length_le (by rw [List.length_take];omega),List.length_take,show p+1+F - min p ws.length=F+1 by omega,hd,List.take_succ_cons]
 rw [e,ix,h.2,bC,(gd ls _ _ (by rw [List.length_take];omega)).2,List.length_take,List.length_drop]
 omega
theorem rp {ws:List Int} {p:Nat} (hp:p<=ws.length):At ws p (ws.drop p):=⟨ws.take p,[],by simp,by rw [List.length_take];omega⟩
theorem ub {c:Cx} {D:Dn} {R:Rn} {phi:Nat->Option Nat} (h:Sm c D R phi):∀ (n p:Nat),Bd c.ls R.words p->R.words.length<=n+p->twP c.ls R.words (cD c.ls 0 R.words) n (p,false)=(R.words.length,false):=by
 intro n
 induction n with
 | zero=>intro p hb hn;have:=hb.1;unfold twP;rw [show p=R.words.length by omega]
 | succ n ih =>
  intro p hb hn
  unfold twP
  simp only
  by_cases hp:p < R.words.length
  ·rw [if_pos ⟨hp,trivial⟩]
   obtain ⟨s,hb'⟩:=hb.next hp
   have hb':=hb' h.mem.full
   obtain ⟨d,hd⟩:=h.mem.sur _ _ s
   obtain ⟨_,t,s',hv⟩:=h.mem.dom _ _ hd
   have:=s.uniq s'
   have ht:=h.mem.typ _ _ s
   have hdr:R.words.drop p=R.words.getD p 0::R.words.drop (p+1):=by
    rw [List.drop_eq_getElem_cons hp,List.getD_eq_getElem?_getD,List.getElem?_eq_getElem hp];rfl
   have ha:=rp (ws:=R.words) (p:=p) (by omega)
   rw [hdr] at ha
   obtain ⟨t1,t2⟩:=ha.tk (lo:=1) (hi:=c.ls.length) ht.1 ht.2
   rw [t1]
   simp only
   have hsg:R.words.drop (p+1)=seg R.words p (flds c.ls (R.words.getD p 0)).length++R.words.drop (p+1+(flds c.ls (R.words.getD p 0)).length):=by
    unfold seg
    conv=>lhs;rw [<-List.take_append_drop (flds c.ls (R.words.getD p 0)).length (R.words.drop (p+1))]
    rw [List.drop_drop]
   rw [hsg] at t2
   rw [<-this] at hv
   obtain ⟨q1,q2⟩:=hv.fine h
   obtain ⟨v1,_⟩:=At.tv (recs:=cD c.ls 0 R.words) q1 q2 t2
   rw [v1]
   simp only
   rw [q1]
   exact ih _ hb' (by omega)
  ·rw [if_neg (by omega)]
   have:=hb.1
   rw [show p=R.words.length by omega]
end Go.Proofs.YtnfnbcbadakofaaGreat
