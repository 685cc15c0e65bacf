import Derived.Test.YtnfnbcbadakofaaGreatTku
import Derived.Test.YtnfnbcbadakofaaGreatCla
import Derived.Test.YtnfnbcbadakofaaGreatDsq
namespace Go.Proofs.YtnfnbcbadakofaaGreat
open Go.RowKit
section
variable {c:Cx} {D:Dn} {R:Rn} {phi:Nat->Option Nat}
theorem l7 (h:Sm c D R phi) {ns:List Int} {p:Nat} {X:List Int} {f:Int} {waits:Bool} {g:Fr} {S:List Int} {post:List Int} {dl ds:List (Int × Bool)} (hfn:g.fn=f) (p0:0<=g.pc) (pl:g.pc < ((aq c.fs f).code.length:Int)) (hS:spP c.sps f g.pc=some (S++post))
 (hpost:(waits=false/\post=[]) \/ (waits=true/\(aV (aq c.fs f) g.pc).1=15/\post=aP c.fs (aV (aq c.fs f) g.pc).2.1)) (hl:VL (VR c.ls R.words phi) (aq c.fs f).locals dl g.locals) (hk:VL (VR c.ls R.words phi) S ds g.stack) (ha:At ns p (aW g++X)) :
 tfP c ns (cD c.ls 0 R.words) f waits (p,false)=(g,(p+(aW g).length,false)):=by
 have ha':At ns p (g.pc::(g.locals++(g.stack++X))):=by simpa [aW] using ha
 obtain ⟨t1,t2⟩:=ha'.tk (lo:=0) (hi:=((aq c.fs f).code.length:Int) - 1) p0 (by omega)
 obtain ⟨l1,l2⟩:=hl.fine h
 obtain ⟨k1,k2⟩:=hk.fine h
 obtain ⟨v1,v2⟩:=At.tv (recs:=cD c.ls 0 R.words) l1 l2 t2
 obtain ⟨v3,_⟩:=At.tv (recs:=cD c.ls 0 R.words) k1 k2 v2
 have hks:(if waits=true then bT (S++post) (((S++post).length:Int) - ((ak c.ls c.fs (aq c.fs f) (aV (aq c.fs f) g.pc).1 (aV (aq c.fs f) g.pc).2.1 (aV (aq c.fs f) g.pc).2.2).length:Int)) else S++post)=S:=by
  rcases hpost with ⟨rfl,rfl⟩ | ⟨rfl,h15,rfl⟩
  ·simp
  ·rw [if_pos rfl,h15]
   have:ak c.ls c.fs (aq c.fs f) 15 (aV (aq c.fs f) g.pc).2.1 (aV (aq c.fs f) g.pc).2.2=aP c.fs (aV (aq c.fs f) g.pc).2.1:=by simp [ak]
   rw [this]
   unfold bT
   rw [if_neg (by rw [List.length_append];omega),List.length_append,show (((S.length+(aP c.fs (aV (aq c.fs f) g.pc).2.1).length:Nat):Int) - ((aP c.fs (aV (aq c.fs f) g.pc).2.1).length:Int)).toNat=S.length by omega]
   simp
 have hbad:(!(some (S++post)).isSome || (waits && decide ((aV (aq c.fs f) g.pc).1 ≠ 15)))=false:=by
  rcases hpost with ⟨rfl,_⟩ | ⟨rfl,h15,_⟩
  ·simp
  ·simp [h15]
 unfold tfP
 simp only
 rw [t1]
 simp only
 rw [hS]
 simp only [Option.getD_some]
 rw [hks,hbad,Bool.or_false,v1]
 simp only
 rw [v3]
 refine Prod.ext ?_ (Prod.ext ?_ rfl)
 ·show (⟨f,g.pc,g.locals,g.stack⟩:Fr)=g
  rw [<-hfn]
 ·show p+1+g.locals.length+g.stack.length=p+(aW g).length
  unfold aW;rw [List.length_cons,List.length_append];omega
theorem ru (h:Sm c D R phi) {ns:List Int} {p:Nat} {X:List Int} {f e:Int} {d:DFr} {g:Fr} (w:Wt c (VR c.ls R.words phi) f e d g) (ha:At ns p (aW g++X)):tfP c ns (cD c.ls 0 R.words) f true (p,false)=(g,(p+(aW g).length,false)):=by
 obtain ⟨S,hS,hV⟩:=w.stk
 exact l7 h w.fn w.p0 w.pl hS (.inr ⟨rfl,w.op,by rw [w.tgt]⟩) w.loc hV ha
theorem tL (h:Sm c D R phi) {ns:List Int} {p:Nat} {X:List Int} {f:Int} {d:DFr} {g:Fr} (w:Tp c (VR c.ls R.words phi) f d g) (ha:At ns p (aW g++X)):tfP c ns (cD c.ls 0 R.words) f false (p,false)=(g,(p+(aW g).length,false)):=by
 obtain ⟨S,hS,hV⟩:=w.stk
 exact l7 (post:=[]) h w.fn w.p0 w.pl (by simpa using hS) (.inl ⟨rfl,rfl⟩) w.loc hV ha
theorem pX (ns recs:List Int):∀ (n:Nat) (f:Int) (s:Nat × Bool),de c ns recs (n+1) f s =
 ((de c ns recs n f s).1++[(tfP c ns recs (de c ns recs n f s).2.1 true (de c ns recs n f s).2.2).1],
  (aV (aq c.fs (de c ns recs n f s).2.1) (tfP c ns recs (de c ns recs n f s).2.1 true (de c ns recs n f s).2.2).1.pc).2.1,(tfP c ns recs (de c ns recs n f s).2.1 true (de c ns recs n f s).2.2).2):=by
 intro n
 induction n with
 | zero=>intro f s;simp [de]
 | succ n ih =>
  intro f s
  rw [de,ih]
  conv=>rhs;rw [de]
  simp
theorem sL (h:Sm c D R phi) {ds:List DFr} {gs:List Fr} {f:Int} (hb:Bel c (VR c.ls R.words phi) ds gs f) {ns:List Int} {p:Nat}:∀ {X:List Int},At ns p (gs.flatMap aW++X)->de c ns (cD c.ls 0 R.words) gs.length 0 (p,false)=(gs,f,(p+(gs.flatMap aW).length,false)):=by
 induction hb with
 | nil=>intro X _;rfl
 | @snoc ds gs f e d g hb w ih =>
  intro X ha
  have ha':At ns p (gs.flatMap aW++(aW g++X)):=by simpa using ha
  have i1:=ih ha'
  have t1:=ru h w ha'.split
  rw [List.length_append,List.length_singleton,pX,i1]
  simp only
  rw [t1]
  refine Prod.ext rfl (Prod.ext w.tgt (Prod.ext ?_ rfl))
  show p+(gs.flatMap aW).length+(aW g).length=p+((gs++[g]).flatMap aW).length
  rw [List.flatMap_append,List.length_append];simp;omega
end
theorem nZ {ls:List (List Int)} {ws:List Int} (he:bC ls 0 ws=0) {i:Nat} (hi:i < ws.length):∀ (n p:Nat),Bd ls ws p->p<=i->i < p+n->∃ a t,St ls ws a t/\(i=a \/ ∃ j,j < (flds ls t).length/\i=a+1+j):=by
 intro n
 induction n with
 | zero=>intro p _ h1 h2;omega
 | succ n ih =>
  intro p hb h1 h2
  obtain ⟨s,hb'⟩:=hb.next (by omega)
  rcases Nat.lt_or_ge i (p+1+(flds ls (ws.getD p 0)).length) with q | q
  ·refine ⟨p,_,s,?_⟩
   rcases Nat.lt_or_ge p i with z | z
   ·exact .inr ⟨i - p - 1,by omega,by omega⟩
   ·exact .inl (by omega)
  ·exact ih _ (hb' he) q (by omega)
theorem Sm.word {c:Cx} {D:Dn} {R:Rn} {phi:Nat->Option Nat} (h:Sm c D R phi) {i:Nat} (hi:i < R.words.length) (ht:c.ls.length<=6):0<=R.words.getD i 0/\R.words.getD i 0<=65535:=by
 obtain ⟨a,t,s,q⟩:=nZ h.mem.full hi R.words.length 0 ⟨Nat.zero_le _,rfl⟩ (Nat.zero_le _) (by omega)
 rcases q with rfl | ⟨j,hj,rfl⟩
 ·have:=(s.val h.mem.full).1
  rw [List.getD_eq_getElem?_getD,this]
  have:=h.mem.typ _ _ s
  simp;omega
 ·obtain ⟨d,hd⟩:=h.mem.sur _ _ s
  obtain ⟨_,t',s',hv⟩:=h.mem.dom _ _ hd
  have:=s.uniq s'
  subst this
  have hv:=hv.get hj
  rw [gS hj] at hv
  have:=hv.fine h
  exact ⟨this.1,this.2.1⟩
theorem so {ms ns:List Int}:∀ {p:Nat} {X:List Int},At ns p (ms++X)->ms.foldl (fun s m=>(tk ns m m s).2) (p,false)=(p+ms.length,false):=by
 induction ms with
 | nil=>intro p X _;rfl
 | cons m ms ih =>
  intro p X h
  obtain ⟨t1,t2⟩:=At.tk (X:=ms++X) h (Int.le_refl m) (Int.le_refl m)
  rw [List.foldl_cons,t1]
  have:=ih t2
  simp only at this ⊢
  rw [this,List.length_cons]
  congr 1;omega
def bare (R:Rn):Rn:=if R.status=0 then { R with inp:=[],used:=0,out:=[] } else ⟨R.heap,R.depth,R.status,[],[],⟨0,0,[],[]⟩,[],0,[]⟩
def aJ (ms:List Int) (R:Rn):List Int:=ge ms R.heap R.depth R.status R.words R.below R.top
theorem oL (ns:List Int):At ns 0 ns:=⟨[],[],by simp,rfl⟩
theorem fE {c:Cx} (ok:bM c) {D:Dn} {R:Rn} (ms:List Int) (h:Rel c D R):tuP c ms (aJ ms R)=some (bare R):=by
 rcases h.st with ⟨s0,_,phi,sm⟩ | ⟨s1,_⟩
 ·have e:aJ ms R=ms++(R.heap::R.depth::0::(R.words.length:Int)::(R.words++(((R.below.length:Int)+1)::(R.below.flatMap aW++(aW R.top++[]))))):=by
   unfold aJ ge;rw [s0];simp
  obtain ⟨f,hb,ht⟩:=sm.fr
  have ha:=oL (aJ ms R)
  conv at ha=>arg 3;rw [e]
  generalize hns:aJ ms R=ns at *
  have a1:=ha.split
  have m1:=so ha
  simp only [Nat.zero_add] at a1 m1
  obtain ⟨t1,a2⟩:=a1.tk (lo:=0) (hi:=4000) h.h0 h.h4
  obtain ⟨t2,a3⟩:=a2.tk (lo:=1) (hi:=64) h.d1 h.d64
  obtain ⟨t3,a4⟩:=a3.tk (lo:=0) (hi:=5) (by decide) (by decide)
  obtain ⟨t4,a5⟩:=a4.tk (lo:=0) (hi:=R.heap) (by omega) sm.len
  have a6:=a5.split
  have hwv:∀ v ∈ R.words,0<=v/\v<=65535:=by
   intro v hv
   obtain ⟨i,hi,rfl⟩:=List.mem_iff_getElem.1 hv
   have:=sm.word hi ok.pg.t6
   rw [List.getD_eq_getElem?_getD,List.getElem?_eq_getElem hi] at this
   exact this
  have t5:=At.tl (hi:=65535) hwv a5
  obtain ⟨t6,a7⟩:=a6.tk (lo:=1) (hi:=R.depth) (by omega) sm.bl
  have t7:=sL sm hb a7
  have t8:=tL sm ht a7.split
  have tw:=ub sm R.words.length 0 ⟨Nat.zero_le _,rfl⟩ (by omega)
  have hth:thP ms ns (0,false)=((R.heap,R.depth,0),(ms.length+1+1+1,false)):=by
   unfold thP;simp only;rw [m1,t1];simp only;rw [t2];simp only;rw [t3];simp
  have htw:iU c ns R.heap (ms.length+1+1+1,false)=(R.words,(ms.length+1+1+1+1+R.words.length,false)):=by
   unfold iU;simp only;rw [t4];simp only [Int.toNat_natCast];rw [t5];simp only;rw [tw];simp
  have htf:ji c ns (cD c.ls 0 R.words) R.depth (ms.length+1+1+1+1+R.words.length,false)=((R.below,R.top),(ms.length+1+1+1+1+R.words.length+1+(R.below.flatMap aW).length+(aW R.top).length,false)):=by
   unfold ji;simp only;rw [t6];simp only
   rw [show ((R.below.length:Int)+1 - 1).toNat=R.below.length by omega,t7];simp only;rw [t8]
  have htu:tuR c ms ns=(⟨R.heap,R.depth,0,R.words,R.below,R.top,[],0,[]⟩,(ms.length+1+1+1+1+R.words.length+1+(R.below.flatMap aW).length+(aW R.top).length,false)):=by
   unfold tuR;simp only;rw [hth];simp only;rw [if_pos (by trivial),htw];simp only;rw [htf]
  have hl:ns.length=ms.length+1+1+1+1+R.words.length+1+(R.below.flatMap aW).length+(aW R.top).length:=by
   rw [e];simp;omega
  unfold tuP
  rw [htu,if_neg (by rw [hl];simp)]
  unfold bare
  rw [if_pos s0]
  simp only [Option.some.injEq]
  rw [<-s0]
 ·have e:aJ ms R=ms++(R.heap::R.depth::R.status::[]):=by
   unfold aJ ge;rw [if_pos (by omega)]
  have ha:=oL (aJ ms R)
  conv at ha=>arg 3;rw [e]
  generalize hns:aJ ms R=ns at *
  have a1:=ha.split
  have m1:=so ha
  simp only [Nat.zero_add] at a1 m1
  obtain ⟨t1,a2⟩:=a1.tk (lo:=0) (hi:=4000) h.h0 h.h4
  obtain ⟨t2,a3⟩:=a2.tk (lo:=1) (hi:=64) h.d1 h.d64
  obtain ⟨t3,a4⟩:=a3.tk (lo:=0) (hi:=5) (by omega) (by omega)
  have hth:thP ms ns (0,false)=((R.heap,R.depth,R.status),(ms.length+1+1+1,false)):=by
   unfold thP;simp only;rw [m1,t1];simp only;rw [t2];simp only;rw [t3]
   have:decide (R.status=2)=false:=by simp;omega
   simp [this]
  have htu:tuR c ms ns=(⟨R.heap,R.depth,R.status,[],[],⟨0,0,[],[]⟩,[],0,[]⟩,(ms.length+1+1+1,false)):=by
   unfold tuR;simp only;rw [hth];simp only;rw [if_neg (by omega)]
  unfold tuP
  rw [htu,if_neg (by rw [e];simp)]
  unfold bare
  rw [if_neg (by omega)]
theorem Rel.bare {c:Cx} {D:Dn} {R:Rn} (h:Rel c D R):Rel c D (bare R):=by
 unfold Go.Proofs.YtnfnbcbadakofaaGreat.bare
 rcases h.st with ⟨s0,s2,phi,sm⟩ | ⟨s1,s2⟩
 ·rw [if_pos s0]
  exact ⟨h.heap,h.depth,h.h0,h.h4,h.d1,h.d64,.inl ⟨s0,s2,phi,sm.out rfl rfl rfl rfl rfl rfl rfl rfl rfl rfl⟩⟩
 ·rw [if_neg (by omega)]
  exact ⟨h.heap,h.depth,h.h0,h.h4,h.d1,h.d64,.inr ⟨s1,s2⟩⟩
end Go.Proofs.YtnfnbcbadakofaaGreat
namespace Go.Proofs.YtnfnbcbadakofaaGreat
open Go.RowKit
theorem ki {D:Dn} (h:D.status=1 \/ D.status=3 \/ D.status=4 \/ D.status=5):bk D=0/\az D=[]:=by
 have e:az D=[]:=by unfold az;rw [if_neg (by omega)]
 refine ⟨?_,e⟩
 unfold bk
 rw [e]
 simp [cI,lvW]
theorem gU {c:Cx} {D:Dn} {R:Rn} (h:Rel c D R):Rel c D (a9 c (bare R))/\bk D=(a9 c (bare R)).words.length/\(a9 c (bare R)).heap=R.heap/\(a9 c (bare R)).depth=R.depth:=by
 have hb:=h.bare
 rcases hb.st with ⟨s0,s2,phi,sm⟩ | ⟨s1,s2⟩
 ·obtain ⟨⟨phi',sm'⟩,lv,_,_⟩:=gR sm s2
  have eh:(bare R).heap=R.heap:=by unfold bare;split <;> rfl
  have ed:(bare R).depth=R.depth:=by unfold bare;split <;> rfl
  exact ⟨⟨hb.heap,hb.depth,hb.h0,hb.h4,hb.d1,hb.d64,.inl ⟨s0,s2,phi',sm'⟩⟩,lv,eh,ed⟩
 ·have hs:R.status ≠ 0:=by
   intro q
   have:(bare R).status=0:=by unfold bare;rw [if_pos q];exact q
   omega
  have eb:bare R=⟨R.heap,R.depth,R.status,[],[],⟨0,0,[],[]⟩,[],0,[]⟩:=by unfold bare;rw [if_neg hs]
  obtain ⟨l1,_⟩:=ki (D:=D) (by rw [s2];exact s1)
  refine ⟨⟨hb.heap,hb.depth,hb.h0,hb.h4,hb.d1,hb.d64,.inr ⟨s1,s2⟩⟩,?_,by rw [eb];rfl,by rw [eb];rfl⟩
  rw [l1,eb]
  rfl
def fp (l:List Int):Prop:=∀ v ∈ l,0<=v/\v<=65535
theorem VL.wordsB {c:Cx} {D:Dn} {R:Rn} {phi:Nat->Option Nat} (h:Sm c D R phi) {ks:List Int} {ds:List (Int × Bool)} {vs:List Int} (hv:VL (VR c.ls R.words phi) ks ds vs):fp vs:=by
 intro v hm
 obtain ⟨i,hi,rfl⟩:=List.mem_iff_getElem.1 hm
 obtain ⟨l,q⟩:=hv.fine h
 have:=q i (by omega)
 rw [List.getD_eq_getElem?_getD,List.getElem?_eq_getElem hi] at this
 exact ⟨this.1,this.2.1⟩
theorem d9 {c:Cx} (ok:bM c) {D:Dn} {R:Rn} {phi:Nat->Option Nat} (h:Sm c D R phi) {f:Int} (f0:0<=f) (fl:f < (c.fs.length:Int)) {g:Fr} {dl ds:List (Int × Bool)} {S post:List Int} (p0:0<=g.pc) (pl:g.pc < ((aq c.fs f).code.length:Int)) (hl:VL (VR c.ls R.words phi) (aq c.fs f).locals dl g.locals) (hS:spP c.sps f g.pc=some (S++post)) (hk:VL (VR c.ls R.words phi) S ds g.stack):(aW g).length<=17/\fp (aW g)/\g.locals.length<=8/\g.stack.length<=8:=by
 have fk:=cj ok f0 fl
 have h8:=ok.s8 _ _ _ hS
 rw [List.length_append] at h8
 have l1:=hl.len.2
 have l2:=hk.len.2
 have:=fk.l8
 refine ⟨by unfold aW;rw [List.length_cons,List.length_append];omega,?_,by omega,by omega⟩
 intro v hv
 unfold aW at hv
 rcases List.mem_cons.1 hv with rfl | hv
 ·have:=fk.c64;omega
 ·rcases List.mem_append.1 hv with hv | hv
  ·exact hl.wordsB h v hv
  ·exact hk.wordsB h v hv
theorem Bel.small {c:Cx} (ok:bM c) {D:Dn} {R:Rn} {phi:Nat->Option Nat} (h:Sm c D R phi) {ds:List DFr} {gs:List Fr} {f:Int} (hb:Bel c (VR c.ls R.words phi) ds gs f):(gs.flatMap aW).length<=17 * gs.length/\fp (gs.flatMap aW)/\∀ g ∈ gs,g.locals.length<=8/\g.stack.length<=8:=by
 induction hb with
 | nil=>exact ⟨by simp,fun v hv=>by simp at hv,fun g hg=>by simp at hg⟩
 | @snoc ds gs f e d g hb w ih =>
  obtain ⟨S,hS,hV⟩:=w.stk
  obtain ⟨q1,q2,q3,q4⟩:=d9 ok h w.f0 w.fl w.p0 w.pl w.loc hS hV
  have e1:[g].flatMap aW=aW g:=by simp
  have i1:=ih.1
  rw [List.flatMap_append,e1]
  refine ⟨by rw [List.length_append,List.length_append,List.length_singleton];omega,?_,?_⟩
  ·intro v hv
   rcases List.mem_append.1 hv with hv | hv
   ·exact ih.2.1 v hv
   ·exact q2 v hv
  ·intro g' hg
   rcases List.mem_append.1 hg with hg | hg
   ·exact ih.2.2 g' hg
   ·simp at hg;subst hg;exact ⟨q3,q4⟩
theorem gf {c:Cx} (ok:bM c) {D:Dn} {R:Rn} {ms:List Int} (hm:ms.length=3) (hw:fp ms) (h:Rel c D R) :
 ((aJ ms R).length:Int)<=2 * R.heap+20 * R.depth+16/\fp (aJ ms R)/\(R.status=0->(aJ ms R).length<=R.words.length+20 * (az D).length+16)/\(aJ ms R).length<=16+R.words.length+20 * (R.below.length+1):=by
 rcases h.st with ⟨s0,s2,phi,sm⟩ | ⟨s1,s2⟩
 ·obtain ⟨f,hb,ht⟩:=sm.fr
  obtain ⟨b1,b2,_⟩:=hb.small ok sm
  obtain ⟨S,hS,hV⟩:=ht.stk
  obtain ⟨q1,q2,_,_⟩:=d9 (post:=[]) ok sm ht.f0 ht.fl ht.p0 ht.pl ht.loc (by simpa using hS) hV
  have e:aJ ms R=ms++([R.heap,R.depth,0,(R.words.length:Int)]++(R.words++([(R.below.length:Int)+1]++(R.below.flatMap aW++aW R.top)))):=by
   unfold aJ ge;rw [s0];simp
  have hl:(aJ ms R).length=3+(4+(R.words.length+(1+((R.below.flatMap aW).length+(aW R.top).length)))):=by
   rw [e];simp only [List.length_append,hm,List.length_cons,List.length_nil]
  have hwl:=sm.len
  have hbl:=sm.bl
  have hh:=h.h4
  have hd:=h.d64
  have hfr:(az D).length=R.below.length+1:=by
   unfold az;rw [if_pos s2,List.length_append,hb.len];rfl
  refine ⟨by rw [hl];omega,?_,fun _=>by rw [hl,hfr];omega,by rw [hl];omega⟩
  rw [e]
  intro v hv
  rcases List.mem_append.1 hv with hv | hv
  ·exact hw v hv
  rcases List.mem_append.1 hv with hv | hv
  ·have:=h.h0
   have:=h.d1
   simp only [List.mem_cons,List.not_mem_nil,or_false] at hv
   omega
  rcases List.mem_append.1 hv with hv | hv
  ·obtain ⟨i,hi,rfl⟩:=List.mem_iff_getElem.1 hv
   have:=sm.word hi ok.pg.t6
   rw [List.getD_eq_getElem?_getD,List.getElem?_eq_getElem hi] at this
   exact this
  rcases List.mem_append.1 hv with hv | hv
  ·simp only [List.mem_cons,List.not_mem_nil,or_false] at hv
   omega
  rcases List.mem_append.1 hv with hv | hv
  ·exact b2 v hv
  ·exact q2 v hv
 ·have e:aJ ms R=ms++[R.heap,R.depth,R.status]:=by
   unfold aJ ge;rw [if_pos (by omega)]
  have hl:(aJ ms R).length=6:=by rw [e];simp [hm]
  have:=h.h0
  have:=h.d1
  have:=h.h4
  have:=h.d64
  refine ⟨by rw [hl];omega,?_,fun q=>by omega,by omega⟩
  rw [e]
  intro v hv
  rcases List.mem_append.1 hv with hv | hv
  ·exact hw v hv
  ·simp only [List.mem_cons,List.not_mem_nil,or_false] at hv
   omega
end Go.Proofs.YtnfnbcbadakofaaGreat
namespace Go.Proofs.YtnfnbcbadakofaaGreat
open Go.RowKit
theorem lD {sps:List aC} {f i:Int} {S:List Int} (h:spP sps f i=some S):∃ j k:Nat,f=(j:Int)/\i=(k:Int)/\j < sps.length/\(sps.getD j [])[k]?=some (some S):=by
 unfold spP at h
 split at h
 ·cases h
 ·split at h
  ·cases h
  ·rename_i h1 h2
   refine ⟨f.toNat,i.toNat,by omega,by omega,by omega,?_⟩
   rw [List.getD_eq_getElem?_getD] at h
   cases e:(sps.getD f.toNat [])[i.toNat]? with
   | none=>rw [e] at h;cases h
   | some x=>rw [e] at h;simp at h;rw [h]
theorem oj {sps:List aC} {j k:Nat} {S:List Int} (hj:j < sps.length) (h:(sps.getD j [])[k]?=some (some S)):spP sps (j:Int) (k:Int)=some S:=by
 have hk:k < (sps.getD j []).length:=(List.getElem?_eq_some_iff.1 h).1
 unfold spP
 rw [if_neg (by omega),Int.toNat_natCast,if_neg (by omega),Int.toNat_natCast,List.getD_eq_getElem?_getD,h];rfl
theorem rC {p:Pg} {f:Fn} {n i:Nat} {S:List Int} (h:gL n (cZ p.types p.funcs f) (cU f) i S):S.length<=8:=by
 cases h with
 | zero=>simp
 | step _ ha _ _ _ =>
  unfold cZ at ha
  obtain ⟨_,_,_,q,_⟩:=gy ha
  exact q
def cxO (s:ByteArray):Cx:=⟨(opF s).2.2.1.types,(opF s).2.2.1.funcs,(opF s).2.2.2⟩
theorem oU {p:Pg} (h:dC p) {f:Fn} (hf:f ∈ p.funcs) (h0:(ej p f).2.2=false):Sol f.code.length (cZ p.types p.funcs f) (cU f) (ej p f).1/\Snd f.code.length (cZ p.types p.funcs f) (cU f) (ej p f).1:=by
 obtain ⟨b,hb⟩:=h.fn hf
 exact (lQ (h.way hf) (by have:=hb.c1;omega)).1 _ ((iL h hf).2 h0)
theorem dg {s:ByteArray} (h:(opF s).1=0):bM (cxO s):=by
 obtain ⟨hw,_,hsp,hfit⟩:=nO h
 unfold cxO
 generalize (opF s).2.2.1=p at *
 generalize (opF s).2.2.2=sps at *
 have hlen:sps.length=p.funcs.length:=by rw [hsp,List.length_map]
 have hget:∀ j (hj:j < p.funcs.length),sps.getD j []=(ej p p.funcs[j]).1:=fun j hj=>by
  rw [hsp,List.getD_eq_getElem?_getD,List.getElem?_map,List.getElem?_eq_getElem hj];rfl
 have hfn:∀ j (hj:j < p.funcs.length),aq p.funcs (j:Int)=p.funcs[j]:=fun j hj=>by
  unfold aq;rw [dif_pos ⟨by omega,by simpa using hj⟩];rfl
 have hsol:=fun j (hj:j < p.funcs.length)=>oU hw (List.getElem_mem hj) (hfit _ (List.getElem_mem hj))
 refine ⟨fun f i S hS=>?_,fun f f0 fl=>?_,fun f i S hS=>?_,hw⟩
 ·obtain ⟨j,k,rfl,rfl,hj,hk⟩:=lD hS
  simp only at hj hk ⊢
  have hj':j < p.funcs.length:=by omega
  rw [hget j hj'] at hk
  rw [hfn j hj']
  obtain ⟨s1,s2⟩:=hsol j hj'
  have hkl:k < p.funcs[j].code.length:=by
   have:=(List.getElem?_eq_some_iff.1 hk).1
   rw [s1.len] at this;exact this
  have hi:aV p.funcs[j] (k:Int)=p.funcs[j].code.getD k (0,0,0):=by
   unfold aV;rw [if_neg (by omega),Int.toNat_natCast]
  rw [hi,Int.toNat_natCast]
  obtain ⟨t,h1,h2⟩:=s1.clo k S hk
  have h1':cf p.types p.funcs p.funcs[j] (p.funcs[j].code.getD k (0,0,0)).1 (p.funcs[j].code.getD k (0,0,0)).2.1 (p.funcs[j].code.getD k (0,0,0)).2.2 S=some t:=h1
  rw [h1']
  refine ⟨rfl,fun T hT m hm=>?_⟩
  simp only [Option.some.injEq] at hT
  subst hT
  obtain ⟨a,b,c⟩:=h2 m hm
  refine ⟨a,b,?_⟩
  have:=oj (sps:=sps) (j:=j) (k:=m.toNat) (S:=t) (by omega) (by rw [hget j hj'];exact c)
  rwa [Int.toNat_of_nonneg a] at this
 ·simp only at fl
  obtain ⟨j,rfl⟩:∃ j:Nat,f=(j:Int):=⟨f.toNat,by omega⟩
  have hj':j < p.funcs.length:=by omega
  exact oj (sps:=sps) (k:=0) (by omega) (by rw [hget j hj'];exact (hsol j hj').1.zero)
 ·obtain ⟨j,k,rfl,rfl,hj,hk⟩:=lD hS
  have hj':j < p.funcs.length:=by simp only at hj;omega
  simp only at hk
  rw [hget j hj'] at hk
  exact rC ((hsol j hj').2 k S hk)
end Go.Proofs.YtnfnbcbadakofaaGreat
namespace Go.Proofs.YtnfnbcbadakofaaGreat
open Go.RowKit
def stR (c:Cx) (h d:Int):Rn:=⟨h,d,0,[],[],dZ 0 (aq c.fs 0) [],[],0,[]⟩
def stD (c:Cx) (h d:Int):Dn:=⟨h,d,0,[],⟨0,0,cz (aq c.fs 0).locals 0,[]⟩,[],[],0⟩
theorem mX {c:Cx} (ok:bM c) {h d:Int} (h0:0<=h) (h4:h<=4000) (d1:1<=d) (d64:d<=64):Rel c (stD c h d) (stR c h d):=by
 have hf:(0:Int) < (c.fs.length:Int):=by have:=ok.pg.f1;simp only at this;omega
 have fk:=cj ok (Int.le_refl 0) hf
 refine ⟨rfl,rfl,h0,h4,d1,d64,.inl ⟨rfl,.inl rfl,fun _=>none,?_⟩⟩
 refine ⟨h0,h4,d1,d64,rfl,rfl,⟨rfl,?_,?_,?_,?_⟩,h0,by simpa [stR] using d1,0,.nil,?_⟩
 ·intro a t hs;unfold St at hs;simp [stR,bd] at hs
 ·intro d d' a q;cases q
 ·intro d a q;cases q
 ·intro a t hs;unfold St at hs;simp [stR,bd] at hs
 ·have hs:=ok.zero 0 (Int.le_refl 0) hf
  refine ⟨rfl,rfl,Int.le_refl _,hf,rfl,Int.le_refl _,by have:=fk.c1;show (0:Int) < _;omega,?_,[],hs,.nil⟩
  have:=jH (P:=VR c.ls (stR c h d).words fun _=>none) (ei (by decide) (by decide)) (fun k hk=>kq hk) (aq c.fs 0).locals (fun t ht=>(fk.lt t ht).1)
  simpa [stD,stR,cz,dZ] using this
theorem md (s:ByteArray) (h d:Int):dW s (opF s).2.2.1.funcs h d=aJ (aB s) (stR (cxO s) h d):=rfl
end Go.Proofs.YtnfnbcbadakofaaGreat
namespace Go.Proofs.YtnfnbcbadakofaaGreat
open Go.RowKit
structure DoH (c:Cx) (x:Int × Int × Int) (R:Rn):Prop where
 rb:RB c R
 op:0<=x.1/\x.1<=18
 fld:x.1=8 \/ x.1=9->0<=x.2.2/\x.2.2<=1000
 set:x.1=9->aF R.top.stack.dropLast ≠ 0->aF R.top.stack.dropLast+x.2.2 < (R.words.length:Int)
 sto:x.1=6->0<=x.2.1/\x.2.1 < (R.top.locals.length:Int)
 pc:0<=R.top.pc/\R.top.pc<=1000
 bpc:∀ f ∈ R.below,0<=f.pc/\f.pc<=1000
 fnl:∀ f,(aq c.fs f).locals.length<=1000
 dp:1<=R.depth/\R.depth<=64
 b64:R.below.length<=64
theorem fm {ls:List (List Int)} (h:∀ l ∈ ls,l.length<=5) (t:Int):(flds ls t).length<=5:=by
 unfold flds
 split
 ·simp
 ·rw [List.getD_eq_getElem?_getD]
  cases e:ls[(t - 1).toNat]? with
  | none=>simp
  | some l=>exact h l (List.mem_of_getElem? e)
theorem lX {c:Cx} (ok:bM c) (f:Int):(aq c.fs f).locals.length<=8:=by
 by_cases h:0<=f/\f < (c.fs.length:Int)
 ·exact (cj ok h.1 h.2).l8
 ·unfold aq
  rw [dif_neg (by omega)];simp
theorem Wt.frb {c:Cx} (ok:bM c) {D:Dn} {R:Rn} {phi:Nat->Option Nat} (h:Sm c D R phi) {f e:Int} {d:DFr} {g:Fr} (w:Wt c (VR c.ls R.words phi) f e d g):FrB g/\0<=g.pc/\g.pc<=1000:=by
 obtain ⟨S,hS,hV⟩:=w.stk
 obtain ⟨_,_,q3,q4⟩:=d9 ok h w.f0 w.fl w.p0 w.pl w.loc hS hV
 have:=(cj ok w.f0 w.fl).c64
 have:=w.pl
 exact ⟨⟨w.loc.wordsB h,hV.wordsB h,by omega,by omega⟩,w.p0,by omega⟩
theorem Tp.frb {c:Cx} (ok:bM c) {D:Dn} {R:Rn} {phi:Nat->Option Nat} (h:Sm c D R phi) {f:Int} {d:DFr} {g:Fr} (w:Tp c (VR c.ls R.words phi) f d g):FrB g/\0<=g.pc/\g.pc<=1000:=by
 obtain ⟨S,hS,hV⟩:=w.stk
 obtain ⟨_,_,q3,q4⟩:=d9 (post:=[]) ok h w.f0 w.fl w.p0 w.pl w.loc (by simpa using hS) hV
 have:=(cj ok w.f0 w.fl).c64
 have:=w.pl
 exact ⟨⟨w.loc.wordsB h,hV.wordsB h,by omega,by omega⟩,w.p0,by omega⟩
theorem Bel.frb {c:Cx} (ok:bM c) {D:Dn} {R:Rn} {phi:Nat->Option Nat} (h:Sm c D R phi) {ds:List DFr} {gs:List Fr} {f:Int} (hb:Bel c (VR c.ls R.words phi) ds gs f):∀ g ∈ gs,FrB g/\0<=g.pc/\g.pc<=1000:=by
 induction hb with
 | nil=>intro g hg;simp at hg
 | @snoc ds gs f e d g hb w ih =>
  intro g' hg
  rcases List.mem_append.1 hg with hg | hg
  ·exact ih g' hg
  ·simp at hg;subst hg;exact w.frb ok h
theorem Sm.rb {c:Cx} (ok:bM c) {D:Dn} {R:Rn} {phi:Nat->Option Nat} (h:Sm c D R phi):RB c R:=by
 obtain ⟨f,hb,ht⟩:=h.fr
 have h1:=h.len
 have h2:=h.h4
 have h3:=h.bl
 have h4:=h.d64
 have h5:=ok.pg.t6
 refine ⟨by omega,?_,by simp only at h5;omega,fm (fun l hl=>(ok.pg.tf l hl).1),by omega,fun g hg=>(hb.frb ok h g hg).1,(ht.frb ok h).1⟩
 intro v hv
 obtain ⟨i,hi,rfl⟩:=List.mem_iff_getElem.1 hv
 have:=h.word hi ok.pg.t6
 rw [List.getD_eq_getElem?_getD,List.getElem?_eq_getElem hi] at this
 exact this
theorem Cu.doh {c:Cx} (ok:bM c) {D:Dn} {R:Rn} {phi:Nat->Option Nat} {f:Int} {x:Int × Int × Int} {rest:List Int} (h:Cu c D R phi f x rest):DoH c x R:=by
 have hb:=h.sm.rb ok
 have h3:=h.sm.bl
 have h4:=h.sm.d64
 have h1:=h.sm.d1
 have hio:=h.iok
 obtain ⟨op,A,B⟩:=x
 refine ⟨hb,⟨hio.1.1,hio.1.2⟩,fun q=>?_,fun q hz=>?_,fun q=>?_,(h.tp.frb ok h.sm).2,fun g hg=>(h.bel.frb ok h.sm g hg).2,fun g=>by have:=lX ok g;omega,⟨h1,h4⟩,by omega⟩
 ·simp only [cH,gB] at hio
  have h5:=hb.s5 A
  simp only at q ⊢
  have:=hio.2.2.2
  rw [if_neg (by omega)] at this
  exact ⟨hio.2.2.1,by omega⟩
 ·simp only at q hz ⊢
  subst q
  have hi:=hio
  simp only [cH,gB] at hi
  have hB0:0<=B:=hi.2.2.1
  have hB1:B < ((flds c.ls A).length:Int):=by have:=hi.2.2.2;simp at this;omega
  have hA1:1<=A:=fK (ls:=c.ls) (by omega)
  have e:ak c.ls c.fs (aq c.fs f) 9 A B=[A]++[aU (flds c.ls A) B]:=by simp [ak]
  have hs:=h.stk
  simp only [e] at hs
  rw [<-List.append_assoc] at hs
  obtain ⟨h1,v1⟩:=hs.snoc
  obtain ⟨h2,v2⟩:=h1.snoc
  obtain ⟨_,hz' | ⟨d,a,x,y,z,s⟩⟩:=v2.ref (by omega)
  ·exact absurd hz'.2 hz
  ·have hw:=(s.val h.sm.mem.full).2.1
   omega
 ·simp only at q ⊢
  subst q
  simp only [cH,bA] at hio
  have hl:=h.tp.loc.len.2
  have:=hio.2.1
  simp at this
  omega
def Gd (c:Cx) (R:Rn):Prop:=∃ D,Rel c D R/\D.status=R.status/\D.out=R.out/\D.used=R.used
theorem Gd.doh {c:Cx} (ok:bM c) {R:Rn} (h:Gd c R) (h0:R.status=0):DoH c (eC c R) R:=by
 obtain ⟨D,hr,_⟩:=h
 rcases hr.st with ⟨_,_,phi,sm⟩ | ⟨q,_⟩
 ·obtain ⟨f,x,rest,cu,e1,_⟩:=sm.cu ok
  rw [e1];exact cu.doh ok
 ·omega
theorem Gd.step {c:Cx} (ok:bM c) {R:Rn} (h:Gd c R) (h0:R.status=0):Gd c (doP c (eC c R) R)/\(doP c (eC c R) R).inp=R.inp:=by
 obtain ⟨D,hr,hs,ho,hu⟩:=h
 rcases hr.st with ⟨_,_,phi,sm⟩ | ⟨q,_⟩
 ·obtain ⟨f,x,rest,cu,e1,_⟩:=sm.cu ok
  rw [e1]
  have nx:=hH ok cu (by rw [hs,h0]) h0 ho hu
  have hh:=nx.hp
  refine ⟨⟨aN c R.inp x D,⟨by rw [hh.2.2.1,hh.1];exact hr.heap,by rw [hh.2.2.2,hh.2.1];exact hr.depth,by rw [hh.1];exact hr.h0,by rw [hh.1];exact hr.h4,by rw [hh.2.1];exact hr.d1,by rw [hh.2.1];exact hr.d64,?_⟩,nx.st,nx.out,nx.used⟩,nx.inp⟩
  rcases nx.ends with q | q
  ·exact .inl ⟨q,.inl (by rw [nx.st,q]),nx.go q⟩
  ·exact .inr ⟨q,nx.st⟩
 ·omega
theorem Gd.of {c:Cx} {D:Dn} {R:Rn} (h:Rel c D R):Gd c R:=by
 refine ⟨{ D with status:=R.status,out:=R.out,used:=R.used },⟨h.heap,h.depth,h.h0,h.h4,h.d1,h.d64,?_⟩,rfl,rfl,rfl⟩
 rcases h.st with ⟨q,_,phi,sm⟩ | ⟨q,_⟩
 ·exact .inl ⟨q,.inl q,phi,sm.out rfl rfl rfl rfl rfl rfl rfl rfl rfl rfl⟩
 ·exact .inr ⟨q,rfl⟩
end Go.Proofs.YtnfnbcbadakofaaGreat
namespace Go.Proofs.YtnfnbcbadakofaaGreat
open Go.RowKit
section
variable {W1 w w':World} {rb:Nat} {tv fv:Value} {D:Dn} {V:DV}
theorem i9.inc {G:Nat->Prop} (h:i9 D G) (hs:D.status=0):i9 (ap D) G/\bk (ap D)=bk D:=by
 have hf:∀ m,cI m (az (ap D))=cI m (az D):=by
  intro m
  unfold az cI
  rw [if_pos (show (ap D).status=0 \/ (ap D).status=2 from .inl hs),if_pos (show D.status=0 \/ D.status=2 from .inl hs),List.foldl_append,List.foldl_append]
  rfl
 have hl:bk (ap D)=bk D:=by
  unfold bk
  rw [hf]
  rfl
 refine ⟨⟨h.lt,fun f hm=>?_,h.rc,?_,h.rl,by rw [hl];exact h.lv⟩,hl⟩
 ·have hmem:∀ f,f ∈ az (ap D)->∃ f' ∈ az D,f'.locals=f.locals/\f'.stack=f.stack:=by
   intro f hm
   unfold az at hm ⊢
   rw [if_pos (.inl hs)]
   rw [if_pos (show (ap D).status=0 \/ (ap D).status=2 from .inl hs)] at hm
   rcases List.mem_append.1 hm with q | q
   ·exact ⟨f,List.mem_append_left _ q,rfl,rfl⟩
   ·simp at q;subst q;exact ⟨D.top,by simp,rfl,rfl⟩
  obtain ⟨f',m',e1,e2⟩:=hmem f hm
  have:=h.fr f' m'
  rw [e1,e2] at this
  exact this
 ·have:=h.fl
  unfold az at this ⊢
  rw [if_pos (.inl hs)] at this
  rw [if_pos (show (ap D).status=0 \/ (ap D).status=2 from .inl hs)]
  simpa [ap] using this
theorem mq (h:DI W1 w rb tv fv D V) {c:Cx} {inp:List Int} {x:Int × Int × Int} (ok:tY c inp x D) {b1 b2:Nat} (hT:ai W1 b2 tv c.ls) (hF:aj 93 107 W1 b1 fv c.fs) (iv:Value) (hi1:RdA W1 iv inp) :
 Calls Tryz.prog 34 #[.pointer rb,.agg #[x.1,x.2.1,x.2.2],iv] w fun e w'=>e=.returned (.tuple #[])/\aG W1 w rb tv fv V D.out (aN c inp x D) w':=by
 obtain ⟨op,A,B⟩:=x
 have hi:=hi1.new h.ch
 obtain ⟨ia,ic,rfl⟩:=hi.slice
 obtain ⟨G,lv⟩:=ok.lv
 have hop:=ok.op
 simp only at hop
 have hcase:op=0 \/ op=1 \/ op=2 \/ op=3 \/ op=4 \/ op=5 \/ op=6 \/ op=7 \/ op=8 \/ op=9 \/ op=10 \/ op=11 \/ op=12 \/ op=13 \/ op=14 \/ op=15 \/ op=16 \/ op=17 \/ op=18:=by omega
 have hdi:(ap D).top.stack=D.top.stack:=rfl
 rcases hcase with rfl | rfl | rfl | rfl | rfl | rfl | rfl | rfl | rfl | rfl | rfl | rfl | rfl | rfl | rfl | rfl | rfl | rfl | rfl
 ·have e:aN c inp (0,A,B) D = { ap D with top:=aD (ap D).top (A,false) }:=by simp [aN,cp]
  rw [e];exact rL h ok.st ok.bl ok.pc ok.sl A B ia _ ic
 ·obtain ⟨q1,q2,q3⟩:=ok.n1 (by simp)
  have e:aN c inp (1,A,B) D = { ap D with top:=aD (ax (ax (ap D).top)) (bz 1 (au D.top.stack.dropLast).1 (au D.top.stack).1,false) }:=by simp [aN,cp,hdi]
  rw [e];exact qO h ok.st ok.bl ok.pc ok.sl A B q1 q2 q3 ia _ ic
 ·obtain ⟨q1,q2,q3⟩:=ok.n1 (by simp)
  have e:aN c inp (2,A,B) D = { ap D with top:=aD (ax (ax (ap D).top)) (bz 2 (au D.top.stack.dropLast).1 (au D.top.stack).1,false) }:=by simp [aN,cp,hdi]
  rw [e];exact rH h ok.st ok.bl ok.pc ok.sl A B q1 q2 q3 ia _ ic
 ·obtain ⟨q1,q2,q3⟩:=ok.n1 (by simp)
  have e:aN c inp (3,A,B) D = { ap D with top:=aD (ax (ax (ap D).top)) (bz 3 (au D.top.stack.dropLast).1 (au D.top.stack).1,false) }:=by simp [aN,cp,hdi]
  rw [e];exact rG h ok.st ok.bl ok.pc ok.sl A B q1 q2 q3 ia _ ic
 ·obtain ⟨q1,q2,q3⟩:=ok.n1 (by simp)
  have e:aN c inp (4,A,B) D = { ap D with top:=aD (ax (ax (ap D).top)) (bz 4 (au D.top.stack.dropLast).1 (au D.top.stack).1,false) }:=by simp [aN,cp,hdi]
  rw [e];exact qP h ok.st ok.bl ok.pc ok.sl A B q1 q2 q3 ia _ ic
 ·obtain ⟨a,rfl,ha⟩:=ok.lo (.inl rfl)
  have e:aN c inp (5,(a:Int),B) D = { ap D with top:=aD (ap D).top (D.top.locals.getD a (0,false)) }:=by simp [aN,cp];rfl
  rw [e];exact qW h ok.st ok.bl ok.pc ok.sl a B ha ok.ll ia _ ic
 ·obtain ⟨a,rfl,ha⟩:=ok.lo (.inr rfl)
  have e:aN c inp (6,(a:Int),B) D = { ap D with top:={ ax (ap D).top with locals:=D.top.locals.set a (au D.top.stack) } }:=by simp [aN,cp];rfl
  rw [e];exact rB h ok.st ok.bl ok.pc ok.sl a B ha ok.ll (ok.s1 (by simp)) ia _ ic
 ·obtain ⟨a,rfl,ha,hfl,hk,hk2⟩:=ok.nw rfl
  obtain ⟨li,ll⟩:=lv.inc ok.st
  refine rW h ok.st ok.bl ok.pc ok.sl hT a B ha ok.ls hk2 hk li ok.hp _ ?_ ia _ ic
  simp only at hfl
  simp only [aN,cp,fL,hfl]
  simp [ap]
 ·obtain ⟨b,rfl,hb⟩:=ok.g8 rfl
  refine rM h ok.st ok.bl ok.pc ok.sl A b (ok.s1 (by simp)) ok.rl hb _ ?_ ia _ ic
  simp [aN,cp,fL]
  rfl
 ·obtain ⟨b,rfl,hb⟩:=ok.g9 rfl
  refine rY h ok.st ok.bl ok.pc ok.sl A b (ok.s2 (by simp)) ok.rl hb _ ?_ ia _ ic
  simp [aN,cp,fL]
  rfl
 ·have e:aN c inp (10,A,B) D = { ap D with top:=aD (ap D).top (0,true) }:=by simp [aN,cp,fL]
  rw [e];exact pQ h ok.st ok.bl ok.pc ok.sl A B ia _ ic
 ·exact qb h ok.st ok.bl ok.pc ok.sl A B (ok.s1 (by simp)) _ (by simp [aN,cp,fL,hdi]) ia _ ic
 ·exact nD h ok.st ok.bl ok.pc ok.sl A B (ok.s2 (by simp)) _ (by simp [aN,cp,fL,hdi]) ia _ ic
 ·have e:aN c inp (13,A,B) D = { ap D with top:={ (ap D).top with pc:=A } }:=by simp [aN,cp]
  rw [e];exact pd h ok.st ok.bl ok.pc A B ia _ ic
 ·have e:aN c inp (14,A,B) D = { ap D with top:={ ax (ap D).top with pc:=if (au D.top.stack).1=0 then A else D.top.pc+1 } }:=by simp [aN,cp,hdi];rfl
  rw [e];exact pm h ok.st ok.bl ok.pc ok.sl A B (ok.s1 (by simp)) ia _ ic
 ·obtain ⟨gi,na,hgi,rfl,q1,q2,q3,q4,q5,q6⟩:=ok.ca rfl
  simp only at q5 q6
  refine od h ok.st ok.bl ok.pc ok.sl hF gi B hgi na q1 q2 q3 q4 _ ?_ ia _ ic
  simp [aN,cp,ie,q5,q6]
  rfl
 ·have e:aN c inp (16,A,B) D=dc (ap D):=by simp [aN,cp]
  rw [e];exact pJ h ok.st ok.bl ok.pc ok.sl A B (ok.s1 (by simp)) ok.bs ok.ol ia _ ic
 ·have e:aN c inp (17,A,B) D = { ap D with top:=ax (ap D).top,out:=D.out++[(au D.top.stack).1] }:=by simp [aN,cp];exact ⟨rfl,rfl⟩
  rw [e];exact py h ok.st ok.bl ok.pc ok.sl A B (ok.s1 (by simp)) ok.ol ia _ ic
 ·have e:aN c inp (18,A,B) D = { ap D with top:=aD (ap D).top (inp.getD D.used 0 % 65536,false),used:=D.used+1 }:=by simp [aN,cp];exact ⟨rfl,rfl⟩
  rw [e]
  refine oI h ok.st ok.bl ok.pc ok.sl A B inp ia ic hi (fun g hg=>?_) (ok.rd rfl) ok.ul
  obtain ⟨a,c',hve,_,_,hcc⟩:=hi1.form (by have:=ok.rd rfl;omega)
  simp only [Value.slice.injEq] at hve
  obtain ⟨rfl,_,rfl⟩:=hve
  have hlt:=World.block_lt_of_cell? W1 _ (hcc 0 (by have:=ok.rd rfl;omega))
  have hab:(a.add 0).block=a.block:=by unfold Addr.add;split <;> rfl
  rw [hab] at hlt
  have hgb:a.block=g:=Option.some.inj hg
  have:=h.rn
  exact ⟨by omega,fun q=>by have:=(h.ow.lt q).1;omega⟩
end
end Go.Proofs.YtnfnbcbadakofaaGreat
namespace Go.Proofs.YtnfnbcbadakofaaGreat
open Go.RowKit
section
variable {c:Cx} {D:Dn} {R:Rn} {phi:Nat->Option Nat}
theorem VR.gv {ls:List (List Int)} {ws:List Int} {k:Int} {d:Int × Bool} {v:Int} (h:VR ls ws phi k d v):gv (fun e=>∃ a,phi e=some a) d:=by
 intro h2
 rcases h with ⟨_,q,_⟩ | ⟨_,_,⟨q,_⟩ | ⟨e,a,q,_,p,_⟩⟩
 ·rw [q] at h2;cases h2
 ·exact .inl q
 ·exact .inr ⟨e,q,a,p⟩
theorem VL.gv {ls:List (List Int)} {ws ks:List Int} {ds:List (Int × Bool)} {vs:List Int} (h:VL (VR ls ws phi) ks ds vs):∀ v ∈ ds,gv (fun e=>∃ a,phi e=some a) v:=by
 induction h with
 | nil=>intro v hv;cases hv
 | cons hp _ ih =>
  intro v hv
  rcases List.mem_cons.1 hv with rfl | hv
  ·exact hp.gv
  ·exact ih v hv
theorem Bel.dgv (ok:bM c) {ws:List Int} {ds:List DFr} {gs:List Fr} {f:Int} (hb:Bel c (VR c.ls ws phi) ds gs f):∀ d ∈ ds,(∀ v ∈ d.locals,Go.Proofs.YtnfnbcbadakofaaGreat.gv (fun e=>∃ a,phi e=some a) v)/\(∀ v ∈ d.stack,Go.Proofs.YtnfnbcbadakofaaGreat.gv (fun e=>∃ a,phi e=some a) v)/\d.locals.length<=1000/\d.stack.length<=1000:=by
 induction hb with
 | nil=>intro d hd;cases hd
 | @snoc ds gs f e d g hb w ih =>
  intro d' hd
  rcases List.mem_append.1 hd with hd | hd
  ·exact ih d' hd
  ·simp at hd;subst hd
   obtain ⟨S,hS,hV⟩:=w.stk
   have h8:=ok.s8 _ _ _ hS
   have l1:=w.loc.len.1
   have l2:=hV.len.1
   have l3:=(cj ok w.f0 w.fl).l8
   rw [List.length_append] at h8
   exact ⟨w.loc.gv,hV.gv,by omega,by omega⟩
theorem Sm.lvok (ok:bM c) (h:Sm c D R phi) (hs:D.status=0 \/ D.status=2) (rl:D.recs.length<=1000000000000):i9 D (fun e=>∃ a,phi e=some a):=by
 obtain ⟨f,hb,ht⟩:=h.fr
 obtain ⟨S,hS,hV⟩:=ht.stk
 have hbl:=h.bl
 have hd:=h.d64
 have hbn:=hb.len
 refine ⟨fun e ⟨a,q⟩=>(h.mem.dom e a q).1,fun g hg=>?_,fun e ⟨a,q⟩=>?_,?_,rl,?_⟩
 ·unfold az at hg
  rw [if_pos hs] at hg
  rcases List.mem_append.1 hg with hg | hg
  ·exact hb.dgv ok g hg
  ·simp at hg;subst hg
   have h8:=ok.s8 _ _ _ hS
   have l1:=ht.loc.len.1
   have l2:=hV.len.1
   have l3:=(cj ok ht.f0 ht.fl).l8
   exact ⟨ht.loc.gv,hV.gv,by omega,by omega⟩
 ·obtain ⟨_,t,_,hv⟩:=h.mem.dom e a q
  have l:=hv.len.1
  have:=fm (ls:=c.ls) (fun l hl=>(ok.pg.tf l hl).1) t
  exact ⟨hv.gv,by omega⟩
 ·unfold az;rw [if_pos hs,List.length_append,List.length_singleton];omega
 ·obtain ⟨⟨phi',sm'⟩,lv,_,_⟩:=gR h hs
  have:=sm'.len
  have:=sm'.h4
  rw [lv]
  omega
theorem Cu.stok (ok:bM c) {f:Int} {x:Int × Int × Int} {rest:List Int} (h:Cu c D R phi f x rest) {inp:List Int} (st:D.status=0) (rd:x.1=18->D.used < inp.length) (ol:D.out.length<=100000) (ul:D.used<=100000) (rl:D.recs.length<=1000000000000):tY c inp x D:=by
 have lv:=h.sm.lvok ok (.inl st) rl
 have hbl:=h.sm.bl
 have hd:=h.sm.d64
 have hbn:=h.bel.len
 have hio:=h.iok
 have hs8:=ok.s8 _ _ _ h.spt
 have hsl:=h.stk.len.1
 have hll:=h.tp.loc.len.1
 have hl8:=h.fok.l8
 have hpc:=h.tp.pc
 have hp0:=h.tp.p0
 have hpl:=h.tp.pl
 have hc64:=h.fok.c64
 obtain ⟨op,A,B⟩:=x
 have hlen:(rest++ak c.ls c.fs (aq c.fs f) op A B).length=D.top.stack.length:=hsl.symm
 refine ⟨st,by omega,by omega,by omega,fun g hg=>(h.bel.dgv ok g hg).2.2.2,⟨hio.1.1,hio.1.2⟩,⟨by omega,by omega⟩,fun q=>?_,fun q=>?_,fun q=>?_,fun q=>?_,fun q=>?_,fun q=>?_,fun q=>?_,fun q=>?_,rd,ol,ul,?_,?_,rl,⟨_,lv⟩⟩
 ·simp only at q
  have e:ak c.ls c.fs (aq c.fs f) op A B=[0]++[0]:=by unfold ak;rw [if_pos q];rfl
  have hs:=h.stk
  simp only [e] at hs hlen
  rw [<-List.append_assoc] at hs
  obtain ⟨h1,v1⟩:=hs.snoc
  obtain ⟨h2,v2⟩:=h1.snoc
  obtain ⟨a1,a2,a3⟩:=v1.num
  obtain ⟨c1,c2,c3⟩:=v2.num
  rw [List.length_append] at hlen
  refine ⟨by simp only [List.length_append,List.length_cons,List.length_nil] at hlen;omega,⟨?_,?_⟩,?_,?_⟩
  ·rw [c1];exact c2
  ·rw [c1];exact c3
  ·rw [a1];exact a2
  ·rw [a1];exact a3
 ·simp only at q
  have e:0 < (ak c.ls c.fs (aq c.fs f) op A B).length:=by
   rcases q with rfl | rfl | rfl | rfl | rfl | rfl <;> simp [ak]
  rw [List.length_append] at hlen
  omega
 ·simp only at q
  have e:(ak c.ls c.fs (aq c.fs f) op A B).length=2:=by
   rcases q with rfl | rfl <;> simp [ak]
  rw [List.length_append] at hlen
  omega
 ·simp only at q
  simp only [cH,bA] at hio
  have:=hio.2.1
  have hA:0<=A/\A < ((aq c.fs f).locals.length:Int):=by
   rcases q with rfl | rfl <;> simp at this <;> omega
  exact ⟨A.toNat,by simp only;omega,by omega⟩
 ·simp only at q
  subst q
  simp only [cH,bA] at hio
  have hA:=hio.2.1
  simp at hA
  have hf:flds c.ls A=c.ls.getD (A.toNat - 1) []:=by unfold flds;rw [if_neg (by omega)];congr 1;omega
  have e:ak c.ls c.fs (aq c.fs f) 7 A B=flds c.ls A:=by simp [ak]
  have h5:=fm (ls:=c.ls) (fun l hl=>(ok.pg.tf l hl).1) A
  rw [e,List.length_append] at hlen
  refine ⟨A.toNat - 1,by simp only;omega,by omega,hf,?_,?_⟩
  ·rw [<-hf];omega
  ·rw [<-hf];omega
 ·simp only at q
  subst q
  simp only [cH,gB] at hio
  have hB0:0<=B:=hio.2.2.1
  have hB1:B < ((flds c.ls A).length:Int):=by have:=hio.2.2.2;simp at this;omega
  have hA1:1<=A:=fK (ls:=c.ls) (by omega)
  have e:ak c.ls c.fs (aq c.fs f) 8 A B=[A]:=by simp [ak]
  have hs:=h.stk
  simp only [e] at hs
  obtain ⟨h1,v1⟩:=hs.snoc
  refine ⟨B.toNat,by simp only;omega,?_⟩
  obtain ⟨_,hz | ⟨d,a,q1,q2,q3,q4⟩⟩:=v1.ref (by omega)
  ·exact .inl hz.1
  ·refine .inr ⟨d,q1,?_⟩
   obtain ⟨m1,t,m2,m3⟩:=h.sm.mem.dom d a q3
   have:=m2.uniq q4
   subst this
   have l:=m3.len.1
   have h5:=fm (ls:=c.ls) (fun l hl=>(ok.pg.tf l hl).1) t
   exact ⟨m1,by omega,by omega⟩
 ·simp only at q
  subst q
  simp only [cH,gB] at hio
  have hB0:0<=B:=hio.2.2.1
  have hB1:B < ((flds c.ls A).length:Int):=by have:=hio.2.2.2;simp at this;omega
  have hA1:1<=A:=fK (ls:=c.ls) (by omega)
  have e:ak c.ls c.fs (aq c.fs f) 9 A B=[A]++[aU (flds c.ls A) B]:=by simp [ak]
  have hs:=h.stk
  simp only [e] at hs
  rw [<-List.append_assoc] at hs
  obtain ⟨h1,_⟩:=hs.snoc
  obtain ⟨h2,v1⟩:=h1.snoc
  refine ⟨B.toNat,by simp only;omega,?_⟩
  obtain ⟨_,hz | ⟨d,a,q1,q2,q3,q4⟩⟩:=v1.ref (by omega)
  ·exact .inl hz.1
  ·refine .inr ⟨d,q1,?_⟩
   obtain ⟨m1,t,m2,m3⟩:=h.sm.mem.dom d a q3
   have:=m2.uniq q4
   subst this
   have l:=m3.len.1
   have h5:=fm (ls:=c.ls) (fun l hl=>(ok.pg.tf l hl).1) t
   exact ⟨m1,by omega,by omega⟩
 ·simp only at q
  subst q
  simp only [cH,bA] at hio
  have hA:=hio.2.1
  simp at hA
  have hA0:0<=A:=hA.1
  have hA1:A < (c.fs.length:Int):=by omega
  have fk:=cj ok hA0 hA1
  obtain ⟨a1,a2⟩:=jP ok hA0 hA1
  have e:ak c.ls c.fs (aq c.fs f) 15 A B=aP c.fs A:=by simp [ak]
  rw [e,List.length_append] at hlen
  have hfn:aq c.fs A=c.fs[A.toNat]'(by omega):=by unfold aq;rw [dif_pos ⟨hA0,by omega⟩]
  have w1:=fk.a0
  have w2:=fk.al
  have w3:=fk.l8
  rw [hfn] at a2 w1 w2 w3
  exact ⟨A.toNat,(c.fs[A.toNat]'(by omega)).args.toNat,by omega,by simp only;omega,by omega,by omega,by omega,by omega,a2,hfn⟩
 ·have:=ok.pg.t6;simp only at this;omega
 ·rw [h.sm.heap];exact ⟨h.sm.h0,h.sm.h4⟩
end
end Go.Proofs.YtnfnbcbadakofaaGreat
namespace Go.Proofs.YtnfnbcbadakofaaGreat
open Go.RowKit
def kI (w:World) (s:ByteArray) (O:Int × Int × Pg × List aC) (h d:Int) (e:Ending) (w':World):Prop:=
 ∃ a n c pv,e=.returned (.tuple #[.slice a n c,pv,.bool true])/\Chg () w w'/\(O.1 ≠ 0 \/ eO h d->pv=.pointer none) /\
  (O.1=0->¬ eO h d->∃ w3 tv fv l,Chg () w w3/\ad w3 w.heap.size (.slice a n c) (dW s O.2.2.1.funcs h d)/\ai w3 w.heap.size tv O.2.2.1.types/\aj 93 107 w3 w.heap.size fv O.2.2.1.funcs/\l=(aq O.2.2.1.funcs 0).locals/\jA w3 tv fv h d l (.returned pv) w')
set_option maxHeartbeats 2000000 in
set_option maxRecDepth 100000 in
theorem jq (s:ByteArray) (h d:Int) (w:World) (O:Int × Int × Pg × List aC) (hst:∀ w,Calls Tryz.prog 10 #[.string s,h,d] w (fH w s O h d))
 (hrc:∀ w,Calls Tryz.prog 11 #[.string s] w fun e w'=>∃ tv fv,e=.returned (.tuple #[.agg #[tv,fv],O.1,O.2.1])/\ai w' w.heap.size tv O.2.2.1.types/\aj 93 107 w' w.heap.size fv O.2.2.1.funcs/\Chg () w w')
 (hs:O.1=0->s.size<=800/\0 < O.2.2.1.funcs.length/\(aq O.2.2.1.funcs 0).locals.length<=8) :
 Calls Tryz.prog 4 #[.string s,h,d] w (kI w s O h d):=by
 have HST:=hid hst
 have HRC:=hid hrc
 have HS:=hid hs
 clear hst hrc hs
 go_enter Tryz.func4,Tryz.ntmps4
 go_wp2_with fail
 refine (HST.out _).mono ?_
 rintro e w1 ⟨a,n,c,er,pl,rfl,hch1,i1,i2,i3⟩
 have I1:Hid _:=i1
 have I2:Hid _:=i2
 have I3:Hid _:=i3
 clear i1 i2 i3
 go_wp2_with fail
 refine (HRC.out _).mono ?_
 rintro e w2 ⟨tv,fv,rfl,hty,hfv,hch2⟩
 obtain ⟨ta,tc,rfl⟩:=hty.slice
 obtain ⟨fa,fc,rfl⟩:=hfv.slice
 clear HST HRC
 have kp:Chg () w2 (w2.alloc (Obj.cells #[.slice ta O.2.2.1.types.length tc,.slice fa O.2.2.1.funcs.length fc] 43)):=(Chg.refl _ w2).alloc _
 have kT:=(hch1.trans hch2).trans kp
 have e47:=fun wx:World=>Lib.run_eql_slice_nil (P:=Tryz.prog) wx 23 3 none 0 0 0 0 Tryz.underlying23
 by_cases hz:O.1=0
 ·have hz':(O.1 != 0)=false:=by simp [hz]
  have HZ:=hid hz
  obtain ⟨hs8,hf1,hl8⟩:=HS.out hz
  by_cases hb:eO h d
  ·obtain ⟨rfl,rfl,hn⟩:=I2.out hz hb
   simp only [Value.slice.injEq] at hn
   obtain ⟨rfl,rfl,rfl⟩:=hn
   have HB:=hid hb
   clear hz hb I1 I2 I3 hty hfv
   by_cases h1:h < 0
   ·go_wp2_with (go_at_call 8;refine (cX _ _).mono ?_;rintro e w3 ⟨rfl,rfl⟩)
    exact bodyPost_ret (v:=.tuple #[(),.pointer none,.bool true]) (by simp [results,Tryz.results4,go_sem]) rfl ⟨_,_,_,_,rfl,kT,fun _=>rfl,fun _ e=>absurd HB.out e⟩
   by_cases h2:4000 < h
   ·go_wp2_with (go_at_call 8;refine (cX _ _).mono ?_;rintro e w3 ⟨rfl,rfl⟩)
    exact bodyPost_ret (v:=.tuple #[(),.pointer none,.bool true]) (by simp [results,Tryz.results4,go_sem]) rfl ⟨_,_,_,_,rfl,kT,fun _=>rfl,fun _ e=>absurd HB.out e⟩
   by_cases h3:d < 1
   ·go_wp2_with (go_at_call 8;refine (cX _ _).mono ?_;rintro e w3 ⟨rfl,rfl⟩)
    exact bodyPost_ret (v:=.tuple #[(),.pointer none,.bool true]) (by simp [results,Tryz.results4,go_sem]) rfl ⟨_,_,_,_,rfl,kT,fun _=>rfl,fun _ e=>absurd HB.out e⟩
   have h4:64 < d:=by rcases HB.out with e | e | e | e <;> first | contradiction | exact e
   go_wp2_with (go_at_call 8;refine (cX _ _).mono ?_;rintro e w3 ⟨rfl,rfl⟩)
   exact bodyPost_ret (v:=.tuple #[(),.pointer none,.bool true]) (by simp [results,Tryz.results4,go_sem]) rfl ⟨_,_,_,_,rfl,kT,fun _=>rfl,fun _ e=>absurd HB.out e⟩
  ·obtain ⟨rfl,rfl,hI⟩:=I3.out hz hb
   obtain ⟨sm1,sm2⟩:=jr (fs:=O.2.2.1.funcs) hs8 hb hl8
   have h1:¬ h < 0:=fun e=>hb (.inl e)
   have h2:¬ 4000 < h:=fun e=>hb (.inr (.inl e))
   have h3:¬ d < 1:=fun e=>hb (.inr (.inr (.inl e)))
   have h4:¬ 64 < d:=fun e=>hb (.inr (.inr (.inr e)))
   have HB:=hid hb
   have HSM1:Hid _:=sm1
   have HSM2:Hid _:=sm2
   have hfn:aq O.2.2.1.funcs 0=O.2.2.1.funcs[0]:=by unfold aq;rw [dif_pos ⟨by omega,by simpa using hf1⟩];rfl
   have hl0:O.2.2.1.funcs[0].locals.length<=10000:=by rw [<-hfn];omega
   have HFN:=hid hfn
   have hI2:=ad.chg hI (hch2.trans kp) (fun _ _ _ e=>e)
   have hty2:=hty.new kp
   have hfv2:=hfv.chg kp (fun _ _ _ e=>e) (fun _ _ _ e=>e) (fun _ _ _ e=>e)
   have hs1:=hch1.size
   have hs2:=hch2.size
   clear hz hb I1 I2 I3 hty hfv sm1 sm2 hfn hI hch1 hch2 kp
   go_wp2_with fail
   refine (kP ta fa _ tc fc h d O.2.2.1.funcs _ w1.heap.size hfv2 hf1 hl0).mono ?_
   rintro e w3 ⟨rb,frv,bv,rfl,q1,q2,q3,q4,k3⟩
   have HRB:Hid (jA _ _ _ h d O.2.2.1.funcs[0].locals (.returned (.pointer rb)) w3):=⟨rb,frv,bv,rfl,q1,q2,q3,q4,k3⟩
   have hI3:=ad.chg hI2 k3 (fun _ _ _ e=>e)
   have HI2:=hid hI2
   have HT2:=hid hty2
   have HF2:=hid hfv2
   have KT2:=hid kT
   have kT3:=kT.trans k3
   have HI3:=hid hI3
   clear q1 q2 q3 q4 k3 hI2 hty2 hfv2 kT hI3
   generalize w2.alloc (Obj.cells #[.slice ta O.2.2.1.types.length tc,.slice fa O.2.2.1.funcs.length fc] 43)=w2' at *
   go_wp2_with fail
   refine (eZ _ (dW s O.2.2.1.funcs h d) h d _ w.heap.size HI3.out (by omega) (by omega) HSM1.out HSM2.out).mono ?_
   rintro e w4 ⟨rfl,rfl⟩
   go_wp2_with (go_at_call 8;refine (cX _ _).mono ?_;rintro e w5 ⟨rfl,rfl⟩)
   refine bodyPost_ret (v:=.tuple #[.slice a n c,.pointer rb,.bool true]) (by simp [results,Tryz.results4,go_sem]) rfl ⟨_,_,_,_,rfl,kT3,fun e=>?_,fun _ _=>⟨w2',_,_,_,KT2.out,HI2.out,HT2.out.mono hs1,HF2.out.mono hs1,by rw [HFN.out],HRB.out⟩⟩
   rcases e with e | e
   ·exact absurd HZ.out e
   ·exact absurd e HB.out
 ·have hz':(O.1 != 0)=true:=by simp [hz]
  have e1:(O.1 == O.1)=true:=by simp
  have e2:(O.2.1 == O.2.1)=true:=by simp
  obtain ⟨rfl,rfl,hn⟩:=I1.out hz
  simp only [Value.slice.injEq] at hn
  obtain ⟨rfl,rfl,rfl⟩:=hn
  have HZ:=hid hz
  clear hz I1 I2 I3 hty hfv
  go_wp2_with (go_at_call 8;refine (cX _ _).mono ?_;rintro e w3 ⟨rfl,rfl⟩)
  exact bodyPost_ret (v:=.tuple #[(),.pointer none,.bool true]) (by simp [results,Tryz.results4,go_sem]) rfl ⟨_,_,_,_,rfl,kT,fun _=>rfl,fun e=>absurd e HZ.out⟩
theorem km (s:ByteArray) (h d:Int) (w:World):Calls Tryz.prog 4 #[.string s,h,d] w (kI w s (opF s) h d):=
 jq s h d w (opF s) (fun w=>mt s h d w) (fun w=>kL s w) (fun hz=>⟨cQ hz,jQ hz⟩)
theorem DI.begun {c:Cx} {w3 w':World} {tv fv pv:Value} {h d:Int} {l:List Int} (hl:l=(aq c.fs 0).locals) (r:jA w3 tv fv h d l (.returned pv) w'):∃ rb V,pv=.pointer (some ⟨rb,0,none⟩)/\DI w3 w' rb tv fv (stD c h d) V:=by
 obtain ⟨rb,frv,bv,e,hb,ho,hv,hn,k⟩:=r
 refine ⟨rb,⟨frv,.slice none 0 0,.slice none 0 0,[((stD c h d).top,bv,.slice none 0 0)],[]⟩,by injection e,k,hb,hn,⟨?_,?_⟩,rfl,rfl⟩
 ·intro r hr
  simp only [aw,fsr,rsr,List.flatMap_cons,List.flatMap_nil,List.append_nil,List.map_nil,List.mem_cons,List.not_mem_nil,or_false] at hr
  rcases hr with rfl | rfl | rfl | rfl | rfl
  ·exact ho
  ·exact World.ownsRow_nil _ _ _ _
  ·exact World.ownsRow_nil _ _ _ _
  ·subst hl;exact hv
  ·exact World.ownsRow_nil _ _ _ _
 ·have hs:Sep frv bv:=fun g h1 h2=>by
   obtain ⟨cs,q⟩:=ay ho h1
   exact ao hv q (by decide) h2
  simp only [aw,fsr,rsr,List.flatMap_cons,List.flatMap_nil,List.append_nil,List.map_nil,List.pairwise_cons,List.mem_cons,List.not_mem_nil,or_false]
  refine ⟨?_,?_,?_,?_,fun _ q=>q.elim,List.Pairwise.nil⟩
  ·rintro r (rfl | rfl | rfl | rfl)
   ·exact Sep.nil _
   ·exact Sep.nil _
   ·exact hs
   ·exact Sep.nil _
  ·rintro r (rfl | rfl | rfl)
   ·exact Sep.nil _
   ·exact (Sep.nil _).symm
   ·exact Sep.nil _
  ·rintro r (rfl | rfl)
   ·exact (Sep.nil _).symm
   ·exact Sep.nil _
  ·rintro r rfl
   exact Sep.nil _
end Go.Proofs.YtnfnbcbadakofaaGreat
