import Derived.Test.YtnfnbcbadakofabClr
import Derived.Test.YtnfnbcbadakofabCla
namespace Go.Proofs.Ytnfnbcbadakofab
open Go.RowKit
theorem vl_mono {P Q:Int->Int × Bool->Int->Prop} {ks:List Int} {ds:List (Int × Bool)} {vs:List Int} (h:VL P ks ds vs) (hm:∀ k d v,P k d v->Q k d v):VL Q ks ds vs:=h.mono hm
section
variable {ls:List (List Int)} {recs:List (List (Int × Bool))} {ws:List Int} {phi:Nat->Option Nat}
theorem VN.pre {L L':List Nat} (hL:∃ M,L'=L++M) {kind:Int} {d:Int × Bool} {v:Int} (h:VN ls recs ws phi L kind d v):VN ls recs ws phi L' kind d v:=by
 obtain ⟨M,rfl⟩:=hL;exact h.app M
theorem pre_trans {L L' L'':List Nat} (h:∃ M,L'=L++M) (h':∃ M,L''=L'++M):∃ M,L''=L++M:=by
 obtain ⟨M,rfl⟩:=h;obtain ⟨M',rfl⟩:=h';exact ⟨M++M',by simp⟩
theorem mvL_lock (hm:Mm ls recs ws phi) {k:Nat} {ks:List Int} {ds:List (Int × Bool)} {vs:List Int} (hv:VL (VR ls ws phi) ks ds vs):∀ (pre post:List Int) {mk:Mk} {mv:Mv},Lk ls recs ws phi k mk mv ->
 Lk ls recs ws phi k (mkA mk ds) (mvL ls ws (pre++ks++post) pre.length vs mv).2/\VL (VN ls recs ws phi (mkA mk ds).list) ks ds (mvL ls ws (pre++ks++post) pre.length vs mv).1/\∃ M,(mkA mk ds).list=mk.list++M:=by
 induction hv with
 | nil=>intro pre post mk mv h;exact ⟨h,.nil,[],by simp [mkA]⟩
 | @cons kd d v ks ds vs hp hr ih =>
  intro pre post mk mv h
  have ek:tyAt (pre++kd::ks++post) (pre.length:Int)=kd:=by
   rw [tyAt_get (by omega) (by simp;omega)];simp
  obtain ⟨l1,l2,l3,_⟩:=mv1_lock hm h hp
  have hih:=ih (pre++[kd]) post l1
  have e1:pre++[kd]++ks++post=pre++kd::ks++post:=by simp
  have e2:(pre++[kd]).length=pre.length+1:=by simp
  rw [e1,e2] at hih
  simp only [mvL,ek]
  have e3:mkA mk (d::ds)=mkA (mkV mk d) ds:=rfl
  rw [e3]
  exact ⟨hih.1,.cons (l2.pre hih.2.2) hih.2.1,pre_trans l3 hih.2.2⟩
variable {c:Cx}
structure FrT (c:Cx) (P:Int->Int × Bool->Int->Prop) (d:DFr) (g:Fr):Prop where
 loc:VL P (fnAt c.fs g.fn).locals d.locals g.locals
 stk:∃ S post,skP c.sps g.fn g.pc=S++post/\VL P S d.stack g.stack
theorem mvFr_lock (hm:Mm c.ls recs ws phi) {k:Nat} {d:DFr} {g:Fr} (hf:FrT c (VR c.ls ws phi) d g) {mk:Mk} {mv:Mv} (h:Lk c.ls recs ws phi k mk mv) :
 Lk c.ls recs ws phi k (mkF mk d) (mvFr c ws g mv).2/\VL (VN c.ls recs ws phi (mkF mk d).list) (fnAt c.fs g.fn).locals d.locals (mvFr c ws g mv).1.locals/\(∀ S post,skP c.sps g.fn g.pc=S++post->VL (VR c.ls ws phi) S d.stack g.stack->VL (VN c.ls recs ws phi (mkF mk d).list) S d.stack (mvFr c ws g mv).1.stack)/\∃ M,(mkF mk d).list=mk.list++M:=by
 have h1:=mvL_lock hm hf.loc [] [] h
 simp only [List.nil_append,List.append_nil,List.length_nil] at h1
 obtain ⟨S,post,hS,hV⟩:=hf.stk
 have h2:=mvL_lock hm hV [] post h1.1
 simp only [List.nil_append,List.length_nil] at h2
 rw [<-hS] at h2
 refine ⟨h2.1,vl_mono h1.2.1 (fun _ _ _ x=>x.pre h2.2.2),?_,pre_trans h1.2.2 h2.2.2⟩
 intro S' post' hS' hV'
 have h3:=mvL_lock hm hV' [] post' h1.1
 simp only [List.nil_append,List.length_nil] at h3
 rw [<-hS'] at h3
 exact h3.2.1
theorem Wt.frt {P:Int->Int × Bool->Int->Prop} {f h:Int} {d:DFr} {g:Fr} (w:Wt c P f h d g):FrT c P d g:=by
 obtain ⟨S,hS,hV⟩:=w.stk
 exact ⟨by rw [w.fn];exact w.loc,S,argsF c.fs h,by unfold skP;rw [w.fn,hS];rfl,hV⟩
theorem Tp.frt {P:Int->Int × Bool->Int->Prop} {f:Int} {d:DFr} {g:Fr} (w:Tp c P f d g):FrT c P d g:=by
 obtain ⟨S,hS,hV⟩:=w.stk
 exact ⟨by rw [w.fn];exact w.loc,S,[],by unfold skP;rw [w.fn,hS];simp,hV⟩
theorem Wt.moved (hm:Mm c.ls recs ws phi) {k:Nat} {f h:Int} {d:DFr} {g:Fr} (w:Wt c (VR c.ls ws phi) f h d g) {mk:Mk} {mv:Mv} (hl:Lk c.ls recs ws phi k mk mv) :
 Lk c.ls recs ws phi k (mkF mk d) (mvFr c ws g mv).2/\Wt c (VN c.ls recs ws phi (mkF mk d).list) f h d (mvFr c ws g mv).1/\∃ M,(mkF mk d).list=mk.list++M:=by
 obtain ⟨a,b,e,x⟩:=mvFr_lock hm w.frt hl
 obtain ⟨S,hS,hV⟩:=w.stk
 refine ⟨a,⟨w.fn,w.dfn,w.f0,w.fl,w.pc,w.p0,w.pl,w.op,w.tgt,?_,S,hS,?_⟩,x⟩
 ·rw [w.fn] at b;exact b
 ·exact e S (argsF c.fs h) (by unfold skP;rw [w.fn,hS];rfl) hV
theorem Tp.moved (hm:Mm c.ls recs ws phi) {k:Nat} {f:Int} {d:DFr} {g:Fr} (w:Tp c (VR c.ls ws phi) f d g) {mk:Mk} {mv:Mv} (hl:Lk c.ls recs ws phi k mk mv) :
 Lk c.ls recs ws phi k (mkF mk d) (mvFr c ws g mv).2/\Tp c (VN c.ls recs ws phi (mkF mk d).list) f d (mvFr c ws g mv).1/\∃ M,(mkF mk d).list=mk.list++M:=by
 obtain ⟨a,b,e,x⟩:=mvFr_lock hm w.frt hl
 obtain ⟨S,hS,hV⟩:=w.stk
 refine ⟨a,⟨w.fn,w.dfn,w.f0,w.fl,w.pc,w.p0,w.pl,?_,S,hS,?_⟩,x⟩
 ·rw [w.fn] at b;exact b
 ·exact e S [] (by unfold skP;rw [w.fn,hS];simp) hV
theorem mvFrs_app (frm:List Int) (gs gs':List Fr):∀ m,mvFrs c frm (gs++gs') m=((mvFrs c frm gs m).1++(mvFrs c frm gs' (mvFrs c frm gs m).2).1,(mvFrs c frm gs' (mvFrs c frm gs m).2).2):=by
 induction gs with
 | nil=>intro m;simp [mvFrs]
 | cons g gs ih=>intro m;simp [mvFrs,ih]
theorem mvFrs_len (frm:List Int) (gs:List Fr):∀ m,(mvFrs c frm gs m).1.length=gs.length:=by
 induction gs with
 | nil=>intro m;simp [mvFrs]
 | cons g gs ih=>intro m;simp [mvFrs,ih]
theorem Bel.moved (hm:Mm c.ls recs ws phi) {k:Nat} {ds:List DFr} {gs:List Fr} {f:Int} (hb:Bel c (VR c.ls ws phi) ds gs f) {mk:Mk} {mv:Mv} (hl:Lk c.ls recs ws phi k mk mv) :
 Lk c.ls recs ws phi k (mkFs mk ds) (mvFrs c ws gs mv).2/\Bel c (VN c.ls recs ws phi (mkFs mk ds).list) ds (mvFrs c ws gs mv).1 f/\∃ M,(mkFs mk ds).list=mk.list++M:=by
 induction hb with
 | nil=>exact ⟨hl,.nil,[],by simp [mkFs]⟩
 | @snoc ds gs f h d g hb hw ih =>
  obtain ⟨a,b,e⟩:=ih
  obtain ⟨a',b',e'⟩:=hw.moved hm a
  have e1:mkFs mk (ds++[d])=mkF (mkFs mk ds) d:=by simp [mkFs]
  have e2:mvFrs c ws (gs++[g]) mv=((mvFrs c ws gs mv).1++[(mvFr c ws g (mvFrs c ws gs mv).2).1],(mvFr c ws g (mvFrs c ws gs mv).2).2):=by
   rw [mvFrs_app];simp [mvFrs]
  rw [e1,e2]
  exact ⟨a',.snoc (b.mono (fun _ _ _ x=>x.pre e')) b',pre_trans e e'⟩
theorem fld_lock (hm:Mm ls recs ws phi) {d o a:Nat} {t:Int} (hp:phi d=some a) (hs:St ls ws a t) {j:Nat} (hj:j < (flds ls t).length) {mk:Mk} {mv:Mv} (h:Lk ls recs ws phi (o+1+j) mk mv) (ho:offO recs mk.list d=some o) :
 Lk ls recs ws phi (o+1+j+1) (mkV mk ((recs.getD d []).getD j (0,false)))
  ⟨(mv1 ls ws ((flds ls t).getD j 0) (mv.to.getD (o+1+j) 0) mv).2.to.set (o+1+j) (mv1 ls ws ((flds ls t).getD j 0) (mv.to.getD (o+1+j) 0) mv).1,(mv1 ls ws ((flds ls t).getD j 0) (mv.to.getD (o+1+j) 0) mv).2.refs⟩ /\
 offO recs (mkV mk ((recs.getD d []).getD j (0,false))).list d=some o/\∃ M,(mkV mk ((recs.getD d []).getD j (0,false))).list=mk.list++M:=by
 obtain ⟨_,t',s',hv⟩:=hm.dom d a hp
 have:=hs.uniq s'
 subst this
 have hvr:=hv.get (i:=j) hj
 rw [seg_get hj] at hvr
 have hold:=((h.con d o a t ho hp hs).2 j hj).2 (Nat.le_refl _)
 rw [<-hold] at hvr
 obtain ⟨l1,l2,l3,T,l4⟩:=mv1_lock hm h hvr
 have hol:=off_lt ho
 have hsz:=hm.size hp hs
 have htl:=h.tl
 generalize mv1 ls ws ((flds ls t).getD j 0) (mv.to.getD (o+1+j) 0) mv=r at *
 generalize hmk:mkV mk ((recs.getD d []).getD j (0,false))=mk' at *
 have hod:offO recs mk'.list d=some o:=by obtain ⟨M,e⟩:=l3;rw [e];exact off_app ho M
 have hlt:o+1+j < r.2.to.length:=by rw [l4,List.length_append];omega
 refine ⟨⟨l1.sl,l1.seen,l1.sc,l1.dom,l1.nd,l1.rl,l1.refs,by simpa using l1.tl,by simpa using l1.ms,by simp;omega,?_⟩,hod,l3⟩
 intro d' o' a' t' ho' hp' hs'
 obtain ⟨c1,c2⟩:=l1.con d' o' a' t' ho' hp' hs'
 have hsz':=hm.size hp' hs'
 have hposn:∀ i,i < (flds ls t').length->o'+1+i=o+1+j->d'=d/\i=j:=by
  intro i hi he
  rcases Nat.decEq d' d with hne | hq
  ·rcases off_apart ho' hod hne with q | q <;> omega
  ·subst hq
   rw [hod] at ho';simp at ho';exact ⟨rfl,by omega⟩
 have hpos0:o' ≠ o+1+j:=by
  intro he
  rcases Nat.decEq d' d with hne | hq
  ·rcases off_apart ho' hod hne with q | q <;> omega
  ·subst hq
   rw [hod] at ho';simp at ho';omega
 refine ⟨?_,fun i hi=>⟨fun hk=>?_,fun hk=>?_⟩⟩
 ·show (r.2.to.set (o+1+j) r.1).getD o' 0=t'
  rw [getD_set_ne (fun x=>hpos0 x.symm)];exact c1
 ·show VN _ _ _ _ _ _ _ ((r.2.to.set (o+1+j) r.1).getD (o'+1+i) 0)
  by_cases he:o'+1+i=o+1+j
  ·obtain ⟨q1,q2⟩:=hposn i hi he
   subst q1;subst q2
   rw [hp] at hp';simp at hp';subst hp'
   have:=hs.uniq hs'
   subst this
   rw [he,getD_set_self hlt]
   exact l2
  ·rw [getD_set_ne (fun x=>he x.symm)]
   exact (c2 i hi).1 (by omega)
 ·show (r.2.to.set (o+1+j) r.1).getD (o'+1+i) 0=_
  rw [getD_set_ne (by omega)]
  exact (c2 i hi).2 (by omega)
theorem set_self_getD {l:List Int} {i:Nat}:l.set i (l.getD i 0)=l:=by
 apply List.ext_getElem?
 intro j
 by_cases h:i=j
 ·subst h
  by_cases hi:i < l.length
  ·rw [List.getElem?_set_self hi,List.getD_eq_getElem?_getD,List.getElem?_eq_getElem hi];rfl
  ·rw [List.getElem?_eq_none (by simp;omega),List.getElem?_eq_none (by omega)]
 ·rw [List.getElem?_set_ne h]
theorem mvW_fld {n k:Nat} {kinds:List Int} {r:Nat} {mv:Mv} (hk:k < mv.to.length) {kind:Int} (hkd:tyAt kinds ((kinds.length:Int) - ((r+1:Nat):Int))=kind) :
 mvW ls ws (n+1) k kinds (r+1) mv=mvW ls ws n (k+1) kinds r ⟨(mv1 ls ws kind (mv.to.getD k 0) mv).2.to.set k (mv1 ls ws kind (mv.to.getD k 0) mv).1,(mv1 ls ws kind (mv.to.getD k 0) mv).2.refs⟩:=by
 rw [mvW]
 rw [if_pos hk,if_neg (by omega),hkd]
 unfold mv1
 by_cases h:kind ≠ 0
 ·rw [if_pos h,if_pos h];rfl
 ·rw [if_neg h,if_neg h];simp only [set_self_getD];rfl
theorem flds_lock (hm:Mm ls recs ws phi) {d o a:Nat} {t:Int} (hp:phi d=some a) (hs:St ls ws a t):∀ (r j n:Nat) {mk:Mk} {mv:Mv},j+r=(flds ls t).length->Lk ls recs ws phi (o+1+j) mk mv->offO recs mk.list d=some o ->
 ∃ mv',mvW ls ws (n+r) (o+1+j) (flds ls t) r mv=mvW ls ws n (o+1+(flds ls t).length) (flds ls t) 0 mv'/\Lk ls recs ws phi (o+1+(flds ls t).length) (mkA mk ((recs.getD d []).drop j)) mv'/\∃ M,(mkA mk ((recs.getD d []).drop j)).list=mk.list++M:=by
 intro r
 induction r with
 | zero =>
  intro j n mk mv hj h ho
  have hdl:(recs.getD d []).drop j=[]:=by
   have:=hm.size hp hs
   unfold sz at this
   exact List.drop_eq_nil_of_le (by omega)
  rw [hdl]
  have:j=(flds ls t).length:=by omega
  subst this
  exact ⟨mv,rfl,h,[],by simp [mkA]⟩
 | succ r ih =>
  intro j n mk mv hj h ho
  have hjl:j < (flds ls t).length:=by omega
  have hsz:=hm.size hp hs
  have hol:=off_lt ho
  have htl:=h.tl
  have hkd:tyAt (flds ls t) (((flds ls t).length:Int) - ((r+1:Nat):Int))=(flds ls t).getD j 0:=by
   rw [tyAt_get (by omega) (by omega)];congr 1;omega
  obtain ⟨l1,l2,l3⟩:=fld_lock hm hp hs hjl h ho
  have hdr:(recs.getD d []).drop j=(recs.getD d []).getD j (0,false)::(recs.getD d []).drop (j+1):=by
   have hlt:j < (recs.getD d []).length:=by unfold sz at hsz;omega
   generalize recs.getD d []=l at hlt
   rw [List.drop_eq_getElem_cons hlt,List.getD_eq_getElem?_getD,List.getElem?_eq_getElem hlt];rfl
  obtain ⟨mv',q1,q2,q3⟩:=ih (j+1) n (by omega) l1 l2
  refine ⟨mv',?_,?_,?_⟩
  ·rw [show n+(r+1)=n+r+1 by omega,mvW_fld (by omega) hkd];exact q1
  ·rw [hdr];exact q2
  ·rw [hdr];exact pre_trans l3 q3
theorem scan_lock (hm:Mm ls recs ws phi):∀ (kf i n:Nat) {mk:Mk} {mv:Mv} {kinds:List Int},i<=mk.list.length->recs.length<=kf+i->ws.length<=n+tot recs (mk.list.take i)->Lk ls recs ws phi (tot recs (mk.list.take i)) mk mv ->
 ∃ mkf,Lk ls recs ws phi (tot recs mkf.list) mkf (mvW ls ws n (tot recs (mk.list.take i)) kinds 0 mv)/\lvW recs kf i mk (tot recs (mk.list.take i))=tot recs mkf.list/\(∃ M,mkf.list=mk.list++M):=by
 intro kf
 induction kf with
 | zero =>
  intro i n mk mv kinds hi hk hn h
  have hc:mk.list.length<=recs.length:=by rw [<-h.sc,<-h.sl];exact List.countP_le_length
  have he:i=mk.list.length:=by omega
  subst he
  rw [List.take_length] at h ⊢
  have:mvW ls ws n (tot recs mk.list) kinds 0 mv=mv:=by
   cases n with
   | zero=>rfl
   | succ n=>rw [mvW,if_neg (by rw [h.tl];omega)]
  rw [this]
  exact ⟨mk,h,rfl,[],by simp⟩
 | succ kf ih =>
  intro i n mk mv kinds hi hk hn h
  have hc:mk.list.length<=recs.length:=by rw [<-h.sc,<-h.sl];exact List.countP_le_length
  by_cases hil:i < mk.list.length
  ·obtain ⟨d,hd⟩:∃ d,mk.list[i]=d:=⟨_,rfl⟩
   have hsplit:mk.list=mk.list.take i++d::mk.list.drop (i+1):=by
    conv=>lhs;rw [<-List.take_append_drop i mk.list,List.drop_eq_getElem_cons hil,hd]
   have hdn:d ∉ mk.list.take i:=by
    have hnd:=h.nd
    rw [hsplit] at hnd
    have:=(List.nodup_append.1 hnd).2.2
    intro hx
    exact this d hx d (by simp) rfl
   have ho:offO recs mk.list d=some (tot recs (mk.list.take i)):=by
    conv=>lhs;rw [hsplit]
    exact off_new hdn _
   have hmem:d ∈ mk.list:=by rw [hsplit];simp
   obtain ⟨a,hp⟩:=h.dom d hmem
   obtain ⟨_,t,hs,hv⟩:=hm.dom d a hp
   have hsz:=hm.size hp hs
   have hol:=off_lt ho
   have htl:=h.tl
   have hle:=h.le hm
   obtain ⟨c1,c2⟩:=h.con d _ a t ho hp hs
   generalize hO:tot recs (mk.list.take i)=o at *
   obtain ⟨n',rfl⟩:∃ n',n=n'+(flds ls t).length+1:=⟨n - (flds ls t).length - 1,by omega⟩
   have hl1:Lk ls recs ws phi (o+1+0) mk mv:=by
    refine ⟨h.sl,h.seen,h.sc,h.dom,h.nd,h.rl,h.refs,h.tl,h.ms,by omega,?_⟩
    intro d' o' a' t' ho' hp' hs'
    obtain ⟨x1,x2⟩:=h.con d' o' a' t' ho' hp' hs'
    have hsz':=hm.size hp' hs'
    refine ⟨x1,fun j hj=>⟨fun hk=>?_,fun hk=>(x2 j hj).2 (by omega)⟩⟩
    refine (x2 j hj).1 ?_
    rcases Nat.lt_or_ge (o'+1+j) o with hlt | hge
    ·exact hlt
    ·exfalso
     have heq:o'+1+j=o:=by omega
     rcases Nat.decEq d' d with hne | hq
     ·rcases off_apart ho' ho hne with q | q <;> omega
     ·subst hq;rw [ho] at ho';simp at ho';omega
   obtain ⟨mv',q1,q2,q3⟩:=flds_lock hm hp hs (flds ls t).length 0 n' (by omega) hl1 ho
   simp only [List.drop_zero] at q1 q2 q3
   have e1:mvW ls ws (n'+(flds ls t).length+1) o kinds 0 mv=mvW ls ws (n'+(flds ls t).length) (o+1) (flds ls t) (flds ls t).length mv:=by
    rw [mvW,if_pos (by omega),if_pos rfl,c1]
   have hdg:mk.list.getD i 0=d:=by rw [List.getD_eq_getElem?_getD,List.getElem?_eq_getElem hil,hd];rfl
   have e2:lvW recs (kf+1) i mk o=lvW recs kf (i+1) (mkA mk (recs.getD d [])) (o+1+(recs.getD d []).length):=by
    rw [lvW,if_pos hil,hdg]
   obtain ⟨M,hM⟩:=q3
   have htk:tot recs ((mkA mk (recs.getD d [])).list.take (i+1))=o+1+(flds ls t).length:=by
    rw [hM,List.take_append_of_le_length (by omega),List.take_succ_eq_append_getElem hil,tot_app,hO,hd]
    simp [tot];omega
   have:=ih (i+1) n' (kinds:=flds ls t) (mk:=mkA mk (recs.getD d [])) (mv:=mv') (by rw [hM];simp;omega) (by omega) (by rw [htk];omega) (by rw [htk];exact q2)
   obtain ⟨mkf,z1,z2,z3⟩:=this
   refine ⟨mkf,?_,?_,pre_trans ⟨M,hM⟩ z3⟩
   ·rw [e1,show o+1=o+1+0 by rfl,q1];rw [htk] at z1;exact z1
   ·rw [e2];rw [htk] at z2
    rw [show o+1+(recs.getD d []).length=o+1+(flds ls t).length by unfold sz at hsz;omega];exact z2
  ·have he:i=mk.list.length:=by omega
   subst he
   rw [List.take_length] at h ⊢
   have e1:mvW ls ws n (tot recs mk.list) kinds 0 mv=mv:=by
    cases n with
    | zero=>rfl
    | succ n=>rw [mvW,if_neg (by rw [h.tl];omega)]
   have e2:lvW recs (kf+1) mk.list.length mk (tot recs mk.list)=tot recs mk.list:=by rw [lvW,if_neg (by omega)]
   rw [e1,e2]
   exact ⟨mk,h,rfl,[],by simp⟩
end
end Go.Proofs.Ytnfnbcbadakofab
namespace Go.Proofs.Ytnfnbcbadakofab
open Go.RowKit
theorem rec_of {ls:List (List Int)} {recs:List (List (Int × Bool))} {ty:Nat->Int}:∀ {L:List Nat} {to:List Int},L.Nodup->to.length=tot recs L->(∀ d ∈ L,sz recs d=1+(flds ls (ty d)).length)->(∀ d o,offO recs L d=some o->to.getD o 0=ty d) ->
 endL ls 0 to=0/\∀ a t,St ls to a t ↔ ∃ d,offO recs L d=some a/\t=ty d:=by
 intro L
 induction L with
 | nil =>
  intro to _ hl _ _
  have:to=[]:=List.eq_nil_of_length_eq_zero (by simpa [tot] using hl)
  subst this
  exact ⟨rfl,fun a t=>by simp [St,recO,offO]⟩
 | cons e L ih =>
  intro to hnd hl hz hc
  have hze:=hz e (by simp)
  obtain ⟨hne,hnd'⟩:=List.nodup_cons.1 hnd
  simp only [tot] at hl
  have h0:=hc e 0 (by simp [offO])
  cases to with
  | nil=>simp at hl;omega
  | cons x to =>
   simp at h0
   subst h0
   simp only [List.length_cons] at hl
   have hsk:=recO_skip ls (to.take (flds ls (ty e)).length) (flds ls (ty e)).length (by rw [List.length_take];omega)
   have htl:(to.take (flds ls (ty e)).length).length=(flds ls (ty e)).length:=by rw [List.length_take];omega
   rw [htl] at hsk
   have eto:to=to.take (flds ls (ty e)).length++to.drop (flds ls (ty e)).length:=(List.take_append_drop _ _).symm
   have hih:=ih (to:=to.drop (flds ls (ty e)).length) hnd' (by rw [List.length_drop];omega) (fun d hd=>hz d (by simp [hd])) (by
    intro d o ho
    have hde:e ≠ d:=fun q=>hne (by
     subst q
     rcases Classical.em (e ∈ L) with z | z
     ·exact z
     ·rw [(off_none _ _).2 z] at ho;cases ho)
    have:=hc d (o+sz recs e) (by simp [offO,hde,ho])
    rw [hze] at this
    rw [List.getD_eq_getElem?_getD,List.getElem?_drop,<-List.getD_eq_getElem?_getD]
    rw [show o+(1+(flds ls (ty e)).length)=((flds ls (ty e)).length+o)+1 by omega] at this
    simpa using this)
   have er:recO ls 0 (ty e::to)=some (ty e)::(List.replicate (flds ls (ty e)).length none++recO ls 0 (to.drop (flds ls (ty e)).length)):=by
    rw [recO]
    congr 1
    conv=>lhs;rw [eto]
    rw [recO_app,hsk.1,hsk.2,Nat.sub_self]
   have ee:endL ls 0 (ty e::to)=endL ls 0 (to.drop (flds ls (ty e)).length):=by
    rw [endL]
    conv=>lhs;rw [eto]
    rw [endL_app,hsk.2,Nat.sub_self]
   refine ⟨by rw [ee];exact hih.1,fun a t=>?_⟩
   unfold St
   rw [er]
   rcases Nat.lt_trichotomy a 0 with h | h | h
   ·omega
   ·subst h
    constructor
    ·intro q;simp at q;exact ⟨e,by simp [offO],q.symm⟩
    ·rintro ⟨d,q1,q2⟩
     simp only [offO] at q1
     by_cases hd:e=d
     ·subst hd;simp [q2]
     ·rw [if_neg hd] at q1
      cases ho:offO recs L d with
      | none=>rw [ho] at q1;cases q1
      | some o=>rw [ho] at q1;simp at q1;omega
   ·obtain ⟨b,rfl⟩:∃ b,a=b+1:=⟨a - 1,by omega⟩
    rw [List.getElem?_cons_succ]
    rcases Nat.lt_or_ge b (flds ls (ty e)).length with hb | hb
    ·rw [List.getElem?_append_left (by simpa using hb),List.getElem?_replicate_of_lt hb]
     constructor
     ·intro q;simp at q
     ·rintro ⟨d,q1,q2⟩
      simp only [offO] at q1
      by_cases hd:e=d
      ·rw [if_pos hd] at q1;simp at q1
      ·rw [if_neg hd] at q1
       cases ho:offO recs L d with
       | none=>rw [ho] at q1;cases q1
       | some o=>rw [ho] at q1;simp at q1;omega
    ·rw [List.getElem?_append_right (by simpa using hb),List.length_replicate]
     have:=hih.2 (b - (flds ls (ty e)).length) t
     unfold St at this
     rw [this]
     constructor
     ·rintro ⟨d,q1,q2⟩
      refine ⟨d,?_,q2⟩
      have hde:e ≠ d:=fun q=>hne (by
       subst q
       rcases Classical.em (e ∈ L) with z | z
       ·exact z
       ·rw [(off_none _ _).2 z] at q1;cases q1)
      simp only [offO]
      rw [if_neg hde,q1];simp;omega
     ·rintro ⟨d,q1,q2⟩
      refine ⟨d,?_,q2⟩
      simp only [offO] at q1
      by_cases hd:e=d
      ·rw [if_pos hd] at q1;simp at q1
      ·rw [if_neg hd] at q1
       cases ho:offO recs L d with
       | none=>rw [ho] at q1;cases q1
       | some o=>rw [ho] at q1;simp at q1;simp;omega
section
variable {ls:List (List Int)} {recs:List (List (Int × Bool))} {ws:List Int} {phi:Nat->Option Nat}
theorem vl_seg {P:Int->Int × Bool->Int->Prop} {ks:List Int} {ds:List (Int × Bool)} {vs:List Int} (h1:ds.length=ks.length) (h2:vs.length=ks.length) (h:∀ i,i < ks.length->P (ks.getD i 0) (ds.getD i (0,false)) (vs.getD i 0)):VL P ks ds vs:=by
 induction ks generalizing ds vs with
 | nil =>
  have:ds=[]:=List.eq_nil_of_length_eq_zero h1
  have:vs=[]:=List.eq_nil_of_length_eq_zero h2
  subst_vars;exact .nil
 | cons k ks ih =>
  cases ds with
  | nil=>simp at h1
  | cons d ds =>
   cases vs with
   | nil=>simp at h2
   | cons v vs =>
    refine .cons (by simpa using h 0 (by simp)) (ih (by simpa using h1) (by simpa using h2) (fun i hi=>?_))
    simpa using h (i+1) (by simpa using hi)
theorem Lk.done (hm:Mm ls recs ws phi) {mk:Mk} {mv:Mv} (h:Lk ls recs ws phi (tot recs mk.list) mk mv) :
 Mm ls recs mv.to (offO recs mk.list)/\∀ k d v,VN ls recs ws phi mk.list k d v->VR ls mv.to (offO recs mk.list) k d v:=by
 have hty:∀ d a t,phi d=some a->St ls ws a t->ws.getD ((phi d).getD 0) 0=t:=by
  intro d a t hp hs
  rw [hp]
  have:=(hs.val hm.full).1
  rw [List.getD_eq_getElem?_getD];simp [this]
 have hmem:∀ d o,offO recs mk.list d=some o->d ∈ mk.list:=by
  intro d o ho
  rcases Classical.em (d ∈ mk.list) with z | z
  ·exact z
  ·rw [(off_none _ _).2 z] at ho;cases ho
 have hall:∀ d o,offO recs mk.list d=some o->∃ a t,phi d=some a/\St ls ws a t/\d < recs.length/\sz recs d=1+(flds ls t).length:=by
  intro d o ho
  obtain ⟨a,hp⟩:=h.dom d (hmem d o ho)
  obtain ⟨hl,t,hs,_⟩:=hm.dom d a hp
  exact ⟨a,t,hp,hs,hl,hm.size hp hs⟩
 obtain ⟨r1,r2⟩:=rec_of (ls:=ls) (recs:=recs) (ty:=fun d=>ws.getD ((phi d).getD 0) 0) h.nd h.tl (by
  intro d hd
  obtain ⟨o,ho⟩:=off_mem (recs:=recs) hd
  obtain ⟨a,t,hp,hs,_,hz⟩:=hall d o ho
  rw [hty d a t hp hs];exact hz) (by
  intro d o ho
  obtain ⟨a,t,hp,hs,_,_⟩:=hall d o ho
  rw [hty d a t hp hs]
  exact (h.con d o a t ho hp hs).1)
 have hconv:∀ k d v,VN ls recs ws phi mk.list k d v->VR ls mv.to (offO recs mk.list) k d v:=by
  intro k d v hv
  rcases hv with hv | ⟨k0,d2,hv | ⟨e,o,a,x,y,z,p,s⟩⟩
  ·exact .inl hv
  ·exact .inr ⟨k0,d2,.inl hv⟩
  ·exact .inr ⟨k0,d2,.inr ⟨e,o,x,y,z,(r2 o k).2 ⟨e,z,(hty e a k p s).symm⟩⟩⟩
 refine ⟨⟨r1,?_,fun d d' a=>off_inj,?_,?_⟩,hconv⟩
 ·intro a t hs
  obtain ⟨d,ho,ht⟩:=(r2 a t).1 hs
  obtain ⟨a',t',hp,hs',_,_⟩:=hall d a ho
  rw [hty d a' t' hp hs'] at ht
  subst ht
  exact hm.typ _ _ hs'
 ·intro d o ho
  obtain ⟨a,t,hp,hs,hl,hz⟩:=hall d o ho
  refine ⟨hl,t,(r2 o t).2 ⟨d,ho,(hty d a t hp hs).symm⟩,?_⟩
  have hlt:=off_lt ho
  have htl:=h.tl
  unfold sz at hz hlt
  refine vl_seg (by omega) ?_ (fun i hi=>?_)
  ·unfold seg;rw [List.length_take,List.length_drop];omega
  ·rw [seg_get hi]
   exact hconv _ _ _ (((h.con d o a t ho hp hs).2 i hi).1 (by omega))
 ·intro a t hs
  obtain ⟨d,ho,_⟩:=(r2 a t).1 hs
  exact ⟨d,ho⟩
theorem Lk.start:Lk ls recs ws phi 0 ⟨List.replicate recs.length false,[]⟩ ⟨[],List.replicate ws.length 0⟩:=by
 refine ⟨by simp,?_,?_,by simp,by simp,by simp,?_,rfl,?_,Nat.zero_le _,?_⟩
 ·intro d hd
  rw [List.getD_eq_getElem?_getD,List.getElem?_replicate_of_lt hd];simp
 ·simp [List.countP_replicate]
 ·intro d a _
  refine .inl ⟨?_,rfl⟩
  rw [List.getD_eq_getElem?_getD]
  by_cases h:a < ws.length
  ·rw [List.getElem?_replicate_of_lt h];rfl
  ·rw [List.getElem?_eq_none (by simp;omega)];rfl
 ·rw [mvS_zero];rfl
 ·intro d o a t ho;simp [offO] at ho
end
theorem clr_sim {c:Cx} {D:Dn} {R:Rn} {phi:Nat->Option Nat} (h:Sm c D R phi) (hst:D.status=0 \/ D.status=2):(∃ phi',Sm c D (clrP c R) phi')/\(liveP D:Nat)=(clrP c R).words.length/\(clrP c R).words.length<=R.words.length/\(clrP c R).below.length=R.below.length:=by
 obtain ⟨f,hb,ht⟩:=h.fr
 have l0:=Lk.start (ls:=c.ls) (recs:=D.recs) (ws:=R.words) (phi:=phi)
 obtain ⟨l1,b1,p1⟩:=hb.moved h.mem l0
 obtain ⟨l2,t2,p2⟩:=ht.moved h.mem l1
 have e1:mkF (mkFs ⟨List.replicate D.recs.length false,[]⟩ D.below) D.top=mkFs ⟨List.replicate D.recs.length false,[]⟩ (dframes D):=by
  unfold dframes;rw [if_pos hst];simp [mkFs]
 have e2:mvA c R=(((mvFrs c R.words R.below ⟨[],List.replicate R.words.length 0⟩).1,(mvFr c R.words R.top (mvFrs c R.words R.below ⟨[],List.replicate R.words.length 0⟩).2).1),mvW c.ls R.words (6 * R.words.length) 0 [] 0 (mvFr c R.words R.top (mvFrs c R.words R.below ⟨[],List.replicate R.words.length 0⟩).2).2):=rfl
 rw [e1] at l2 t2 p2
 obtain ⟨mkf,z1,z2,z3⟩:=scan_lock h.mem (D.recs.length+1) 0 (6 * R.words.length) (kinds:=[]) (Nat.zero_le _) (by omega) (by simp [tot];omega) (by simpa [tot] using l2)
 simp only [List.take_zero,tot] at z1 z2
 obtain ⟨m1,m2⟩:=z1.done h.mem
 have hw:(clrP c R).words=(mvW c.ls R.words (6 * R.words.length) 0 [] 0 (mvFr c R.words R.top (mvFrs c R.words R.below ⟨[],List.replicate R.words.length 0⟩).2).2).to:=rfl
 have hle:(clrP c R).words.length<=R.words.length:=by rw [hw];exact z1.le h.mem
 have hbl:(clrP c R).below.length=R.below.length:=mvFrs_len _ _ _
 refine ⟨⟨offO D.recs mkf.list,h.h0,h.h4,h.d1,h.d64,h.heap,h.depth,m1,?_,?_,f,?_,?_⟩,?_,hle,hbl⟩
 ·have:=h.len
  show ((clrP c R).words.length:Int)<=R.heap
  omega
 ·show ((clrP c R).below.length:Int)+1<=R.depth
  rw [hbl];exact h.bl
 ·exact b1.mono (fun k d v x=>m2 _ _ _ ((x.pre p2).pre z3))
 ·exact t2.mono (fun k d v x=>m2 _ _ _ (x.pre z3))
 ·unfold liveP
  rw [z2,hw,z1.tl]
section
variable {c:Cx} {D:Dn} {R:Rn} {phi:Nat->Option Nat} {f:Int} {op A B:Int} {rest:List Int}
theorem new_room (h:Cu c D R phi f (7,A,B) rest) (s0:D.status=0) (s0':R.status=0) (ho:D.out=R.out) (hu:D.used=R.used) {D':Dn} {R':Rn} (hd:D'=dincR D) (hroom:(R.words.length:Int)+((flds c.ls A).length:Int)+1<=R.heap)
 (hR:R'=incR (mr2P c A R)):Nx c D R { D' with recs:=D'.recs++[D'.top.stack.drop (D'.top.stack.length - (flds c.ls A).length)],top:={ D'.top with stack:=D'.top.stack.take (D'.top.stack.length - (flds c.ls A).length)++[((D'.recs.length:Int)+1,true)] } } R':=by
 have hi:=h.iok
 simp only [InsOk,bA] at hi
 have hA1:1<=A:=by have:=hi.2.1.1;simpa using this
 have hA2:A<=(c.ls.length:Int):=by have:=hi.2.1.2;simpa using this
 have e:ahead c.ls c.fs (fnAt c.fs f) 7 A B=flds c.ls A:=by simp [ahead]
 have hs:=h.stk
 simp only [e] at hs
 obtain ⟨h1,h2⟩:=hs.split
 have hl:=hs.len
 rw [List.length_append] at hl
 obtain ⟨q1,q2⟩:=popN_of (S:=R.top.stack) (n:=(flds c.ls A).length) (by omega)
 subst hd;subst hR
 have eR:mr2P c A R = { R with words:=R.words++A::R.top.stack.drop rest.length,top:={ R.top with stack:=R.top.stack.take rest.length++[(R.words.length:Int)+1] } }:=by
  unfold mr2P;rw [if_neg (by omega),q1,q2,show R.top.stack.length - (flds c.ls A).length=rest.length by omega]
 rw [eR]
 have ed:(dincR D).top.stack.length - (flds c.ls A).length=rest.length:=by show D.top.stack.length - _=_;omega
 rw [ed]
 obtain ⟨r1,r2⟩:=recO_new h.sm.mem.full A (R.top.stack.drop rest.length) (by rw [List.length_drop];omega)
 have hrl:=recO_len c.ls R.words 0
 have st1:∀ a t,St c.ls R.words a t->St c.ls (R.words++A::R.top.stack.drop rest.length) a t:=by
  intro a t q;unfold St at q ⊢;rw [r1]
  have:a < (recO c.ls 0 R.words).length:=by
   rcases Nat.lt_or_ge a (recO c.ls 0 R.words).length with z | z
   ·exact z
   ·rw [List.getElem?_eq_none z] at q;cases q
  rw [List.getElem?_append_left this];exact q
 have st0:St c.ls (R.words++A::R.top.stack.drop rest.length) R.words.length A:=by
  unfold St;rw [r1,List.getElem?_append_right (by omega),hrl];simp
 have st2:∀ a t,St c.ls (R.words++A::R.top.stack.drop rest.length) a t->St c.ls R.words a t \/ (a=R.words.length/\t=A):=by
  intro a t q
  unfold St at q ⊢
  rw [r1] at q
  rcases Nat.lt_or_ge a R.words.length with z | z
  ·rw [List.getElem?_append_left (by omega)] at q;exact .inl q
  ·rw [List.getElem?_append_right (by omega),hrl] at q
   cases hx:a - R.words.length with
   | zero=>rw [hx] at q;simp at q;exact .inr ⟨by omega,q.symm⟩
   | succ n =>
    rw [hx,List.getElem?_cons_succ] at q
    rcases Nat.lt_or_ge n (R.top.stack.drop rest.length).length with y | y
    ·rw [List.getElem?_replicate_of_lt y] at q;simp at q
    ·rw [List.getElem?_eq_none (by rw [List.length_replicate];exact y)] at q;cases q
 have hphi:∀ d a,phi d=some a->d < D.recs.length/\a < R.words.length:=by
  intro d a hp
  obtain ⟨x,t,s,_⟩:=h.sm.mem.dom d a hp
  have:=(s.val h.sm.mem.full).2.1
  exact ⟨x,by omega⟩
 have hp':∀ d a,phi d=some a->(fun d=>if d=D.recs.length then some R.words.length else phi d) d=some a:=by
  intro d a hp
  have:=(hphi d a hp).1
  show (if d=D.recs.length then some R.words.length else phi d)=some a
  rw [if_neg (by omega)];exact hp
 have hmono:=Mm.vr_mono (ls:=c.ls) (phi:=phi) (phi':=fun d=>if d=D.recs.length then some R.words.length else phi d) st1 hp'
 have hmm:Mm c.ls (D.recs++[D.top.stack.drop rest.length]) (R.words++A::R.top.stack.drop rest.length) (fun d=>if d=D.recs.length then some R.words.length else phi d):=by
  refine ⟨r2,?_,?_,?_,?_⟩
  ·intro a t q
   rcases st2 a t q with q | ⟨_,rfl⟩
   ·exact h.sm.mem.typ a t q
   ·exact ⟨hA1,hA2⟩
  ·intro d d' a x y
   by_cases hd:d=D.recs.length <;> by_cases hd':d'=D.recs.length
   ·rw [hd,hd']
   ·rw [if_pos hd] at x;rw [if_neg hd'] at y
    simp at x;have:=(hphi _ _ y).2;omega
   ·rw [if_neg hd] at x;rw [if_pos hd'] at y
    simp at y;have:=(hphi _ _ x).2;omega
   ·rw [if_neg hd] at x;rw [if_neg hd'] at y
    exact h.sm.mem.inj _ _ _ x y
  ·intro d a x
   by_cases hd:d=D.recs.length
   ·rw [if_pos hd] at x
    simp at x;subst x;subst hd
    refine ⟨by simp,A,st0,?_⟩
    have ex:(D.recs++[D.top.stack.drop rest.length]).getD D.recs.length []=D.top.stack.drop rest.length:=by
     rw [List.getD_eq_getElem?_getD,List.getElem?_append_right (Nat.le_refl _)];simp
    have ey:seg (R.words++A::R.top.stack.drop rest.length) R.words.length (flds c.ls A).length=R.top.stack.drop rest.length:=by
     unfold seg
     rw [show R.words++A::R.top.stack.drop rest.length=(R.words++[A])++R.top.stack.drop rest.length by simp,List.drop_left' (by simp),List.take_of_length_le (by rw [List.length_drop];omega)]
    rw [ex,ey]
    exact h2.mono hmono
   ·rw [if_neg hd] at x
    obtain ⟨x1,t,s,hv⟩:=h.sm.mem.dom d a x
    have hw:=(s.val h.sm.mem.full).2.1
    refine ⟨by simp;omega,t,st1 _ _ s,?_⟩
    have ex:(D.recs++[D.top.stack.drop rest.length]).getD d []=D.recs.getD d []:=by
     rw [List.getD_eq_getElem?_getD,List.getElem?_append_left x1,List.getD_eq_getElem?_getD]
    have ey:seg (R.words++A::R.top.stack.drop rest.length) a (flds c.ls t).length=seg R.words a (flds c.ls t).length:=by
     apply List.ext_getElem?
     intro i
     unfold seg
     by_cases hi:i < (flds c.ls t).length
     ·rw [List.getElem?_take_of_lt hi,List.getElem?_take_of_lt hi,List.getElem?_drop,List.getElem?_drop,List.getElem?_append_left (by omega)]
     ·rw [List.getElem?_take_eq_none (by omega),List.getElem?_take_eq_none (by omega)]
    rw [ex,ey]
    exact hv.mono hmono
  ·intro a t q
   rcases st2 a t q with q | ⟨rfl,rfl⟩
   ·obtain ⟨d,hd⟩:=h.sm.mem.sur a t q
    exact ⟨d,hp' d a hd⟩
   ·exact ⟨D.recs.length,by simp⟩
 have hwy:=h.way _ (ways_next (op:=7) (A:=A) (i:=R.top.pc.toNat) (by decide) (by decide))
 rw [h.pc] at hwy
 have eb:behind c.ls c.fs (fnAt c.fs f) 7 A B=[A]:=by simp [behind]
 simp only [eb] at hwy
 refine ⟨?_,ho,hu,rfl,⟨rfl,rfl,rfl,rfl⟩,fun _=>⟨_,h.sm.h0,h.sm.h4,h.sm.d1,h.sm.d64,h.sm.heap,h.sm.depth,hmm,?_,h.sm.bl,f,h.bel.mono hmono,?_⟩,.inl s0'⟩
 ·show D.status=R.status
  rw [s0,s0']
 ·show (((R.words++A::R.top.stack.drop rest.length).length:Nat):Int)<=R.heap
  rw [List.length_append,List.length_cons,List.length_drop];omega
 ·refine ⟨h.tp.fn,h.tp.dfn,h.tp.f0,h.tp.fl,?_,hwy.1,hwy.2.1,h.tp.loc.mono hmono,_,hwy.2.2,?_⟩
  ·show D.top.pc+1=R.top.pc+1
   rw [h.tp.pc]
  ·refine VL.app (h1.mono hmono) (.one (.inr ⟨by omega,rfl,.inr ⟨D.recs.length,R.words.length,rfl,rfl,?_,st0⟩⟩))
   simp
theorem Sm.inc {c:Cx} {D:Dn} {R:Rn} {phi:Nat->Option Nat} {f:Int} {x:Int × Int × Int} {rest:List Int} (_h:Cu c D R phi f x rest) {R':Rn} {phi':Nat->Option Nat} (hs:Sm c D R' phi') (hfn:R'.top.fn=R.top.fn) (hpc:R'.top.pc=R.top.pc) (ok:CxOk c):∃ rest',Cu c D R' phi' f x rest':=by
 obtain ⟨f',x',rest',hc,hx,_⟩:=hs.cu ok
 have e1:f'=f:=by rw [<-hc.tp.fn,hfn,_h.tp.fn]
 subst e1
 have e2:x'=x:=by rw [<-hc.ins,hpc,_h.ins]
 subst e2
 exact ⟨rest',hc⟩
theorem step_new (ok:CxOk c) (h:Cu c D R phi f (7,A,B) rest) (s0:D.status=0) (s0':R.status=0) (ho:D.out=R.out) (hu:D.used=R.used):Nx c D R (dstP c R.inp (7,A,B) D) (doP c (7,A,B) R):=by
 obtain ⟨⟨phi',hs'⟩,hlv,hle,_⟩:=clr_sim h.sm (.inl s0)
 have ed:dstP c R.inp (7,A,B) D=(if (dincR D).heap < (liveP (dincR D):Int)+1+((flds c.ls A).length:Int) then { dincR D with status:=4 } else { dincR D with recs:=(dincR D).recs++[(dincR D).top.stack.drop ((dincR D).top.stack.length - (flds c.ls A).length)],top:={ (dincR D).top with stack:=(dincR D).top.stack.take ((dincR D).top.stack.length - (flds c.ls A).length)++[(((dincR D).recs.length:Int)+1,true)] } }):=rfl
 have er:doP c (7,A,B) R=incR (mr2P c A (if R.heap < (R.words.length:Int)+((flds c.ls A).length:Int)+1 then clrP c R else R)):=rfl
 have elv:liveP (dincR D)=liveP D:=by
  have hf:dframes (dincR D)=D.below++[(dincR D).top]:=by unfold dframes;rw [if_pos (.inl s0)];rfl
  have hf':dframes D=D.below++[D.top]:=by unfold dframes;rw [if_pos (.inl s0)]
  unfold liveP
  rw [hf,hf']
  show lvW D.recs _ 0 (mkFs _ (D.below++[(dincR D).top])) 0=_
  have:mkFs ⟨List.replicate D.recs.length false,[]⟩ (D.below++[(dincR D).top])=mkFs ⟨List.replicate D.recs.length false,[]⟩ (D.below++[D.top]):=by
   unfold mkFs;rw [List.foldl_append,List.foldl_append];rfl
  show lvW D.recs (D.recs.length+1) 0 (mkFs ⟨List.replicate D.recs.length false,[]⟩ (D.below++[(dincR D).top])) 0=_
  rw [this]
 have hh:(dincR D).heap=R.heap:=h.sm.heap
 rw [ed,er,elv]
 by_cases hroom:R.heap < (R.words.length:Int)+((flds c.ls A).length:Int)+1
 ·rw [if_pos hroom]
  by_cases hfull:R.heap < ((clrP c R).words.length:Int)+((flds c.ls A).length:Int)+1
  ·rw [if_pos (by rw [hh,hlv];omega)]
   have:mr2P c A (clrP c R) = { clrP c R with status:=4 }:=by unfold mr2P;exact if_pos hfull
   rw [this]
   exact h.end (s:=4) (by omega) rfl rfl ho hu rfl ⟨rfl,rfl,rfl,rfl⟩
  ·rw [if_neg (by rw [hh,hlv];omega)]
   obtain ⟨rest',hc⟩:=Sm.inc h hs' rfl rfl ok
   have:=new_room (D':=dincR D) (R':=incR (mr2P c A (clrP c R))) hc s0 s0' ho hu rfl (by show _<=R.heap;omega) rfl
   exact ⟨this.st,this.out,this.used,this.inp,this.hp,this.go,this.ends⟩
 ·rw [if_neg hroom,if_neg (by rw [hh,hlv];omega)]
  exact new_room h s0 s0' ho hu rfl (by omega) rfl
theorem step_sim {x:Int × Int × Int} (ok:CxOk c) (h:Cu c D R phi f x rest) (s0:D.status=0) (s0':R.status=0) (ho:D.out=R.out) (hu:D.used=R.used):Nx c D R (dstP c R.inp x D) (doP c x R):=by
 obtain ⟨op,A,B⟩:=x
 have hop:=h.iok.1
 simp only at hop
 obtain ⟨n,rfl⟩:∃ n:Nat,op=(n:Int):=⟨op.toNat,by omega⟩
 have hn:n<=18:=by omega
 rcases n with _ | _ | _ | _ | _ | _ | _ | _ | _ | _ | _ | _ | _ | _ | _ | _ | _ | _ | _ | n
 ·exact step_push h s0 s0' ho hu
 ·exact step_num h (by simp) s0 s0' ho hu
 ·exact step_num h (by simp) s0 s0' ho hu
 ·exact step_num h (by simp) s0 s0' ho hu
 ·exact step_num h (by simp) s0 s0' ho hu
 ·exact step_load h s0 s0' ho hu
 ·exact step_store h s0 s0' ho hu
 ·exact step_new ok h s0 s0' ho hu
 ·exact step_get h s0 s0' ho hu
 ·exact step_set h s0 s0' ho hu
 ·exact step_null h s0 s0' ho hu
 ·exact step_is h s0 s0' ho hu
 ·exact step_same h s0 s0' ho hu
 ·exact step_jump h s0 s0' ho hu
 ·exact step_zero h s0 s0' ho hu
 ·exact step_call ok h s0 s0' ho hu
 ·exact step_ret ok h s0 s0' ho hu
 ·exact step_print h s0 s0' ho hu
 ·exact step_read h s0 s0' ho hu
 ·omega
end
end Go.Proofs.Ytnfnbcbadakofab
namespace Go.Proofs.Ytnfnbcbadakofab
open Go.RowKit
structure Rel (c:Cx) (D:Dn) (R:Rn):Prop where
 heap:D.heap=R.heap
 depth:D.depth=R.depth
 h0:0<=R.heap
 h4:R.heap<=4000
 d1:1<=R.depth
 d64:R.depth<=64
 st:(R.status=0/\(D.status=0 \/ D.status=2)/\∃ phi,Sm c D R phi) \/ ((R.status=1 \/ R.status=3 \/ R.status=4 \/ R.status=5)/\D.status=R.status)
theorem Sm.out {c:Cx} {D:Dn} {R:Rn} {phi:Nat->Option Nat} (h:Sm c D R phi) {D':Dn} {R':Rn} (e1:D'.heap=D.heap) (e2:D'.depth=D.depth) (e3:D'.below=D.below) (e4:D'.top=D.top) (e5:D'.recs=D.recs) (f1:R'.heap=R.heap) (f2:R'.depth=R.depth) (f3:R'.below=R.below) (f4:R'.top=R.top) (f5:R'.words=R.words):Sm c D' R' phi:=
 h.same ⟨f1,f2,e1,e2⟩ f5 e5 (by rw [f3];exact h.bl) (by rw [e3,e4,f3,f4];exact h.fr)
theorem goP_sim {c:Cx} (ok:CxOk c) (inp:List Int):∀ (n:Nat) {D:Dn} {R:Rn},R.inp=inp->D.out=R.out->D.used=R.used->D.status=R.status->Rel c D R ->
 Rel c (dgoP c inp n D) (goOnP c n R).1/\(dgoP c inp n D).out=(goOnP c n R).1.out/\(dgoP c inp n D).used=(goOnP c n R).1.used/\(dgoP c inp n D).status=(goOnP c n R).2/\(goOnP c n R).1.heap=R.heap/\(goOnP c n R).1.depth=R.depth/\(goOnP c n R).1.inp=inp:=by
 intro n
 induction n with
 | zero=>intro D R hi ho hu hs h;exact ⟨h,ho,hu,hs,rfl,rfl,hi⟩
 | succ n ih =>
  intro D R hi ho hu hs h
  unfold dgoP goOnP
  by_cases h0:R.status=0
  ·have h0':D.status=0:=by rw [hs,h0]
   rw [if_neg (show ¬ (D.status ≠ 0) by rw [h0'];simp),if_neg (show ¬ (R.status ≠ 0) by rw [h0];simp)]
   rcases h.st with ⟨_,_,phi,sm⟩ | ⟨q,_⟩
   ·obtain ⟨f,x,rest,cu,e1,e2⟩:=sm.cu ok
    rw [e1,e2,hi]
    by_cases hr:x.1=18/\inp.length<=R.used
    ·rw [if_pos (show x.1=18/\inp.length<=D.used by rw [hu];exact hr),if_pos hr]
     exact ⟨⟨h.heap,h.depth,h.h0,h.h4,h.d1,h.d64,.inl ⟨h0,.inr rfl,phi,sm.out rfl rfl rfl rfl rfl rfl rfl rfl rfl rfl⟩⟩,ho,hu,rfl,rfl,rfl,hi⟩
    ·rw [if_neg (show ¬ (x.1=18/\inp.length<=D.used) by rw [hu];exact hr),if_neg hr]
     have nx:=step_sim ok cu h0' h0 ho hu
     rw [hi] at nx
     have hh:=nx.hp
     have hrel:Rel c (dstP c inp x D) (doP c x R):=by
      refine ⟨by rw [hh.2.2.1,hh.1];exact h.heap,by rw [hh.2.2.2,hh.2.1];exact h.depth,by rw [hh.1];exact h.h0,by rw [hh.1];exact h.h4,by rw [hh.2.1];exact h.d1,by rw [hh.2.1];exact h.d64,?_⟩
      rcases nx.ends with q | q
      ·exact .inl ⟨q,.inl (by rw [nx.st,q]),nx.go q⟩
      ·exact .inr ⟨q,nx.st⟩
     have:=ih (by rw [nx.inp];exact hi) nx.out nx.used nx.st hrel
     rw [hh.1,hh.2.1] at this
     exact this
   ·omega
  ·rw [if_pos (show D.status ≠ 0 by rw [hs];exact h0),if_pos h0]
   exact ⟨h,ho,hu,hs,rfl,rfl,hi⟩
theorem go_sim {c:Cx} (ok:CxOk c) (inp:List Int) (n:Nat) {D:Dn} {R:Rn} (h:Rel c D R) (hu:R.used=0) (hout:R.out=[]) :
 Rel c (dGo c inp n D) (goOnP c n { R with inp:=inp }).1/\(dGo c inp n D).out=(goOnP c n { R with inp:=inp }).1.out/\(dGo c inp n D).used=(goOnP c n { R with inp:=inp }).1.used/\(dGo c inp n D).status=(goOnP c n { R with inp:=inp }).2/\(goOnP c n { R with inp:=inp }).1.heap=R.heap/\(goOnP c n { R with inp:=inp }).1.depth=R.depth/\(goOnP c n { R with inp:=inp }).1.inp=inp:=by
 unfold dGo
 refine goP_sim ok inp n (R:={ R with inp:=inp }) rfl hout.symm hu.symm ?_ ?_
 ·show (if D.status=2 then 0 else D.status)=R.status
  rcases h.st with ⟨q,q' | q',_⟩ | ⟨q,q'⟩
  ·rw [if_neg (by omega),q,q']
  ·rw [if_pos q',q]
  ·rw [if_neg (by omega),q']
 ·refine ⟨h.heap,h.depth,h.h0,h.h4,h.d1,h.d64,?_⟩
  rcases h.st with ⟨q,q',phi,sm⟩ | ⟨q,q'⟩
  ·refine .inl ⟨q,.inl ?_,phi,sm.out rfl rfl rfl rfl rfl rfl rfl rfl rfl rfl⟩
   show (if D.status=2 then 0 else D.status)=0
   rcases q' with q' | q'
   ·rw [if_neg (by omega),q']
   ·rw [if_pos q']
  ·refine .inr ⟨q,?_⟩
   show (if D.status=2 then 0 else D.status)=R.status
   rw [if_neg (by omega),q']
def At (ns:List Int) (p:Nat) (X:List Int):Prop:=∃ pre post,ns=pre++X++post/\pre.length=p
theorem At.tk {ns:List Int} {p:Nat} {v:Int} {X:List Int} (h:At ns p (v::X)) {lo hi:Int} (h1:lo<=v) (h2:v<=hi):Go.Proofs.Ytnfnbcbadakofab.tk ns lo hi (p,false)=(v,(p+1,false))/\At ns (p+1) X:=by
 obtain ⟨pre,post,rfl,rfl⟩:=h
 refine ⟨?_,pre++[v],post,by simp,by simp⟩
 have hg:(pre++v::X++post).getD pre.length 0=v:=by
  rw [List.getD_eq_getElem?_getD,List.append_assoc,List.getElem?_append_right (Nat.le_refl _)];simp
 unfold Go.Proofs.Ytnfnbcbadakofab.tk
 simp only
 rw [if_neg (by simp),hg,if_neg (by omega)]
theorem At.split {ns:List Int} {p:Nat} {X Y:List Int} (h:At ns p (X++Y)):At ns (p+X.length) Y:=by
 obtain ⟨pre,post,rfl,rfl⟩:=h
 exact ⟨pre++X,post,by simp,by simp⟩
theorem At.tv {ns recs:List Int} {kinds vs:List Int} (hl:vs.length=kinds.length) (hv:∀ i,i < kinds.length->0<=vs.getD i 0/\vs.getD i 0<=65535/\badV recs (kinds.getD i 0) (vs.getD i 0)=false):∀ {p:Nat} {X:List Int},At ns p (vs++X)->tvP ns recs kinds (p,false)=(vs,(p+vs.length,false))/\At ns (p+vs.length) X:=by
 induction kinds generalizing vs with
 | nil =>
  have:vs=[]:=List.eq_nil_of_length_eq_zero hl
  subst this
  intro p X h;exact ⟨rfl,by simpa using h⟩
 | cons k ks ih =>
  cases vs with
  | nil=>simp at hl
  | cons v vs =>
   intro p X h
   obtain ⟨a,b,e⟩:=hv 0 (by simp)
   simp only [List.getD_cons_zero] at a b e
   obtain ⟨t1,t2⟩:=At.tk (X:=vs++X) h a b
   obtain ⟨i1,i2⟩:=ih (by simpa using hl) (fun i hi=>by simpa using hv (i+1) (by simpa using hi)) t2
   unfold tvP
   rw [t1]
   simp only
   rw [e,Bool.or_false,i1]
   refine ⟨?_,?_⟩
   ·simp;omega
   ·rw [List.length_cons,show p+(vs.length+1)=p+1+vs.length by omega];exact i2
theorem At.tl {ns:List Int} {hi:Int} {vs:List Int} (hv:∀ v ∈ vs,0<=v/\v<=hi) {p:Nat} {X:List Int} (h:At ns p (vs++X)):tkL ns hi vs.length (p,false)=(vs,(p+vs.length,false)):=by
 obtain ⟨n,hn⟩:∃ n,vs.length=n:=⟨_,rfl⟩
 induction n generalizing vs X with
 | zero=>have:vs=[]:=List.eq_nil_of_length_eq_zero hn;subst this;rfl
 | succ n ih =>
  have hne:vs ≠ []:=by intro q;subst q;simp at hn
  have e:vs=vs.dropLast++[vs.getLast hne]:=(List.dropLast_concat_getLast hne).symm
  have hdl:vs.dropLast.length=n:=by rw [List.length_dropLast];omega
  generalize hd:vs.dropLast=us at *
  generalize vs.getLast hne=u at *
  subst e
  have h':At ns p (us++(u::X)):=by simpa using h
  have i1:=ih (fun v hv'=>hv v (by simp [hv'])) h' hdl
  have hu:=hv u (by simp)
  obtain ⟨t1,_⟩:=(h'.split).tk (lo:=0) (hi:=hi) hu.1 hu.2
  rw [show (us++[u]).length=us.length+1 by simp,tkL,i1]
  simp only
  rw [t1]
  simp;omega
theorem VR.fine {c:Cx} {D:Dn} {R:Rn} {phi:Nat->Option Nat} (h:Sm c D R phi) {k:Int} {d:Int × Bool} {v:Int} (hv:VR c.ls R.words phi k d v):0<=v/\v<=65535/\badV (recL c.ls 0 R.words) k v=false:=by
 rcases hv with ⟨k0,_,_,a,b⟩ | ⟨k0,_,⟨_,v0⟩ | ⟨e,a,_,y,_,s⟩⟩
 ·refine ⟨a,by omega,?_⟩
  unfold badV;simp [k0]
 ·refine ⟨by omega,by omega,?_⟩
  unfold badV;simp [v0]
 ·have hw:=(s.val h.mem.full).2.1
  have:=h.len
  have:=h.h4
  refine ⟨by omega,by omega,?_⟩
  have hl:=recO_len c.ls R.words 0
  have:tyAt (recL c.ls 0 R.words) (v - 1)=k:=by
   rw [tyAt_get (by omega) (by unfold recL;rw [List.length_map,hl];omega),show (v - 1).toNat=a by omega]
   unfold recL
   unfold St at s
   rw [List.getD_eq_getElem?_getD,List.getElem?_map,s];rfl
  unfold badV
  simp [this]
theorem VL.fine {c:Cx} {D:Dn} {R:Rn} {phi:Nat->Option Nat} (h:Sm c D R phi) {ks:List Int} {ds:List (Int × Bool)} {vs:List Int} (hv:VL (VR c.ls R.words phi) ks ds vs):vs.length=ks.length/\∀ i,i < ks.length->0<=vs.getD i 0/\vs.getD i 0<=65535/\badV (recL c.ls 0 R.words) (ks.getD i 0) (vs.getD i 0)=false:=
 ⟨hv.len.2,fun _ hi=>(hv.get hi).fine h⟩
def Bd (ls:List (List Int)) (ws:List Int) (p:Nat):Prop:=p<=ws.length/\endL ls 0 (ws.take p)=0
theorem Bd.next {ls:List (List Int)} {ws:List Int} {p:Nat} (h:Bd ls ws p) (hp:p < ws.length):St ls ws p (ws.getD p 0)/\(endL ls 0 ws=0->Bd ls ws (p+1+(flds ls (ws.getD p 0)).length)):=by
 have hd:ws.drop p=ws.getD p 0::ws.drop (p+1):=by
  rw [List.drop_eq_getElem_cons hp,List.getD_eq_getElem?_getD,List.getElem?_eq_getElem hp];rfl
 have hw:ws=ws.take p++ws.drop p:=(List.take_append_drop _ _).symm
 have hs:St ls ws p (ws.getD p 0):=by
  unfold St
  conv=>lhs;rw [hw,recO_app,h.2,hd]
  rw [List.getElem?_append_right (by rw [recO_len,List.length_take];omega),recO_len,List.length_take,show p - min p ws.length=0 by omega,recO];rfl
 refine ⟨hs,fun he=>?_⟩
 have hv:=(hs.val he).2.1
 refine ⟨hv,?_⟩
 have e:ws.take (p+1+(flds ls (ws.getD p 0)).length)=ws.take p++(ws.getD p 0::(ws.drop (p+1)).take (flds ls (ws.getD p 0)).length):=by
  generalize (flds ls (ws.getD p 0)).length=F at *
  conv=>lhs;rw [hw]
  rw [List.take_append,List.take_of_length_le (by rw [List.length_take];omega),List.length_take,show p+1+F - min p ws.length=F+1 by omega,hd,List.take_succ_cons]
 rw [e,endL_app,h.2,endL,(recO_skip ls _ _ (by rw [List.length_take];omega)).2,List.length_take,List.length_drop]
 omega
theorem at_self {ws:List Int} {p:Nat} (hp:p<=ws.length):At ws p (ws.drop p):=⟨ws.take p,[],by simp,by rw [List.length_take];omega⟩
theorem tw_ok {c:Cx} {D:Dn} {R:Rn} {phi:Nat->Option Nat} (h:Sm c D R phi):∀ (n p:Nat),Bd c.ls R.words p->R.words.length<=n+p->twP c.ls R.words (recL c.ls 0 R.words) n (p,false)=(R.words.length,false):=by
 intro n
 induction n with
 | zero=>intro p hb hn;have:=hb.1;unfold twP;rw [show p=R.words.length by omega]
 | succ n ih =>
  intro p hb hn
  unfold twP
  simp only
  by_cases hp:p < R.words.length
  ·rw [if_pos ⟨hp,trivial⟩]
   obtain ⟨s,hb'⟩:=hb.next hp
   have hb':=hb' h.mem.full
   obtain ⟨d,hd⟩:=h.mem.sur _ _ s
   obtain ⟨_,t,s',hv⟩:=h.mem.dom _ _ hd
   have:=s.uniq s'
   have ht:=h.mem.typ _ _ s
   have hdr:R.words.drop p=R.words.getD p 0::R.words.drop (p+1):=by
    rw [List.drop_eq_getElem_cons hp,List.getD_eq_getElem?_getD,List.getElem?_eq_getElem hp];rfl
   have ha:=at_self (ws:=R.words) (p:=p) (by omega)
   rw [hdr] at ha
   obtain ⟨t1,t2⟩:=ha.tk (lo:=1) (hi:=c.ls.length) ht.1 ht.2
   rw [t1]
   simp only
   have hsg:R.words.drop (p+1)=seg R.words p (flds c.ls (R.words.getD p 0)).length++R.words.drop (p+1+(flds c.ls (R.words.getD p 0)).length):=by
    unfold seg
    conv=>lhs;rw [<-List.take_append_drop (flds c.ls (R.words.getD p 0)).length (R.words.drop (p+1))]
    rw [List.drop_drop]
   rw [hsg] at t2
   rw [<-this] at hv
   obtain ⟨q1,q2⟩:=hv.fine h
   obtain ⟨v1,_⟩:=At.tv (recs:=recL c.ls 0 R.words) q1 q2 t2
   rw [v1]
   simp only
   rw [q1]
   exact ih _ hb' (by omega)
  ·rw [if_neg (by omega)]
   have:=hb.1
   rw [show p=R.words.length by omega]
end Go.Proofs.Ytnfnbcbadakofab
namespace Go.Proofs.Ytnfnbcbadakofab
open Go.RowKit
section
variable {c:Cx} {D:Dn} {R:Rn} {phi:Nat->Option Nat}
theorem tf_core (h:Sm c D R phi) {ns:List Int} {p:Nat} {X:List Int} {f:Int} {waits:Bool} {g:Fr} {S:List Int} {post:List Int} {dl ds:List (Int × Bool)} (hfn:g.fn=f) (p0:0<=g.pc) (pl:g.pc < ((fnAt c.fs f).code.length:Int)) (hS:spP c.sps f g.pc=some (S++post))
 (hpost:(waits=false/\post=[]) \/ (waits=true/\(insP (fnAt c.fs f) g.pc).1=15/\post=argsF c.fs (insP (fnAt c.fs f) g.pc).2.1)) (hl:VL (VR c.ls R.words phi) (fnAt c.fs f).locals dl g.locals) (hk:VL (VR c.ls R.words phi) S ds g.stack) (ha:At ns p (nums g++X)) :
 tfP c ns (recL c.ls 0 R.words) f waits (p,false)=(g,(p+(nums g).length,false)):=by
 have ha':At ns p (g.pc::(g.locals++(g.stack++X))):=by simpa [nums] using ha
 obtain ⟨t1,t2⟩:=ha'.tk (lo:=0) (hi:=((fnAt c.fs f).code.length:Int) - 1) p0 (by omega)
 obtain ⟨l1,l2⟩:=hl.fine h
 obtain ⟨k1,k2⟩:=hk.fine h
 obtain ⟨v1,v2⟩:=At.tv (recs:=recL c.ls 0 R.words) l1 l2 t2
 obtain ⟨v3,_⟩:=At.tv (recs:=recL c.ls 0 R.words) k1 k2 v2
 have hks:(if waits=true then frontP (S++post) (((S++post).length:Int) - ((ahead c.ls c.fs (fnAt c.fs f) (insP (fnAt c.fs f) g.pc).1 (insP (fnAt c.fs f) g.pc).2.1 (insP (fnAt c.fs f) g.pc).2.2).length:Int)) else S++post)=S:=by
  rcases hpost with ⟨rfl,rfl⟩ | ⟨rfl,h15,rfl⟩
  ·simp
  ·rw [if_pos rfl,h15]
   have:ahead c.ls c.fs (fnAt c.fs f) 15 (insP (fnAt c.fs f) g.pc).2.1 (insP (fnAt c.fs f) g.pc).2.2=argsF c.fs (insP (fnAt c.fs f) g.pc).2.1:=by simp [ahead]
   rw [this]
   unfold frontP
   rw [if_neg (by rw [List.length_append];omega),List.length_append,show (((S.length+(argsF c.fs (insP (fnAt c.fs f) g.pc).2.1).length:Nat):Int) - ((argsF c.fs (insP (fnAt c.fs f) g.pc).2.1).length:Int)).toNat=S.length by omega]
   simp
 have hbad:(!(some (S++post)).isSome || (waits && decide ((insP (fnAt c.fs f) g.pc).1 ≠ 15)))=false:=by
  rcases hpost with ⟨rfl,_⟩ | ⟨rfl,h15,_⟩
  ·simp
  ·simp [h15]
 unfold tfP
 simp only
 rw [t1]
 simp only
 rw [hS]
 simp only [Option.getD_some]
 rw [hks,hbad,Bool.or_false,v1]
 simp only
 rw [v3]
 refine Prod.ext ?_ (Prod.ext ?_ rfl)
 ·show (⟨f,g.pc,g.locals,g.stack⟩:Fr)=g
  rw [<-hfn]
 ·show p+1+g.locals.length+g.stack.length=p+(nums g).length
  unfold nums;rw [List.length_cons,List.length_append];omega
theorem tf_wait (h:Sm c D R phi) {ns:List Int} {p:Nat} {X:List Int} {f e:Int} {d:DFr} {g:Fr} (w:Wt c (VR c.ls R.words phi) f e d g) (ha:At ns p (nums g++X)):tfP c ns (recL c.ls 0 R.words) f true (p,false)=(g,(p+(nums g).length,false)):=by
 obtain ⟨S,hS,hV⟩:=w.stk
 exact tf_core h w.fn w.p0 w.pl hS (.inr ⟨rfl,w.op,by rw [w.tgt]⟩) w.loc hV ha
theorem tf_top (h:Sm c D R phi) {ns:List Int} {p:Nat} {X:List Int} {f:Int} {d:DFr} {g:Fr} (w:Tp c (VR c.ls R.words phi) f d g) (ha:At ns p (nums g++X)):tfP c ns (recL c.ls 0 R.words) f false (p,false)=(g,(p+(nums g).length,false)):=by
 obtain ⟨S,hS,hV⟩:=w.stk
 exact tf_core (post:=[]) h w.fn w.p0 w.pl (by simpa using hS) (.inl ⟨rfl,rfl⟩) w.loc hV ha
theorem tfs_snoc (ns recs:List Int):∀ (n:Nat) (f:Int) (s:Nat × Bool),tfsP c ns recs (n+1) f s =
 ((tfsP c ns recs n f s).1++[(tfP c ns recs (tfsP c ns recs n f s).2.1 true (tfsP c ns recs n f s).2.2).1],
  (insP (fnAt c.fs (tfsP c ns recs n f s).2.1) (tfP c ns recs (tfsP c ns recs n f s).2.1 true (tfsP c ns recs n f s).2.2).1.pc).2.1,(tfP c ns recs (tfsP c ns recs n f s).2.1 true (tfsP c ns recs n f s).2.2).2):=by
 intro n
 induction n with
 | zero=>intro f s;simp [tfsP]
 | succ n ih =>
  intro f s
  rw [tfsP,ih]
  conv=>rhs;rw [tfsP]
  simp
theorem tfs_ok (h:Sm c D R phi) {ds:List DFr} {gs:List Fr} {f:Int} (hb:Bel c (VR c.ls R.words phi) ds gs f) {ns:List Int} {p:Nat}:∀ {X:List Int},At ns p (gs.flatMap nums++X)->tfsP c ns (recL c.ls 0 R.words) gs.length 0 (p,false)=(gs,f,(p+(gs.flatMap nums).length,false)):=by
 induction hb with
 | nil=>intro X _;rfl
 | @snoc ds gs f e d g hb w ih =>
  intro X ha
  have ha':At ns p (gs.flatMap nums++(nums g++X)):=by simpa using ha
  have i1:=ih ha'
  have t1:=tf_wait h w ha'.split
  rw [List.length_append,List.length_singleton,tfs_snoc,i1]
  simp only
  rw [t1]
  refine Prod.ext rfl (Prod.ext w.tgt (Prod.ext ?_ rfl))
  show p+(gs.flatMap nums).length+(nums g).length=p+((gs++[g]).flatMap nums).length
  rw [List.flatMap_append,List.length_append];simp;omega
end
theorem bd_cover {ls:List (List Int)} {ws:List Int} (he:endL ls 0 ws=0) {i:Nat} (hi:i < ws.length):∀ (n p:Nat),Bd ls ws p->p<=i->i < p+n->∃ a t,St ls ws a t/\(i=a \/ ∃ j,j < (flds ls t).length/\i=a+1+j):=by
 intro n
 induction n with
 | zero=>intro p _ h1 h2;omega
 | succ n ih =>
  intro p hb h1 h2
  obtain ⟨s,hb'⟩:=hb.next (by omega)
  rcases Nat.lt_or_ge i (p+1+(flds ls (ws.getD p 0)).length) with q | q
  ·refine ⟨p,_,s,?_⟩
   rcases Nat.lt_or_ge p i with z | z
   ·exact .inr ⟨i - p - 1,by omega,by omega⟩
   ·exact .inl (by omega)
  ·exact ih _ (hb' he) q (by omega)
theorem Sm.word {c:Cx} {D:Dn} {R:Rn} {phi:Nat->Option Nat} (h:Sm c D R phi) {i:Nat} (hi:i < R.words.length) (ht:c.ls.length<=6):0<=R.words.getD i 0/\R.words.getD i 0<=65535:=by
 obtain ⟨a,t,s,q⟩:=bd_cover h.mem.full hi R.words.length 0 ⟨Nat.zero_le _,rfl⟩ (Nat.zero_le _) (by omega)
 rcases q with rfl | ⟨j,hj,rfl⟩
 ·have:=(s.val h.mem.full).1
  rw [List.getD_eq_getElem?_getD,this]
  have:=h.mem.typ _ _ s
  simp;omega
 ·obtain ⟨d,hd⟩:=h.mem.sur _ _ s
  obtain ⟨_,t',s',hv⟩:=h.mem.dom _ _ hd
  have:=s.uniq s'
  subst this
  have hv:=hv.get hj
  rw [seg_get hj] at hv
  have:=hv.fine h
  exact ⟨this.1,this.2.1⟩
theorem ms_ok {ms ns:List Int}:∀ {p:Nat} {X:List Int},At ns p (ms++X)->ms.foldl (fun s m=>(tk ns m m s).2) (p,false)=(p+ms.length,false):=by
 induction ms with
 | nil=>intro p X _;rfl
 | cons m ms ih =>
  intro p X h
  obtain ⟨t1,t2⟩:=At.tk (X:=ms++X) h (Int.le_refl m) (Int.le_refl m)
  rw [List.foldl_cons,t1]
  have:=ih t2
  simp only at this ⊢
  rw [this,List.length_cons]
  congr 1;omega
def bare (R:Rn):Rn:=if R.status=0 then { R with inp:=[],used:=0,out:=[] } else ⟨R.heap,R.depth,R.status,[],[],⟨0,0,[],[]⟩,[],0,[]⟩
def layR (ms:List Int) (R:Rn):List Int:=layP ms R.heap R.depth R.status R.words R.below R.top
theorem at_all (ns:List Int):At ns 0 ns:=⟨[],[],by simp,rfl⟩
theorem take_lay {c:Cx} (ok:CxOk c) {D:Dn} {R:Rn} (ms:List Int) (h:Rel c D R):tuP c ms (layR ms R)=some (bare R):=by
 rcases h.st with ⟨s0,_,phi,sm⟩ | ⟨s1,_⟩
 ·have e:layR ms R=ms++(R.heap::R.depth::0::(R.words.length:Int)::(R.words++(((R.below.length:Int)+1)::(R.below.flatMap nums++(nums R.top++[]))))):=by
   unfold layR layP;rw [s0];simp
  obtain ⟨f,hb,ht⟩:=sm.fr
  have ha:=at_all (layR ms R)
  conv at ha=>arg 3;rw [e]
  generalize hns:layR ms R=ns at *
  have a1:=ha.split
  have m1:=ms_ok ha
  simp only [Nat.zero_add] at a1 m1
  obtain ⟨t1,a2⟩:=a1.tk (lo:=0) (hi:=4000) h.h0 h.h4
  obtain ⟨t2,a3⟩:=a2.tk (lo:=1) (hi:=64) h.d1 h.d64
  obtain ⟨t3,a4⟩:=a3.tk (lo:=0) (hi:=5) (by decide) (by decide)
  obtain ⟨t4,a5⟩:=a4.tk (lo:=0) (hi:=R.heap) (by omega) sm.len
  have a6:=a5.split
  have hwv:∀ v ∈ R.words,0<=v/\v<=65535:=by
   intro v hv
   obtain ⟨i,hi,rfl⟩:=List.mem_iff_getElem.1 hv
   have:=sm.word hi ok.pg.t6
   rw [List.getD_eq_getElem?_getD,List.getElem?_eq_getElem hi] at this
   exact this
  have t5:=At.tl (hi:=65535) hwv a5
  obtain ⟨t6,a7⟩:=a6.tk (lo:=1) (hi:=R.depth) (by omega) sm.bl
  have t7:=tfs_ok sm hb a7
  have t8:=tf_top sm ht a7.split
  have tw:=tw_ok sm R.words.length 0 ⟨Nat.zero_le _,rfl⟩ (by omega)
  have hth:thP ms ns (0,false)=((R.heap,R.depth,0),(ms.length+1+1+1,false)):=by
   unfold thP;simp only;rw [m1,t1];simp only;rw [t2];simp only;rw [t3];simp
  have htw:twsP c ns R.heap (ms.length+1+1+1,false)=(R.words,(ms.length+1+1+1+1+R.words.length,false)):=by
   unfold twsP;simp only;rw [t4];simp only [Int.toNat_natCast];rw [t5];simp only;rw [tw];simp
  have htf:tfrP c ns (recL c.ls 0 R.words) R.depth (ms.length+1+1+1+1+R.words.length,false)=((R.below,R.top),(ms.length+1+1+1+1+R.words.length+1+(R.below.flatMap nums).length+(nums R.top).length,false)):=by
   unfold tfrP;simp only;rw [t6];simp only
   rw [show ((R.below.length:Int)+1 - 1).toNat=R.below.length by omega,t7];simp only;rw [t8]
  have htu:tuR c ms ns=(⟨R.heap,R.depth,0,R.words,R.below,R.top,[],0,[]⟩,(ms.length+1+1+1+1+R.words.length+1+(R.below.flatMap nums).length+(nums R.top).length,false)):=by
   unfold tuR;simp only;rw [hth];simp only;rw [if_pos (by trivial),htw];simp only;rw [htf]
  have hl:ns.length=ms.length+1+1+1+1+R.words.length+1+(R.below.flatMap nums).length+(nums R.top).length:=by
   rw [e];simp;omega
  unfold tuP
  rw [htu,if_neg (by rw [hl];simp)]
  unfold bare
  rw [if_pos s0]
  simp only [Option.some.injEq]
  rw [<-s0]
 ·have e:layR ms R=ms++(R.heap::R.depth::R.status::[]):=by
   unfold layR layP;rw [if_pos (by omega)]
  have ha:=at_all (layR ms R)
  conv at ha=>arg 3;rw [e]
  generalize hns:layR ms R=ns at *
  have a1:=ha.split
  have m1:=ms_ok ha
  simp only [Nat.zero_add] at a1 m1
  obtain ⟨t1,a2⟩:=a1.tk (lo:=0) (hi:=4000) h.h0 h.h4
  obtain ⟨t2,a3⟩:=a2.tk (lo:=1) (hi:=64) h.d1 h.d64
  obtain ⟨t3,a4⟩:=a3.tk (lo:=0) (hi:=5) (by omega) (by omega)
  have hth:thP ms ns (0,false)=((R.heap,R.depth,R.status),(ms.length+1+1+1,false)):=by
   unfold thP;simp only;rw [m1,t1];simp only;rw [t2];simp only;rw [t3]
   have:decide (R.status=2)=false:=by simp;omega
   simp [this]
  have htu:tuR c ms ns=(⟨R.heap,R.depth,R.status,[],[],⟨0,0,[],[]⟩,[],0,[]⟩,(ms.length+1+1+1,false)):=by
   unfold tuR;simp only;rw [hth];simp only;rw [if_neg (by omega)]
  unfold tuP
  rw [htu,if_neg (by rw [e];simp)]
  unfold bare
  rw [if_neg (by omega)]
theorem Rel.bare {c:Cx} {D:Dn} {R:Rn} (h:Rel c D R):Rel c D (bare R):=by
 unfold Go.Proofs.Ytnfnbcbadakofab.bare
 rcases h.st with ⟨s0,s2,phi,sm⟩ | ⟨s1,s2⟩
 ·rw [if_pos s0]
  exact ⟨h.heap,h.depth,h.h0,h.h4,h.d1,h.d64,.inl ⟨s0,s2,phi,sm.out rfl rfl rfl rfl rfl rfl rfl rfl rfl rfl⟩⟩
 ·rw [if_neg (by omega)]
  exact ⟨h.heap,h.depth,h.h0,h.h4,h.d1,h.d64,.inr ⟨s1,s2⟩⟩
end Go.Proofs.Ytnfnbcbadakofab
namespace Go.Proofs.Ytnfnbcbadakofab
open Go.RowKit
theorem live_ended {D:Dn} (h:D.status=1 \/ D.status=3 \/ D.status=4 \/ D.status=5):liveP D=0/\dframes D=[]:=by
 have e:dframes D=[]:=by unfold dframes;rw [if_neg (by omega)]
 refine ⟨?_,e⟩
 unfold liveP
 rw [e]
 simp [mkFs,lvW]
theorem clr_rel {c:Cx} {D:Dn} {R:Rn} (h:Rel c D R):Rel c D (clrP c (bare R))/\liveP D=(clrP c (bare R)).words.length/\(clrP c (bare R)).heap=R.heap/\(clrP c (bare R)).depth=R.depth:=by
 have hb:=h.bare
 rcases hb.st with ⟨s0,s2,phi,sm⟩ | ⟨s1,s2⟩
 ·obtain ⟨⟨phi',sm'⟩,lv,_,_⟩:=clr_sim sm s2
  have eh:(bare R).heap=R.heap:=by unfold bare;split <;> rfl
  have ed:(bare R).depth=R.depth:=by unfold bare;split <;> rfl
  exact ⟨⟨hb.heap,hb.depth,hb.h0,hb.h4,hb.d1,hb.d64,.inl ⟨s0,s2,phi',sm'⟩⟩,lv,eh,ed⟩
 ·have hs:R.status ≠ 0:=by
   intro q
   have:(bare R).status=0:=by unfold bare;rw [if_pos q];exact q
   omega
  have eb:bare R=⟨R.heap,R.depth,R.status,[],[],⟨0,0,[],[]⟩,[],0,[]⟩:=by unfold bare;rw [if_neg hs]
  obtain ⟨l1,_⟩:=live_ended (D:=D) (by rw [s2];exact s1)
  refine ⟨⟨hb.heap,hb.depth,hb.h0,hb.h4,hb.d1,hb.d64,.inr ⟨s1,s2⟩⟩,?_,by rw [eb];rfl,by rw [eb];rfl⟩
  rw [l1,eb]
  rfl
def wordsB (l:List Int):Prop:=∀ v ∈ l,0<=v/\v<=65535
theorem VL.wordsB {c:Cx} {D:Dn} {R:Rn} {phi:Nat->Option Nat} (h:Sm c D R phi) {ks:List Int} {ds:List (Int × Bool)} {vs:List Int} (hv:VL (VR c.ls R.words phi) ks ds vs):wordsB vs:=by
 intro v hm
 obtain ⟨i,hi,rfl⟩:=List.mem_iff_getElem.1 hm
 obtain ⟨l,q⟩:=hv.fine h
 have:=q i (by omega)
 rw [List.getD_eq_getElem?_getD,List.getElem?_eq_getElem hi] at this
 exact ⟨this.1,this.2.1⟩
theorem nums_small {c:Cx} (ok:CxOk c) {D:Dn} {R:Rn} {phi:Nat->Option Nat} (h:Sm c D R phi) {f:Int} (f0:0<=f) (fl:f < (c.fs.length:Int)) {g:Fr} {dl ds:List (Int × Bool)} {S post:List Int} (p0:0<=g.pc) (pl:g.pc < ((fnAt c.fs f).code.length:Int)) (hl:VL (VR c.ls R.words phi) (fnAt c.fs f).locals dl g.locals) (hS:spP c.sps f g.pc=some (S++post)) (hk:VL (VR c.ls R.words phi) S ds g.stack):(nums g).length<=17/\wordsB (nums g)/\g.locals.length<=8/\g.stack.length<=8:=by
 have fk:=fnAt_ok ok f0 fl
 have h8:=ok.s8 _ _ _ hS
 rw [List.length_append] at h8
 have l1:=hl.len.2
 have l2:=hk.len.2
 have:=fk.l8
 refine ⟨by unfold nums;rw [List.length_cons,List.length_append];omega,?_,by omega,by omega⟩
 intro v hv
 unfold nums at hv
 rcases List.mem_cons.1 hv with rfl | hv
 ·have:=fk.c64;omega
 ·rcases List.mem_append.1 hv with hv | hv
  ·exact hl.wordsB h v hv
  ·exact hk.wordsB h v hv
theorem Bel.small {c:Cx} (ok:CxOk c) {D:Dn} {R:Rn} {phi:Nat->Option Nat} (h:Sm c D R phi) {ds:List DFr} {gs:List Fr} {f:Int} (hb:Bel c (VR c.ls R.words phi) ds gs f):(gs.flatMap nums).length<=17 * gs.length/\wordsB (gs.flatMap nums)/\∀ g ∈ gs,g.locals.length<=8/\g.stack.length<=8:=by
 induction hb with
 | nil=>exact ⟨by simp,fun v hv=>by simp at hv,fun g hg=>by simp at hg⟩
 | @snoc ds gs f e d g hb w ih =>
  obtain ⟨S,hS,hV⟩:=w.stk
  obtain ⟨q1,q2,q3,q4⟩:=nums_small ok h w.f0 w.fl w.p0 w.pl w.loc hS hV
  have e1:[g].flatMap nums=nums g:=by simp
  have i1:=ih.1
  rw [List.flatMap_append,e1]
  refine ⟨by rw [List.length_append,List.length_append,List.length_singleton];omega,?_,?_⟩
  ·intro v hv
   rcases List.mem_append.1 hv with hv | hv
   ·exact ih.2.1 v hv
   ·exact q2 v hv
  ·intro g' hg
   rcases List.mem_append.1 hg with hg | hg
   ·exact ih.2.2 g' hg
   ·simp at hg;subst hg;exact ⟨q3,q4⟩
theorem lay_small {c:Cx} (ok:CxOk c) {D:Dn} {R:Rn} {ms:List Int} (hm:ms.length=3) (hw:wordsB ms) (h:Rel c D R) :
 ((layR ms R).length:Int)<=2 * R.heap+20 * R.depth+16/\wordsB (layR ms R)/\(R.status=0->(layR ms R).length<=R.words.length+20 * (dframes D).length+16)/\(layR ms R).length<=16+R.words.length+20 * (R.below.length+1):=by
 rcases h.st with ⟨s0,s2,phi,sm⟩ | ⟨s1,s2⟩
 ·obtain ⟨f,hb,ht⟩:=sm.fr
  obtain ⟨b1,b2,_⟩:=hb.small ok sm
  obtain ⟨S,hS,hV⟩:=ht.stk
  obtain ⟨q1,q2,_,_⟩:=nums_small (post:=[]) ok sm ht.f0 ht.fl ht.p0 ht.pl ht.loc (by simpa using hS) hV
  have e:layR ms R=ms++([R.heap,R.depth,0,(R.words.length:Int)]++(R.words++([(R.below.length:Int)+1]++(R.below.flatMap nums++nums R.top)))):=by
   unfold layR layP;rw [s0];simp
  have hl:(layR ms R).length=3+(4+(R.words.length+(1+((R.below.flatMap nums).length+(nums R.top).length)))):=by
   rw [e];simp only [List.length_append,hm,List.length_cons,List.length_nil]
  have hwl:=sm.len
  have hbl:=sm.bl
  have hh:=h.h4
  have hd:=h.d64
  have hfr:(dframes D).length=R.below.length+1:=by
   unfold dframes;rw [if_pos s2,List.length_append,hb.len];rfl
  refine ⟨by rw [hl];omega,?_,fun _=>by rw [hl,hfr];omega,by rw [hl];omega⟩
  rw [e]
  intro v hv
  rcases List.mem_append.1 hv with hv | hv
  ·exact hw v hv
  rcases List.mem_append.1 hv with hv | hv
  ·have:=h.h0
   have:=h.d1
   simp only [List.mem_cons,List.not_mem_nil,or_false] at hv
   omega
  rcases List.mem_append.1 hv with hv | hv
  ·obtain ⟨i,hi,rfl⟩:=List.mem_iff_getElem.1 hv
   have:=sm.word hi ok.pg.t6
   rw [List.getD_eq_getElem?_getD,List.getElem?_eq_getElem hi] at this
   exact this
  rcases List.mem_append.1 hv with hv | hv
  ·simp only [List.mem_cons,List.not_mem_nil,or_false] at hv
   omega
  rcases List.mem_append.1 hv with hv | hv
  ·exact b2 v hv
  ·exact q2 v hv
 ·have e:layR ms R=ms++[R.heap,R.depth,R.status]:=by
   unfold layR layP;rw [if_pos (by omega)]
  have hl:(layR ms R).length=6:=by rw [e];simp [hm]
  have:=h.h0
  have:=h.d1
  have:=h.h4
  have:=h.d64
  refine ⟨by rw [hl];omega,?_,fun q=>by omega,by omega⟩
  rw [e]
  intro v hv
  rcases List.mem_append.1 hv with hv | hv
  ·exact hw v hv
  ·simp only [List.mem_cons,List.not_mem_nil,or_false] at hv
   omega
end Go.Proofs.Ytnfnbcbadakofab
namespace Go.Proofs.Ytnfnbcbadakofab
open Go.RowKit
structure DoH (c:Cx) (x:Int × Int × Int) (R:Rn):Prop where
 rb:RB c R
 op:0<=x.1/\x.1<=18
 fld:x.1=8 \/ x.1=9->0<=x.2.2/\x.2.2<=1000
 set:x.1=9->popV R.top.stack.dropLast ≠ 0->popV R.top.stack.dropLast+x.2.2 < (R.words.length:Int)
 sto:x.1=6->0<=x.2.1/\x.2.1 < (R.top.locals.length:Int)
 pc:0<=R.top.pc/\R.top.pc<=1000
 bpc:∀ f ∈ R.below,0<=f.pc/\f.pc<=1000
 fnl:∀ f,(fnAt c.fs f).locals.length<=1000
 dp:1<=R.depth/\R.depth<=64
 b64:R.below.length<=64
theorem flds_5 {ls:List (List Int)} (h:∀ l ∈ ls,l.length<=5) (t:Int):(flds ls t).length<=5:=by
 unfold flds
 split
 ·simp
 ·rw [List.getD_eq_getElem?_getD]
  cases e:ls[(t - 1).toNat]? with
  | none=>simp
  | some l=>exact h l (List.mem_of_getElem? e)
theorem fnAt_l8 {c:Cx} (ok:CxOk c) (f:Int):(fnAt c.fs f).locals.length<=8:=by
 by_cases h:0<=f/\f < (c.fs.length:Int)
 ·exact (fnAt_ok ok h.1 h.2).l8
 ·unfold fnAt
  rw [dif_neg (by omega)];simp
theorem Wt.frb {c:Cx} (ok:CxOk c) {D:Dn} {R:Rn} {phi:Nat->Option Nat} (h:Sm c D R phi) {f e:Int} {d:DFr} {g:Fr} (w:Wt c (VR c.ls R.words phi) f e d g):FrB g/\0<=g.pc/\g.pc<=1000:=by
 obtain ⟨S,hS,hV⟩:=w.stk
 obtain ⟨_,_,q3,q4⟩:=nums_small ok h w.f0 w.fl w.p0 w.pl w.loc hS hV
 have:=(fnAt_ok ok w.f0 w.fl).c64
 have:=w.pl
 exact ⟨⟨w.loc.wordsB h,hV.wordsB h,by omega,by omega⟩,w.p0,by omega⟩
theorem Tp.frb {c:Cx} (ok:CxOk c) {D:Dn} {R:Rn} {phi:Nat->Option Nat} (h:Sm c D R phi) {f:Int} {d:DFr} {g:Fr} (w:Tp c (VR c.ls R.words phi) f d g):FrB g/\0<=g.pc/\g.pc<=1000:=by
 obtain ⟨S,hS,hV⟩:=w.stk
 obtain ⟨_,_,q3,q4⟩:=nums_small (post:=[]) ok h w.f0 w.fl w.p0 w.pl w.loc (by simpa using hS) hV
 have:=(fnAt_ok ok w.f0 w.fl).c64
 have:=w.pl
 exact ⟨⟨w.loc.wordsB h,hV.wordsB h,by omega,by omega⟩,w.p0,by omega⟩
theorem Bel.frb {c:Cx} (ok:CxOk c) {D:Dn} {R:Rn} {phi:Nat->Option Nat} (h:Sm c D R phi) {ds:List DFr} {gs:List Fr} {f:Int} (hb:Bel c (VR c.ls R.words phi) ds gs f):∀ g ∈ gs,FrB g/\0<=g.pc/\g.pc<=1000:=by
 induction hb with
 | nil=>intro g hg;simp at hg
 | @snoc ds gs f e d g hb w ih =>
  intro g' hg
  rcases List.mem_append.1 hg with hg | hg
  ·exact ih g' hg
  ·simp at hg;subst hg;exact w.frb ok h
theorem Sm.rb {c:Cx} (ok:CxOk c) {D:Dn} {R:Rn} {phi:Nat->Option Nat} (h:Sm c D R phi):RB c R:=by
 obtain ⟨f,hb,ht⟩:=h.fr
 have h1:=h.len
 have h2:=h.h4
 have h3:=h.bl
 have h4:=h.d64
 have h5:=ok.pg.t6
 refine ⟨by omega,?_,by simp only at h5;omega,flds_5 (fun l hl=>(ok.pg.tf l hl).1),by omega,fun g hg=>(hb.frb ok h g hg).1,(ht.frb ok h).1⟩
 intro v hv
 obtain ⟨i,hi,rfl⟩:=List.mem_iff_getElem.1 hv
 have:=h.word hi ok.pg.t6
 rw [List.getD_eq_getElem?_getD,List.getElem?_eq_getElem hi] at this
 exact this
theorem Cu.doh {c:Cx} (ok:CxOk c) {D:Dn} {R:Rn} {phi:Nat->Option Nat} {f:Int} {x:Int × Int × Int} {rest:List Int} (h:Cu c D R phi f x rest):DoH c x R:=by
 have hb:=h.sm.rb ok
 have h3:=h.sm.bl
 have h4:=h.sm.d64
 have h1:=h.sm.d1
 have hio:=h.iok
 obtain ⟨op,A,B⟩:=x
 refine ⟨hb,⟨hio.1.1,hio.1.2⟩,fun q=>?_,fun q hz=>?_,fun q=>?_,(h.tp.frb ok h.sm).2,fun g hg=>(h.bel.frb ok h.sm g hg).2,fun g=>by have:=fnAt_l8 ok g;omega,⟨h1,h4⟩,by omega⟩
 ·simp only [InsOk,gB] at hio
  have h5:=hb.s5 A
  simp only at q ⊢
  have:=hio.2.2.2
  rw [if_neg (by omega)] at this
  exact ⟨hio.2.2.1,by omega⟩
 ·simp only at q hz ⊢
  subst q
  have hi:=hio
  simp only [InsOk,gB] at hi
  have hB0:0<=B:=hi.2.2.1
  have hB1:B < ((flds c.ls A).length:Int):=by have:=hi.2.2.2;simp at this;omega
  have hA1:1<=A:=flds_ne (ls:=c.ls) (by omega)
  have e:ahead c.ls c.fs (fnAt c.fs f) 9 A B=[A]++[tyAt (flds c.ls A) B]:=by simp [ahead]
  have hs:=h.stk
  simp only [e] at hs
  rw [<-List.append_assoc] at hs
  obtain ⟨h1,v1⟩:=hs.snoc
  obtain ⟨h2,v2⟩:=h1.snoc
  obtain ⟨_,hz' | ⟨d,a,x,y,z,s⟩⟩:=v2.ref (by omega)
  ·exact absurd hz'.2 hz
  ·have hw:=(s.val h.sm.mem.full).2.1
   omega
 ·simp only at q ⊢
  subst q
  simp only [InsOk,bA] at hio
  have hl:=h.tp.loc.len.2
  have:=hio.2.1
  simp at this
  omega
def Gd (c:Cx) (R:Rn):Prop:=∃ D,Rel c D R/\D.status=R.status/\D.out=R.out/\D.used=R.used
theorem Gd.doh {c:Cx} (ok:CxOk c) {R:Rn} (h:Gd c R) (h0:R.status=0):DoH c (nxtP c R) R:=by
 obtain ⟨D,hr,_⟩:=h
 rcases hr.st with ⟨_,_,phi,sm⟩ | ⟨q,_⟩
 ·obtain ⟨f,x,rest,cu,e1,_⟩:=sm.cu ok
  rw [e1];exact cu.doh ok
 ·omega
theorem Gd.step {c:Cx} (ok:CxOk c) {R:Rn} (h:Gd c R) (h0:R.status=0):Gd c (doP c (nxtP c R) R)/\(doP c (nxtP c R) R).inp=R.inp:=by
 obtain ⟨D,hr,hs,ho,hu⟩:=h
 rcases hr.st with ⟨_,_,phi,sm⟩ | ⟨q,_⟩
 ·obtain ⟨f,x,rest,cu,e1,_⟩:=sm.cu ok
  rw [e1]
  have nx:=step_sim ok cu (by rw [hs,h0]) h0 ho hu
  have hh:=nx.hp
  refine ⟨⟨dstP c R.inp x D,⟨by rw [hh.2.2.1,hh.1];exact hr.heap,by rw [hh.2.2.2,hh.2.1];exact hr.depth,by rw [hh.1];exact hr.h0,by rw [hh.1];exact hr.h4,by rw [hh.2.1];exact hr.d1,by rw [hh.2.1];exact hr.d64,?_⟩,nx.st,nx.out,nx.used⟩,nx.inp⟩
  rcases nx.ends with q | q
  ·exact .inl ⟨q,.inl (by rw [nx.st,q]),nx.go q⟩
  ·exact .inr ⟨q,nx.st⟩
 ·omega
theorem Gd.of {c:Cx} {D:Dn} {R:Rn} (h:Rel c D R):Gd c R:=by
 refine ⟨{ D with status:=R.status,out:=R.out,used:=R.used },⟨h.heap,h.depth,h.h0,h.h4,h.d1,h.d64,?_⟩,rfl,rfl,rfl⟩
 rcases h.st with ⟨q,_,phi,sm⟩ | ⟨q,_⟩
 ·exact .inl ⟨q,.inl q,phi,sm.out rfl rfl rfl rfl rfl rfl rfl rfl rfl rfl⟩
 ·exact .inr ⟨q,rfl⟩
end Go.Proofs.Ytnfnbcbadakofab
namespace Go.Proofs.Ytnfnbcbadakofab
open Go.RowKit
def shf (inp:List Int) (u:Nat) (o:List Int) (R:Rn):Rn:={ R with inp:=inp,used:=u+R.used,out:=o++R.out }
section
variable {c:Cx} {R:Rn} {inp o:List Int} {u:Nat}
theorem uv_shf (x:Int × Int × Int) (h:R.inp=inp.drop u):uvP x (shf inp u o R)=shf inp u o (uvP x R)/\(uvP x R).inp=R.inp:=by
 unfold uvP
 have e:inp.getD (u+R.used) 0=R.inp.getD R.used 0:=by
  rw [h,List.getD_eq_getElem?_getD,List.getD_eq_getElem?_getD,List.getElem?_drop]
 by_cases h0:x.1=0
 ·rw [if_pos h0,if_pos h0];exact ⟨rfl,rfl⟩
 rw [if_neg h0,if_neg h0]
 by_cases h1:x.1=1 \/ x.1=2 \/ x.1=3 \/ x.1=4 \/ x.1=12
 ·rw [if_pos h1,if_pos h1];exact ⟨rfl,rfl⟩
 rw [if_neg h1,if_neg h1]
 by_cases h5:x.1=5
 ·rw [if_pos h5,if_pos h5];exact ⟨rfl,rfl⟩
 rw [if_neg h5,if_neg h5]
 by_cases h6:x.1=6
 ·rw [if_pos h6,if_pos h6];exact ⟨rfl,rfl⟩
 rw [if_neg h6,if_neg h6]
 by_cases h10:x.1=10
 ·rw [if_pos h10,if_pos h10];exact ⟨rfl,rfl⟩
 rw [if_neg h10,if_neg h10]
 by_cases h11:x.1=11
 ·rw [if_pos h11,if_pos h11];exact ⟨rfl,rfl⟩
 rw [if_neg h11,if_neg h11]
 by_cases h17:x.1=17
 ·rw [if_pos h17,if_pos h17]
  refine ⟨?_,rfl⟩
  simp [shf]
 rw [if_neg h17,if_neg h17]
 by_cases h18:x.1=18
 ·rw [if_pos h18,if_pos h18]
  refine ⟨?_,rfl⟩
  show ({ shf inp u o R with top:=pushF R.top (inp.getD (u+R.used) 0 % 65536),used:=u+R.used+1 }:Rn)=shf inp u o { R with top:=pushF R.top (R.inp.getD R.used 0 % 65536),used:=R.used+1 }
  rw [e]
  simp [shf,Nat.add_assoc]
 rw [if_neg h18,if_neg h18]
 exact ⟨rfl,rfl⟩
theorem mr2_shf (t:Int):mr2P c t (shf inp u o R)=shf inp u o (mr2P c t R)/\(mr2P c t R).inp=R.inp:=by
 by_cases h:R.heap < (R.words.length:Int)+((flds c.ls t).length:Int)+1
 ·have e1:mr2P c t (shf inp u o R) = { shf inp u o R with status:=4 }:=if_pos h
  have e2:mr2P c t R = { R with status:=4 }:=if_pos h
  rw [e1,e2];exact ⟨rfl,rfl⟩
 ·have e1:mr2P c t (shf inp u o R)=_:=if_neg h
  have e2:mr2P c t R=_:=if_neg h
  rw [e1,e2];exact ⟨rfl,rfl⟩
theorem mr_shf (t:Int):mrP c t (shf inp u o R)=shf inp u o (mrP c t R)/\(mrP c t R).inp=R.inp:=by
 by_cases h:R.heap < (R.words.length:Int)+((flds c.ls t).length:Int)+1
 ·have e1:mrP c t (shf inp u o R)=mr2P c t (clrP c (shf inp u o R)):=by unfold mrP;exact congrArg _ (if_pos h)
  have e2:mrP c t R=mr2P c t (clrP c R):=by unfold mrP;rw [if_pos h]
  rw [e1,e2]
  have e3:clrP c (shf inp u o R)=shf inp u o (clrP c R):=rfl
  rw [e3]
  obtain ⟨a,b⟩:=mr2_shf (c:=c) (R:=clrP c R) (inp:=inp) (u:=u) (o:=o) t
  exact ⟨a,b⟩
 ·have e1:mrP c t (shf inp u o R)=mr2P c t (shf inp u o R):=by unfold mrP;exact congrArg _ (if_neg h)
  have e2:mrP c t R=mr2P c t R:=by unfold mrP;rw [if_neg h]
  rw [e1,e2]
  exact mr2_shf t
theorem ur_shf (x:Int × Int × Int):urP c x (shf inp u o R)=shf inp u o (urP c x R)/\(urP c x R).inp=R.inp:=by
 unfold urP
 by_cases h7:x.1=7
 ·rw [if_pos h7,if_pos h7];exact mr_shf _
 ·rw [if_neg h7,if_neg h7]
  by_cases h8:x.1=8
  ·rw [if_pos h8,if_pos h8]
   by_cases hz:popV R.top.stack=0
   ·rw [if_pos (show popV (shf inp u o R).top.stack=0 from hz),if_pos hz];exact ⟨rfl,rfl⟩
   ·rw [if_neg (show ¬ popV (shf inp u o R).top.stack=0 from hz),if_neg hz];exact ⟨rfl,rfl⟩
  ·rw [if_neg h8,if_neg h8]
   by_cases hz:popV R.top.stack.dropLast=0
   ·rw [if_pos (show popV (shf inp u o R).top.stack.dropLast=0 from hz),if_pos hz];exact ⟨rfl,rfl⟩
   ·rw [if_neg (show ¬ popV (shf inp u o R).top.stack.dropLast=0 from hz),if_neg hz];exact ⟨rfl,rfl⟩
theorem cl_shf (f:Int):clP c f (shf inp u o R)=shf inp u o (clP c f R)/\(clP c f R).inp=R.inp:=by
 by_cases h:R.depth<=(R.below.length:Int)+1
 ·have e1:clP c f (shf inp u o R) = { shf inp u o R with status:=5 }:=if_pos h
  have e2:clP c f R = { R with status:=5 }:=if_pos h
  rw [e1,e2];exact ⟨rfl,rfl⟩
 ·have e1:clP c f (shf inp u o R)=_:=if_neg h
  have e2:clP c f R=_:=if_neg h
  rw [e1,e2];exact ⟨rfl,rfl⟩
theorem gb_shf:gbP (shf inp u o R)=shf inp u o (gbP R)/\(gbP R).inp=R.inp:=by
 by_cases h:R.below=[]
 ·have e1:gbP (shf inp u o R)=_:=dif_pos h
  have e2:gbP R=_:=dif_pos h
  rw [e1,e2]
  refine ⟨?_,rfl⟩
  simp [shf]
 ·have e1:gbP (shf inp u o R)=_:=dif_neg h
  have e2:gbP R=_:=dif_neg h
  rw [e1,e2];exact ⟨rfl,rfl⟩
theorem do_shf (x:Int × Int × Int) (h:R.inp=inp.drop u):doP c x (shf inp u o R)=shf inp u o (doP c x R)/\(doP c x R).inp=R.inp:=by
 unfold doP
 by_cases h13:x.1=13
 ·rw [if_pos h13,if_pos h13];exact ⟨rfl,rfl⟩
 rw [if_neg h13,if_neg h13]
 by_cases h14:x.1=14
 ·rw [if_pos h14,if_pos h14];exact ⟨rfl,rfl⟩
 rw [if_neg h14,if_neg h14]
 by_cases h15:x.1=15
 ·rw [if_pos h15,if_pos h15];exact cl_shf _
 rw [if_neg h15,if_neg h15]
 by_cases h16:x.1=16
 ·rw [if_pos h16,if_pos h16];exact gb_shf
 rw [if_neg h16,if_neg h16]
 by_cases h7:x.1=7 \/ x.1=8 \/ x.1=9
 ·rw [if_pos h7,if_pos h7]
  obtain ⟨a,b⟩:=ur_shf (c:=c) (R:=R) (inp:=inp) (u:=u) (o:=o) x
  rw [a];exact ⟨rfl,b⟩
 ·rw [if_neg h7,if_neg h7]
  obtain ⟨a,b⟩:=uv_shf (o:=o) x h
  rw [a];exact ⟨rfl,b⟩
end
end Go.Proofs.Ytnfnbcbadakofab
namespace Go.Proofs.Ytnfnbcbadakofab
open Go.RowKit
theorem tk_inv {ns:List Int} {lo hi:Int} {s:Nat × Bool} (h:(tk ns lo hi s).2.2=false):s.2=false/\s.1 < ns.length/\(tk ns lo hi s).1=ns.getD s.1 0/\lo<=(tk ns lo hi s).1/\(tk ns lo hi s).1<=hi/\(tk ns lo hi s).2.1=s.1+1:=by
 unfold tk at h ⊢
 by_cases h1:s.2=true \/ ns.length<=s.1
 ·rw [if_pos h1] at h;simp at h
 ·rw [if_neg h1] at h ⊢
  by_cases h2:ns.getD s.1 0 < lo \/ hi < ns.getD s.1 0
  ·rw [if_pos h2] at h;simp at h
  ·rw [if_neg h2]
   refine ⟨by cases q:s.2 with | true=>exact absurd (.inl q) h1 | false=>rfl,by omega,rfl,?_,?_,rfl⟩ <;> simp only <;> omega
theorem tk_fl {ns:List Int} {lo hi:Int} {s:Nat × Bool} (h:s.2=true):(tk ns lo hi s).2.2=true:=by
 unfold tk;rw [if_pos (.inl h)]
theorem tkL_inv {ns:List Int} {hi:Int}:∀ (n:Nat) {s:Nat × Bool},(tkL ns hi n s).2.2=false->s.2=false/\∀ v ∈ (tkL ns hi n s).1,0<=v/\v<=hi:=by
 intro n
 induction n with
 | zero=>intro s h;exact ⟨h,fun v hv=>by simp [tkL] at hv⟩
 | succ n ih =>
  intro s h
  rw [tkL] at h ⊢
  obtain ⟨a,_,_,b,c,_⟩:=tk_inv h
  obtain ⟨i1,i2⟩:=ih a
  refine ⟨i1,fun v hv=>?_⟩
  rcases List.mem_append.1 hv with hv | hv
  ·exact i2 v hv
  ·simp at hv;subst hv;exact ⟨b,c⟩
theorem tv_inv {ns recs:List Int}:∀ (ks:List Int) {s:Nat × Bool},(tvP ns recs ks s).2.2=false->s.2=false/\(tvP ns recs ks s).1.length=ks.length/\(tvP ns recs ks s).2.1=s.1+ks.length/\s.1+ks.length<=max s.1 ns.length /\
 ∀ i,i < ks.length->(tvP ns recs ks s).1.getD i 0=ns.getD (s.1+i) 0/\0<=(tvP ns recs ks s).1.getD i 0/\(tvP ns recs ks s).1.getD i 0<=65535/\badV recs (ks.getD i 0) ((tvP ns recs ks s).1.getD i 0)=false:=by
 intro ks
 induction ks with
 | nil=>intro s h;exact ⟨h,rfl,rfl,by simp only [List.length_nil];omega,fun i hi=>by simp at hi⟩
 | cons k ks ih =>
  intro s h
  rw [tvP] at h ⊢
  obtain ⟨a,b,c,d,e⟩:=ih h
  simp only [Bool.or_eq_false_iff] at a
  obtain ⟨t1,t2,t3,t4,t5,t6⟩:=tk_inv a.1
  simp only at b c d e ⊢
  refine ⟨t1,by simp [b],by rw [c,t6];simp;omega,by simp only [t6,List.length_cons] at d ⊢;omega,fun i hi=>?_⟩
  cases i with
  | zero=>simp only [List.getD_cons_zero,Nat.add_zero];exact ⟨t3,t4,t5,a.2⟩
  | succ i =>
   have:=e i (by simpa using hi)
   simp only [List.getD_cons_succ]
   rw [show (tk ns 0 65535 s).2.1+i=s.1+(i+1) by omega] at this
   exact this
def dvl:List Int->List Int->List (Int × Bool)
 | k::ks,v::vs=>(v,decide (k ≠ 0))::dvl ks vs
 | _,_=>[]
def phS (ls:List (List Int)) (ws:List Int) (a:Nat):Option Nat:=match (recO ls 0 ws)[a]? with
 | some (some _)=>some a
 | _=>none
theorem phS_st {ls:List (List Int)} {ws:List Int} {a:Nat} {t:Int} (h:St ls ws a t):phS ls ws a=some a:=by unfold phS;unfold St at h;rw [h]
theorem phS_inv {ls:List (List Int)} {ws:List Int} {d a:Nat} (h:phS ls ws d=some a):d=a/\∃ t,St ls ws a t:=by
 unfold phS at h
 split at h
 ·rename_i t q;cases h;exact ⟨rfl,t,q⟩
 ·cases h
theorem vr_of {ls:List (List Int)} {ws:List Int} {k v:Int} (h0:0<=v) (h1:v<=65535) (hb:badV (recL ls 0 ws) k v=false):VR ls ws (phS ls ws) k (v,decide (k ≠ 0)) v:=by
 by_cases hk:k=0
 ·subst hk;exact .inl ⟨rfl,by simp,rfl,h0,by omega⟩
 ·refine .inr ⟨hk,by simp [hk],?_⟩
  by_cases hv:v=0
  ·exact .inl ⟨hv,hv⟩
  ·have ht:tyAt (recL ls 0 ws) (v - 1)=k:=by simpa [badV,hk,hv] using hb
   have hs:St ls ws (v - 1).toNat k:=by
    unfold tyAt at ht
    split at ht
    ·exact absurd ht.symm hk
    ·unfold recL at ht
     rw [List.getD_eq_getElem?_getD,List.getElem?_map] at ht
     unfold St
     cases e:(recO ls 0 ws)[(v - 1).toNat]? with
     | none=>rw [e] at ht;exact absurd ht.symm hk
     | some x =>
      rw [e] at ht
      cases x with
      | none=>exact absurd ht.symm hk
      | some y=>simp at ht;rw [ht]
   exact .inr ⟨(v - 1).toNat,(v - 1).toNat,by simp only;omega,by omega,phS_st hs,hs⟩
theorem vl_of {ls:List (List Int)} {ws:List Int}:∀ (ks vs:List Int),vs.length=ks.length->(∀ i,i < ks.length->0<=vs.getD i 0/\vs.getD i 0<=65535/\badV (recL ls 0 ws) (ks.getD i 0) (vs.getD i 0)=false)->VL (VR ls ws (phS ls ws)) ks (dvl ks vs) vs:=by
 intro ks
 induction ks with
 | nil=>intro vs hl _;have:vs=[]:=List.eq_nil_of_length_eq_zero hl;subst this;exact .nil
 | cons k ks ih =>
  intro vs hl h
  cases vs with
  | nil=>simp at hl
  | cons v vs =>
   obtain ⟨a,b,e⟩:=h 0 (by simp)
   exact .cons (vr_of a b e) (ih vs (by simpa using hl) fun i hi=>by simpa using h (i+1) (by simpa using hi))
theorem bd_next {ls:List (List Int)} {ws:List Int} {p:Nat} (h:Bd ls ws p) (hv:p+1+(flds ls (ws.getD p 0)).length<=ws.length):Bd ls ws (p+1+(flds ls (ws.getD p 0)).length):=by
 have hp:p < ws.length:=by omega
 have hd:ws.drop p=ws.getD p 0::ws.drop (p+1):=by
  rw [List.drop_eq_getElem_cons hp,List.getD_eq_getElem?_getD,List.getElem?_eq_getElem hp];rfl
 have hw:ws=ws.take p++ws.drop p:=(List.take_append_drop _ _).symm
 refine ⟨hv,?_⟩
 have e:ws.take (p+1+(flds ls (ws.getD p 0)).length)=ws.take p++(ws.getD p 0::(ws.drop (p+1)).take (flds ls (ws.getD p 0)).length):=by
  generalize (flds ls (ws.getD p 0)).length=F at *
  conv=>lhs;rw [hw]
  rw [List.take_append,List.take_of_length_le (by rw [List.length_take];omega),List.length_take,show p+1+F - min p ws.length=F+1 by omega,hd,List.take_succ_cons]
 rw [e,endL_app,h.2,endL,(recO_skip ls _ _ (by rw [List.length_take];omega)).2,List.length_take,List.length_drop]
 omega
theorem tw_fl {ls:List (List Int)} {ws recs:List Int}:∀ (n:Nat) {s:Nat × Bool},s.2=true->(twP ls ws recs n s).2=true:=by
 intro n
 cases n with
 | zero=>intro s h;exact h
 | succ n=>intro s h;unfold twP;rw [if_neg (by rw [h];simp)];exact h
theorem tw_inv {ls:List (List Int)} {ws recs:List Int}:∀ (n p:Nat),Bd ls ws p->ws.length<=n+p->(twP ls ws recs n (p,false)).2=false->endL ls 0 ws=0 /\
 ∀ a t,St ls ws a t->p<=a->1<=t/\t<=(ls.length:Int)/\∀ i,i < (flds ls t).length->0<=ws.getD (a+1+i) 0/\ws.getD (a+1+i) 0<=65535/\badV recs ((flds ls t).getD i 0) (ws.getD (a+1+i) 0)=false:=by
 have fin:∀ p,Bd ls ws p->p=ws.length->endL ls 0 ws=0 /\
  ∀ a t,St ls ws a t->p<=a->1<=t/\t<=(ls.length:Int)/\∀ i,i < (flds ls t).length->0<=ws.getD (a+1+i) 0/\ws.getD (a+1+i) 0<=65535/\badV recs ((flds ls t).getD i 0) (ws.getD (a+1+i) 0)=false:=by
  intro p hb he
  have:=hb.2
  rw [he,List.take_length] at this
  refine ⟨this,fun a t s ha=>?_⟩
  have:=(s.val this).2.1
  omega
 intro n
 induction n with
 | zero=>intro p hb hn _;exact fin p hb (by have:=hb.1;omega)
 | succ n ih =>
  intro p hb hn h
  by_cases hp:p < ws.length
  ·unfold twP at h
   simp only at h
   rw [if_pos ⟨hp,trivial⟩] at h
   generalize hs':(tvP ws recs (flds ls (tk ws 1 ls.length (p,false)).1) (tk ws 1 ls.length (p,false)).2).2=s' at h
   have h2:s'.2=false:=by
    cases q:s'.2 with
    | false=>rfl
    | true=>rw [tw_fl n q] at h;exact h
   have h2':(tvP ws recs (flds ls (tk ws 1 ls.length (p,false)).1) (tk ws 1 ls.length (p,false)).2).2.2=false:=by rw [hs'];exact h2
   obtain ⟨v1,v2,v3,v4,v5⟩:=tv_inv _ h2'
   obtain ⟨_,_,t3,t4,t5,t6⟩:=tk_inv v1
   simp only at t3 t6
   rw [hs'] at v3
   rw [t3] at t4 t5 v3 v4 v5
   rw [t6] at v3 v4 v5
   have hbound:p+1+(flds ls (ws.getD p 0)).length<=ws.length:=by omega
   have hb':=bd_next hb hbound
   have es:s'=(p+1+(flds ls (ws.getD p 0)).length,false):=Prod.ext v3 h2
   rw [es] at h
   obtain ⟨i1,i2⟩:=ih _ hb' (by omega) h
   refine ⟨i1,fun a t s ha=>?_⟩
   have s0:=(hb.next hp).1
   by_cases hpa:p=a
   ·subst hpa
    have:=s.uniq s0
    subst this
    refine ⟨t4,t5,fun i hi=>?_⟩
    have q:=v5 i hi
    rw [<-q.1]
    exact q.2
   ·refine i2 a t s ?_
    rcases Nat.lt_or_ge a (p+1+(flds ls (ws.getD p 0)).length) with q | q
    ·exfalso
     have:=(s0.val i1).2.2 (a - p - 1) (by omega)
     rw [show p+1+(a - p - 1)=a by omega] at this
     unfold St at s;rw [s] at this;simp at this
    ·exact q
  ·exact fin p hb (by have:=hb.1;omega)
section
variable {c:Cx} {ws:List Int}
theorem tf_inv (ok:CxOk c) {ns:List Int} {f:Int} {waits:Bool} {s:Nat × Bool} {g:Fr} (hg:(tfP c ns (recL c.ls 0 ws) f waits s).1=g) (h:(tfP c ns (recL c.ls 0 ws) f waits s).2.2=false) :
 s.2=false/\g.fn=f/\0<=g.pc/\g.pc < ((fnAt c.fs f).code.length:Int)/\VL (VR c.ls ws (phS c.ls ws)) (fnAt c.fs f).locals (dvl (fnAt c.fs f).locals g.locals) g.locals /\
 ∃ S post,spP c.sps f g.pc=some (S++post)/\VL (VR c.ls ws (phS c.ls ws)) S (dvl S g.stack) g.stack/\(waits=false->post=[])/\(waits=true->(insP (fnAt c.fs f) g.pc).1=15/\post=argsF c.fs (insP (fnAt c.fs f) g.pc).2.1):=by
 subst hg
 unfold tfP at h ⊢
 simp only at h ⊢
 obtain ⟨a1,a2,_,_,a5⟩:=tv_inv _ h
 obtain ⟨b1,b2,_,_,b5⟩:=tv_inv _ a1
 simp only [Bool.or_eq_false_iff] at b1
 obtain ⟨t1,_,_,t4,t5,_⟩:=tk_inv b1.1
 obtain ⟨p1,p2⟩:=b1.2
 refine ⟨t1,trivial,t4,by omega,vl_of _ _ b2 (fun i hi=>(b5 i hi).2),?_⟩
 generalize (tk ns 0 (((fnAt c.fs f).code.length:Int) - 1) s)=A at *
 cases hp:spP c.sps f A.1 with
 | none=>rw [hp] at p1;simp at p1
 | some S' =>
  rw [hp] at a2 a5
  simp only [Option.getD_some] at a2 a5 ⊢
  have hfit:=(ok.fit f A.1 S' hp).1
  cases waits with
  | false =>
   refine ⟨S',[],by simp,?_,fun _=>rfl,fun q=>by cases q⟩
   exact vl_of _ _ a2 (fun i hi=>(a5 i hi).2)
  | true =>
   have h15:(insP (fnAt c.fs f) A.1).1=15:=by simpa using p2
   obtain ⟨T,hT⟩:=Option.isSome_iff_exists.1 hfit
   obtain ⟨rest,e1,_⟩:=after_inv hT
   have ea:ahead c.ls c.fs (fnAt c.fs f) (insP (fnAt c.fs f) A.1).1 (insP (fnAt c.fs f) A.1).2.1 (insP (fnAt c.fs f) A.1).2.2=argsF c.fs (insP (fnAt c.fs f) A.1).2.1:=by rw [h15];simp [ahead]
   have ef:frontP S' ((S'.length:Int) - ((ahead c.ls c.fs (fnAt c.fs f) (insP (fnAt c.fs f) A.1).1 (insP (fnAt c.fs f) A.1).2.1 (insP (fnAt c.fs f) A.1).2.2).length:Int))=rest:=by
    unfold frontP
    rw [if_neg (by rw [e1,List.length_append];omega),e1,List.length_append,show (((rest.length+(ahead c.ls c.fs (fnAt c.fs f) (insP (fnAt c.fs f) A.1).1 (insP (fnAt c.fs f) A.1).2.1 (insP (fnAt c.fs f) A.1).2.2).length:Nat):Int) - ((ahead c.ls c.fs (fnAt c.fs f) (insP (fnAt c.fs f) A.1).1 (insP (fnAt c.fs f) A.1).2.1 (insP (fnAt c.fs f) A.1).2.2).length:Int)).toNat=rest.length by omega]
    simp
   simp only [if_true] at a2 a5 ⊢
   rw [ef] at a2 a5 ⊢
   refine ⟨rest,_,by rw [e1],vl_of _ _ a2 (fun i hi=>(a5 i hi).2),(fun q=>by cases q),fun _=>⟨h15,ea⟩⟩
theorem tfs_inv (ok:CxOk c) {ns:List Int}:∀ (n:Nat) {s:Nat × Bool},(tfsP c ns (recL c.ls 0 ws) n 0 s).2.2.2=false->s.2=false/\(tfsP c ns (recL c.ls 0 ws) n 0 s).1.length=n/\0<=(tfsP c ns (recL c.ls 0 ws) n 0 s).2.1/\(tfsP c ns (recL c.ls 0 ws) n 0 s).2.1 < (c.fs.length:Int) /\
 ∃ ds,Bel c (VR c.ls ws (phS c.ls ws)) ds (tfsP c ns (recL c.ls 0 ws) n 0 s).1 (tfsP c ns (recL c.ls 0 ws) n 0 s).2.1:=by
 have hf:(0:Int) < (c.fs.length:Int):=by have:=ok.pg.f1;simp only at this;omega
 intro n
 induction n with
 | zero=>intro s h;exact ⟨h,rfl,Int.le_refl _,hf,[],.nil⟩
 | succ n ih =>
  intro s h
  rw [tfs_snoc] at h ⊢
  simp only at h ⊢
  obtain ⟨i0,g1,g2,g3,g4,S,post,g5,g6,_,g8⟩:=tf_inv ok rfl h
  obtain ⟨j0,j1,j2,j3,ds,j4⟩:=ih i0
  obtain ⟨h15,hp⟩:=g8 rfl
  generalize (tfP c ns (recL c.ls 0 ws) (tfsP c ns (recL c.ls 0 ws) n 0 s).2.1 true (tfsP c ns (recL c.ls 0 ws) n 0 s).2.2).1=g at *
  generalize (tfsP c ns (recL c.ls 0 ws) n 0 s).2.1=f at *
  have fk:=fnAt_ok ok j2 j3
  have hio:=fk.ok _ (insP_mem g2 g3)
  obtain ⟨x,hx⟩:∃ x,insP (fnAt c.fs f) g.pc=x:=⟨_,rfl⟩
  rw [hx] at hio h15 hp
  obtain ⟨op,A,B⟩:=x
  simp only at h15
  subst h15
  simp only [InsOk,bA] at hio
  have hA:=hio.2.1
  simp at hA
  refine ⟨j0,by simp [j1],by rw [hx];exact hA.1,by rw [hx];simp only;omega,ds++[⟨f,g.pc+1,dvl (fnAt c.fs f).locals g.locals,dvl S g.stack⟩],?_⟩
  refine .snoc j4 ⟨g1,rfl,j2,j3,rfl,g2,g3,by rw [hx],rfl,g4,S,by rw [hx,g5,hp],g6⟩
end
theorem take_rel {c:Cx} (ok:CxOk c) {ms ns:List Int} {R:Rn} (h:tuP c ms ns=some R):∃ D,Rel c D R:=by
 unfold tuP at h
 split at h
 ·cases h
 ·rename_i hf
  simp only [Option.some.injEq] at h
  have h2:(tuR c ms ns).2.2=false:=by cases q:(tuR c ms ns).2.2 with | false=>rfl | true=>exact absurd (.inl q) hf
  clear hf
  unfold tuR at h h2
  simp only at h h2
  have head:∀ {S:(Int × Int × Int) × (Nat × Bool)},thP ms ns (0,false)=S->S.2.2=false->0<=S.1.1/\S.1.1<=4000/\1<=S.1.2.1/\S.1.2.1<=64/\0<=S.1.2.2/\S.1.2.2<=5/\S.1.2.2 ≠ 2:=by
   intro S e hs
   subst e
   unfold thP at hs ⊢
   simp only at hs ⊢
   simp only [Bool.or_eq_false_iff] at hs
   obtain ⟨a1,_,_,a4,a5,_⟩:=tk_inv hs.1
   obtain ⟨b1,_,_,b4,b5,_⟩:=tk_inv a1
   obtain ⟨c1,_,_,c4,c5,_⟩:=tk_inv b1
   exact ⟨c4,c5,b4,b5,a4,a5,by simpa using hs.2⟩
  generalize hth:thP ms ns (0,false)=TH at *
  by_cases h0:TH.1.2.2=0
  ·rw [if_pos h0] at h h2
   subst h
   obtain ⟨WT,hw⟩:∃ W,twsP c ns TH.1.1 TH.2=W:=⟨_,rfl⟩
   rw [hw] at h2 ⊢
   obtain ⟨FT,hft⟩:∃ F,tfrP c ns (recL c.ls 0 WT.1) TH.1.2.1 WT.2=F:=⟨_,rfl⟩
   simp only [hft] at h2 ⊢
   unfold tfrP at hft
   simp only at hft
   rw [<-hft] at h2
   simp only at h2
   obtain ⟨t0,t1,t2,t3,t4,S,post,t5,t6,t7,_⟩:=tf_inv ok rfl h2
   obtain ⟨i0,i1,i2,i3,ds,i4⟩:=tfs_inv ok _ t0
   obtain ⟨k1,_,_,k4,k5,_⟩:=tk_inv i0
   have hw2:=hw
   unfold twsP at hw2
   simp only at hw2
   rw [<-hw2] at k1
   simp only [Bool.or_eq_false_iff] at k1
   obtain ⟨w1,w2⟩:=tkL_inv _ k1.1
   obtain ⟨n1,_,_,n4,n5,_⟩:=tk_inv w1
   obtain ⟨q1,q2,q3,q4,_,_,_⟩:=head rfl n1
   have ew:WT.1=(tkL ns 65535 (tk ns 0 TH.1.1 TH.2).1.toNat (tk ns 0 TH.1.1 TH.2).2).1:=by rw [<-hw2]
   rw [<-ew] at k1 w2
   have wl:(WT.1.length:Int)<=TH.1.1:=by rw [ew,tkL_len];omega
   obtain ⟨m1,m2⟩:=tw_inv WT.1.length 0 ⟨Nat.zero_le _,rfl⟩ (by omega) k1.2
   have hpost:=t7 rfl
   subst hpost
   rw [List.append_nil] at t5
   rw [<-hft]
   simp only
   generalize (tfP c ns (recL c.ls 0 WT.1) (tfsP c ns (recL c.ls 0 WT.1) ((tk ns 1 TH.1.2.1 WT.2).1 - 1).toNat 0 (tk ns 1 TH.1.2.1 WT.2).2).2.1 false (tfsP c ns (recL c.ls 0 WT.1) ((tk ns 1 TH.1.2.1 WT.2).1 - 1).toNat 0 (tk ns 1 TH.1.2.1 WT.2).2).2.2).1=g at *
   generalize tfsP c ns (recL c.ls 0 WT.1) ((tk ns 1 TH.1.2.1 WT.2).1 - 1).toNat 0 (tk ns 1 TH.1.2.1 WT.2).2=FZ at *
   refine ⟨⟨TH.1.1,TH.1.2.1,0,ds,⟨FZ.2.1,g.pc,dvl (fnAt c.fs FZ.2.1).locals g.locals,dvl S g.stack⟩,(List.range WT.1.length).map fun a=>dvl (flds c.ls (WT.1.getD a 0)) (seg WT.1 a (flds c.ls (WT.1.getD a 0)).length),[],0⟩,rfl,rfl,q1,q2,q3,q4,.inl ⟨rfl,.inl rfl,phS c.ls WT.1,?_⟩⟩
   refine ⟨q1,q2,q3,q4,rfl,rfl,⟨m1,fun a t s=>⟨(m2 a t s (Nat.zero_le _)).1,(m2 a t s (Nat.zero_le _)).2.1⟩,?_,?_,?_⟩,wl,?_,FZ.2.1,i4,⟨t1,rfl,i2,i3,rfl,t2,t3,t4,S,t5,t6⟩⟩
   ·intro d d' a x y
    rw [(phS_inv x).1,(phS_inv y).1]
   ·intro d a x
    obtain ⟨rfl,t,s⟩:=phS_inv x
    obtain ⟨v1,v2,_⟩:=s.val m1
    have e1:WT.1.getD d 0=t:=by rw [List.getD_eq_getElem?_getD,v1];rfl
    refine ⟨by simp only [List.length_map,List.length_range];omega,t,s,?_⟩
    have e2:((List.range WT.1.length).map fun a=>dvl (flds c.ls (WT.1.getD a 0)) (seg WT.1 a (flds c.ls (WT.1.getD a 0)).length)).getD d []=dvl (flds c.ls t) (seg WT.1 d (flds c.ls t).length):=by
     rw [List.getD_eq_getElem?_getD,List.getElem?_map,List.getElem?_range (by omega)]
     simp only [Option.map_some,Option.getD_some]
     rw [e1]
    simp only
    rw [e2]
    refine vl_of _ _ (by unfold seg;rw [List.length_take,List.length_drop];omega) (fun i hi=>?_)
    rw [seg_get hi]
    exact (m2 d t s (Nat.zero_le _)).2.2 i hi
   ·intro a t s
    exact ⟨a,phS_st s⟩
   ·simp only
    rw [i1]
    omega
  ·rw [if_neg h0] at h h2
   subst h
   obtain ⟨q1,q2,q3,q4,q5,q6,q7⟩:=head rfl h2
   refine ⟨⟨TH.1.1,TH.1.2.1,TH.1.2.2,[],⟨0,0,[],[]⟩,[],[],0⟩,rfl,rfl,q1,q2,q3,q4,.inr ⟨?_,rfl⟩⟩
   simp only
   omega
end Go.Proofs.Ytnfnbcbadakofab
namespace Go.Proofs.Ytnfnbcbadakofab
open Go.RowKit
theorem spP_inv {sps:List Spots} {f i:Int} {S:List Int} (h:spP sps f i=some S):∃ j k:Nat,f=(j:Int)/\i=(k:Int)/\j < sps.length/\(sps.getD j [])[k]?=some (some S):=by
 unfold spP at h
 split at h
 ·cases h
 ·split at h
  ·cases h
  ·rename_i h1 h2
   refine ⟨f.toNat,i.toNat,by omega,by omega,by omega,?_⟩
   rw [List.getD_eq_getElem?_getD] at h
   cases e:(sps.getD f.toNat [])[i.toNat]? with
   | none=>rw [e] at h;cases h
   | some x=>rw [e] at h;simp at h;rw [h]
theorem spP_of {sps:List Spots} {j k:Nat} {S:List Int} (hj:j < sps.length) (h:(sps.getD j [])[k]?=some (some S)):spP sps (j:Int) (k:Int)=some S:=by
 have hk:k < (sps.getD j []).length:=(List.getElem?_eq_some_iff.1 h).1
 unfold spP
 rw [if_neg (by omega),Int.toNat_natCast,if_neg (by omega),Int.toNat_natCast,List.getD_eq_getElem?_getD,h];rfl
theorem reach_8 {p:Pg} {f:Fn} {n i:Nat} {S:List Int} (h:Reach n (aftC p.types p.funcs f) (wayC f) i S):S.length<=8:=by
 cases h with
 | zero=>simp
 | step _ ha _ _ _ =>
  unfold aftC at ha
  obtain ⟨_,_,_,q,_⟩:=after_inv ha
  exact q
def cxO (s:ByteArray):Cx:=⟨(opF s).2.2.1.types,(opF s).2.2.1.funcs,(opF s).2.2.2⟩
theorem fitF_sol {p:Pg} (h:PgWf p) {f:Fn} (hf:f ∈ p.funcs) (h0:(fitF p f).2.2=false):Sol f.code.length (aftC p.types p.funcs f) (wayC f) (fitF p f).1/\Snd f.code.length (aftC p.types p.funcs f) (wayC f) (fitF p f).1:=by
 obtain ⟨b,hb⟩:=h.fn hf
 exact (doc_fit (h.way hf) (by have:=hb.c1;omega)).1 _ ((fitF_rnds h hf).2 h0)
theorem cx_ok {s:ByteArray} (h:(opF s).1=0):CxOk (cxO s):=by
 obtain ⟨hw,_,hsp,hfit⟩:=opF_ok h
 unfold cxO
 generalize (opF s).2.2.1=p at *
 generalize (opF s).2.2.2=sps at *
 have hlen:sps.length=p.funcs.length:=by rw [hsp,List.length_map]
 have hget:∀ j (hj:j < p.funcs.length),sps.getD j []=(fitF p p.funcs[j]).1:=fun j hj=>by
  rw [hsp,List.getD_eq_getElem?_getD,List.getElem?_map,List.getElem?_eq_getElem hj];rfl
 have hfn:∀ j (hj:j < p.funcs.length),fnAt p.funcs (j:Int)=p.funcs[j]:=fun j hj=>by
  unfold fnAt;rw [dif_pos ⟨by omega,by simpa using hj⟩];rfl
 have hsol:=fun j (hj:j < p.funcs.length)=>fitF_sol hw (List.getElem_mem hj) (hfit _ (List.getElem_mem hj))
 refine ⟨fun f i S hS=>?_,fun f f0 fl=>?_,fun f i S hS=>?_,hw⟩
 ·obtain ⟨j,k,rfl,rfl,hj,hk⟩:=spP_inv hS
  simp only at hj hk ⊢
  have hj':j < p.funcs.length:=by omega
  rw [hget j hj'] at hk
  rw [hfn j hj']
  obtain ⟨s1,s2⟩:=hsol j hj'
  have hkl:k < p.funcs[j].code.length:=by
   have:=(List.getElem?_eq_some_iff.1 hk).1
   rw [s1.len] at this;exact this
  have hi:insP p.funcs[j] (k:Int)=p.funcs[j].code.getD k (0,0,0):=by
   unfold insP;rw [if_neg (by omega),Int.toNat_natCast]
  rw [hi,Int.toNat_natCast]
  obtain ⟨t,h1,h2⟩:=s1.clo k S hk
  have h1':afterP p.types p.funcs p.funcs[j] (p.funcs[j].code.getD k (0,0,0)).1 (p.funcs[j].code.getD k (0,0,0)).2.1 (p.funcs[j].code.getD k (0,0,0)).2.2 S=some t:=h1
  rw [h1']
  refine ⟨rfl,fun T hT m hm=>?_⟩
  simp only [Option.some.injEq] at hT
  subst hT
  obtain ⟨a,b,c⟩:=h2 m hm
  refine ⟨a,b,?_⟩
  have:=spP_of (sps:=sps) (j:=j) (k:=m.toNat) (S:=t) (by omega) (by rw [hget j hj'];exact c)
  rwa [Int.toNat_of_nonneg a] at this
 ·simp only at fl
  obtain ⟨j,rfl⟩:∃ j:Nat,f=(j:Int):=⟨f.toNat,by omega⟩
  have hj':j < p.funcs.length:=by omega
  exact spP_of (sps:=sps) (k:=0) (by omega) (by rw [hget j hj'];exact (hsol j hj').1.zero)
 ·obtain ⟨j,k,rfl,rfl,hj,hk⟩:=spP_inv hS
  have hj':j < p.funcs.length:=by simp only at hj;omega
  simp only at hk
  rw [hget j hj'] at hk
  exact reach_8 ((hsol j hj').2 k S hk)
end Go.Proofs.Ytnfnbcbadakofab
namespace Go.Proofs.Ytnfnbcbadakofab
open Go.RowKit
def stR (c:Cx) (h d:Int):Rn:=⟨h,d,0,[],[],entP 0 (fnAt c.fs 0) [],[],0,[]⟩
def stD (c:Cx) (h d:Int):Dn:=⟨h,d,0,[],⟨0,0,blankP (fnAt c.fs 0).locals 0,[]⟩,[],[],0⟩
theorem rel_start {c:Cx} (ok:CxOk c) {h d:Int} (h0:0<=h) (h4:h<=4000) (d1:1<=d) (d64:d<=64):Rel c (stD c h d) (stR c h d):=by
 have hf:(0:Int) < (c.fs.length:Int):=by have:=ok.pg.f1;simp only at this;omega
 have fk:=fnAt_ok ok (Int.le_refl 0) hf
 refine ⟨rfl,rfl,h0,h4,d1,d64,.inl ⟨rfl,.inl rfl,fun _=>none,?_⟩⟩
 refine ⟨h0,h4,d1,d64,rfl,rfl,⟨rfl,?_,?_,?_,?_⟩,h0,by simpa [stR] using d1,0,.nil,?_⟩
 ·intro a t hs;unfold St at hs;simp [stR,recO] at hs
 ·intro d d' a q;cases q
 ·intro d a q;cases q
 ·intro a t hs;unfold St at hs;simp [stR,recO] at hs
 ·have hs:=ok.zero 0 (Int.le_refl 0) hf
  refine ⟨rfl,rfl,Int.le_refl _,hf,rfl,Int.le_refl _,by have:=fk.c1;show (0:Int) < _;omega,?_,[],hs,.nil⟩
  have:=vl_blank (P:=VR c.ls (stR c h d).words fun _=>none) (vr_num (by decide) (by decide)) (fun k hk=>vr_nil hk) (fnAt c.fs 0).locals (fun t ht=>(fk.lt t ht).1)
  simpa [stD,stR,blankP,entP] using this
theorem start_lay (s:ByteArray) (h d:Int):startL s (opF s).2.2.1.funcs h d=layR (mksP s) (stR (cxO s) h d):=rfl
end Go.Proofs.Ytnfnbcbadakofab
