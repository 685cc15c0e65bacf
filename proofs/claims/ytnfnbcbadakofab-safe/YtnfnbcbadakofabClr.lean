import Derived.Test.YtnfnbcbadakofabStt
import Derived.Test.YtnfnbcbadakofabStk
import Derived.Test.YtnfnbcbadakofabLate
namespace Go.Proofs.Ytnfnbcbadakofab
open Go.RowKit
set_option maxHeartbeats 2000000
set_option maxRecDepth 100000
theorem small_true (v:Value) (l:List Int) (h d:Int) (w:World) (b1:Nat) (hv:IntsV w b1 v l) (hh:0<=h/\h<=4000) (hd:1<=d/\d<=64) (hl:(l.length:Int)<=2 * h+20 * d+16) (hx:∀ x ∈ l,0<=x/\x < 65536) :
 Calls Try.prog 13 #[v,h,d] w fun e w'=>e=.returned (.bool true)/\w'=w:=by
 obtain ⟨a,c,rfl⟩:=hv.slice
 obtain ⟨hh1,hh2⟩:=hh
 obtain ⟨hd1,hd2⟩:=hd
 have hll:l.length<=9296:=by omega
 have HX:=hid hx
 have HV:=hid hv
 clear hx hv
 go_enter Try.func13,Try.ntmps13
 go_wp2
 go_loopw [7] (fun i wr=>∃ k:Nat,k<=l.length/\i=.int .i64 k/\wr=w) (fun i _=>l.length - (intOf i).toNat)
 case atStart=>exact ⟨0,Nat.zero_le _,rfl,rfl⟩
 case round =>
  obtain ⟨k,hk,rfl,rfl⟩:=hrel
  by_cases hlt:k < l.length
  ·have hlt':(k:Int) < (l.length:Int):=by omega
   obtain ⟨g,c',hve,_,_,_,hc⟩:=IntsV.form HV.out (by omega)
   simp only [Value.slice.injEq] at hve
   obtain ⟨rfl,_,rfl⟩:=hve
   have y:=hc k hlt
   have hm:l.getD k 0 ∈ l:=by rw [List.getD_eq_getElem?_getD,List.getElem?_eq_getElem hlt];exact List.getElem_mem hlt
   obtain ⟨x1,x2⟩:=HX.out _ hm
   clear hc hm
   generalize l.getD k 0=x at *
   have x1':¬ x < 0:=by omega
   have x2':¬ (65536<=x):=by omega
   go_wp2
   exact ⟨⟨k+1,by omega,rfl,trivial⟩,by simp [intOf];omega⟩
  ·have hlt':(l.length:Int)<=(k:Int):=by omega
   go_wp2
   go_ret
   exact ⟨rfl,rfl⟩
def blankP (l:List Int) (k:Nat):List (Int × Bool):=(l.drop k).map fun t=>(0,decide (0 < t))
theorem opF_size {s:ByteArray} (h:(opF s).1=0):s.size<=800:=by
 by_cases h1:(opn s).1=0
 ·unfold opn at h1
  by_cases h2:800 < s.size
  ·rw [if_pos h2] at h1;cases h1
  ·omega
 ·rw [opF_1 h1] at h;exact absurd h h1
end Go.Proofs.Ytnfnbcbadakofab
namespace Go.Proofs.Ytnfnbcbadakofab
open Go.RowKit
structure DFr where
 fn:Int
 pc:Int
 locals:List (Int × Bool)
 stack:List (Int × Bool)
structure Dn where
 heap:Int
 depth:Int
 status:Int
 below:List DFr
 top:DFr
 recs:List (List (Int × Bool))
 out:List Int
 used:Nat
def dpushF (f:DFr) (v:Int × Bool):DFr:={ f with stack:=f.stack++[v] }
def dpopF (f:DFr):DFr:={ f with stack:=f.stack.dropLast }
def dpopV (s:List (Int × Bool)):Int × Bool:=s.getLastD (0,false)
structure Mk where
 seen:List Bool
 list:List Nat
def mkV (m:Mk) (v:Int × Bool):Mk:=
 if v.2=true/\0 < v.1/\m.seen.getD (v.1 - 1).toNat true=false then ⟨m.seen.set (v.1 - 1).toNat true,m.list++[(v.1 - 1).toNat]⟩ else m
def mkA (m:Mk) (l:List (Int × Bool)):Mk:=l.foldl mkV m
def mkF (m:Mk) (f:DFr):Mk:=mkA (mkA m f.locals) f.stack
def mkFs (m:Mk) (l:List DFr):Mk:=l.foldl mkF m
def lvW (recs:List (List (Int × Bool))):Nat->Nat->Mk->Nat->Nat
 | 0,_,_,n=>n
 | k+1,i,m,n=>if i < m.list.length then lvW recs k (i+1) (mkA m (recs.getD (m.list.getD i 0) [])) (n+1+(recs.getD (m.list.getD i 0) []).length) else n
def dframes (D:Dn):List DFr:=if D.status=0 \/ D.status=2 then D.below++[D.top] else []
def liveP (D:Dn):Nat:=lvW D.recs (D.recs.length+1) 0 (mkFs ⟨List.replicate D.recs.length false,[]⟩ (dframes D)) 0
def dnumP (op a b:Int):Int:=
 if op=1 then (a+b) % 65536 else if op=2 then (a - b+65536) % 65536 else if op=3 then (a * b) % 65536 else if op=4 then (if a < b then 1 else 0) else 0
def drecP (c:Cx) (x:Int × Int × Int) (D:Dn):Dn:=
 if x.1=7 then
  if D.heap < (liveP D:Int)+1+((flds c.ls x.2.1).length:Int) then { D with status:=4 }
  else { D with recs:=D.recs++[D.top.stack.drop (D.top.stack.length - (flds c.ls x.2.1).length)],top:={ D.top with stack:=D.top.stack.take (D.top.stack.length - (flds c.ls x.2.1).length)++[((D.recs.length:Int)+1,true)] } }
 else if x.1=8 then
  if (dpopV D.top.stack).1=0 then { D with top:=dpopF D.top,status:=3 }
  else { D with top:=dpushF (dpopF D.top) ((D.recs.getD ((dpopV D.top.stack).1 - 1).toNat []).getD x.2.2.toNat (0,false)) }
 else if x.1=9 then
  if (dpopV D.top.stack.dropLast).1=0 then { D with top:=dpopF (dpopF D.top),status:=3 }
  else { D with top:=dpopF (dpopF D.top),recs:=D.recs.set ((dpopV D.top.stack.dropLast).1 - 1).toNat ((D.recs.getD ((dpopV D.top.stack.dropLast).1 - 1).toNat []).set x.2.2.toNat (dpopV D.top.stack)) }
 else if x.1=10 then { D with top:=dpushF D.top (0,true) }
 else if x.1=11 then { D with top:=dpushF (dpopF D.top) (if (dpopV D.top.stack).1=0 then 1 else 0,false) }
 else if x.1=12 then { D with top:=dpushF (dpopF (dpopF D.top)) (if (dpopV D.top.stack.dropLast).1=(dpopV D.top.stack).1 then 1 else 0,false) }
 else D
def dcallP (c:Cx) (g:Int) (D:Dn):Dn:=
 if D.depth<=(D.below.length:Int)+1 then { D with status:=5 }
 else { D with below:=D.below++[{ D.top with stack:=D.top.stack.take (D.top.stack.length - (argsF c.fs g).length) }],
               top:=⟨g,0,D.top.stack.drop (D.top.stack.length - (argsF c.fs g).length)++blankP (fnAt c.fs g).locals (argsF c.fs g).length,[]⟩ }
def dretP (D:Dn):Dn:=
 if h:D.below=[] then { D with top:=dpopF D.top,out:=D.out++[(dpopV D.top.stack).1],status:=1 }
 else { D with below:=D.below.dropLast,top:=dpushF (D.below.getLast h) (dpopV D.top.stack) }
def dincR (D:Dn):Dn:={ D with top:={ D.top with pc:=D.top.pc+1 } }
def dst2P (c:Cx) (inp:List Int) (x:Int × Int × Int) (D:Dn):Dn:=
 if x.1=0 then { D with top:=dpushF D.top (x.2.1,false) }
 else if x.1=1 \/ x.1=2 \/ x.1=3 \/ x.1=4 then { D with top:=dpushF (dpopF (dpopF D.top)) (dnumP x.1 (dpopV D.top.stack.dropLast).1 (dpopV D.top.stack).1,false) }
 else if x.1=5 then { D with top:=dpushF D.top (D.top.locals.getD x.2.1.toNat (0,false)) }
 else if x.1=6 then { D with top:={ dpopF D.top with locals:=D.top.locals.set x.2.1.toNat (dpopV D.top.stack) } }
 else if x.1=13 then { D with top:={ D.top with pc:=x.2.1 } }
 else if x.1=14 then { D with top:={ dpopF D.top with pc:=if (dpopV D.top.stack).1=0 then x.2.1 else D.top.pc } }
 else if x.1=15 then dcallP c x.2.1 D
 else if x.1=16 then dretP D
 else if x.1=17 then { D with top:=dpopF D.top,out:=D.out++[(dpopV D.top.stack).1] }
 else if x.1=18 then { D with top:=dpushF D.top (inp.getD D.used 0 % 65536,false),used:=D.used+1 }
 else drecP c x D
def dstP (c:Cx) (inp:List Int) (x:Int × Int × Int) (D:Dn):Dn:=dst2P c inp x (dincR D)
def dnxtP (c:Cx) (D:Dn):Int × Int × Int:=insP (fnAt c.fs D.top.fn) D.top.pc
def dgoP (c:Cx) (inp:List Int):Nat->Dn->Dn
 | 0,D=>D
 | n+1,D=>if D.status ≠ 0 then D else if (dnxtP c D).1=18/\inp.length<=D.used then { D with status:=2 } else dgoP c inp n (dstP c inp (dnxtP c D) D)
def dGo (c:Cx) (inp:List Int) (fuel:Nat) (D:Dn):Dn:=dgoP c inp fuel { D with out:=[],used:=0,status:=if D.status=2 then 0 else D.status }
end Go.Proofs.Ytnfnbcbadakofab
namespace Go.Proofs.Ytnfnbcbadakofab
open Go.RowKit
theorem own_lt {w:World} {base:Nat} {e:TypeId} {k:Nat} {v:Value} {n:Nat} {xs:List Value} (h:w.ownsRow base e k v n xs) {g:Nat} (hg:v.ownBlock=some g):base<=g/\g < w.heap.size:=by
 rcases h.2 with ⟨rfl,_⟩ | ⟨g',cap,cur,rfl,hb,hgg,_⟩
 ·simp [Value.ownBlock] at hg
 ·simp [Value.ownBlock] at hg;subst hg;exact ⟨hb,(Array.getElem?_eq_some_iff.1 hgg).1⟩
end Go.Proofs.Ytnfnbcbadakofab
namespace Go.Proofs.Ytnfnbcbadakofab
open Go.RowKit
inductive VL (P:Int->Int × Bool->Int->Prop):List Int->List (Int × Bool)->List Int->Prop
 | nil:VL P [] [] []
 | cons {k:Int} {d:Int × Bool} {v:Int} {ks:List Int} {ds:List (Int × Bool)} {vs:List Int}:P k d v->VL P ks ds vs->VL P (k::ks) (d::ds) (v::vs)
theorem VL.len {P:Int->Int × Bool->Int->Prop} {ks:List Int} {ds:List (Int × Bool)} {vs:List Int} (h:VL P ks ds vs):ds.length=ks.length/\vs.length=ks.length:=by
 induction h with
 | nil=>exact ⟨rfl,rfl⟩
 | cons _ _ ih=>simp [ih.1,ih.2]
theorem VL.app {P:Int->Int × Bool->Int->Prop} {a a':List Int} {b b':List (Int × Bool)} {c c':List Int} (h:VL P a b c) (h':VL P a' b' c'):VL P (a++a') (b++b') (c++c'):=by
 induction h with
 | nil=>exact h'
 | cons hp _ ih=>exact .cons hp ih
theorem VL.one {P:Int->Int × Bool->Int->Prop} {k:Int} {d:Int × Bool} {v:Int} (h:P k d v):VL P [k] [d] [v]:=.cons h .nil
theorem VL.mono {P Q:Int->Int × Bool->Int->Prop} (hm:∀ k d v,P k d v->Q k d v) {ks:List Int} {ds:List (Int × Bool)} {vs:List Int} (h:VL P ks ds vs):VL Q ks ds vs:=by
 induction h with
 | nil=>exact .nil
 | cons hp _ ih=>exact .cons (hm _ _ _ hp) ih
theorem VL.split {P:Int->Int × Bool->Int->Prop} {a a':List Int}:∀ {ds:List (Int × Bool)} {vs:List Int},VL P (a++a') ds vs->VL P a (ds.take a.length) (vs.take a.length)/\VL P a' (ds.drop a.length) (vs.drop a.length):=by
 induction a with
 | nil=>intro ds vs h;exact ⟨by simpa using VL.nil,by simpa using h⟩
 | cons x a ih =>
  intro ds vs h
  cases h with
  | cons hp hr=>obtain ⟨h1,h2⟩:=ih hr;exact ⟨by simpa using VL.cons hp h1,by simpa using h2⟩
theorem VL.get {P:Int->Int × Bool->Int->Prop} {ks:List Int} {ds:List (Int × Bool)} {vs:List Int} (h:VL P ks ds vs):∀ {i:Nat},i < ks.length->P (ks.getD i 0) (ds.getD i (0,false)) (vs.getD i 0):=by
 induction h with
 | nil=>intro i hi;simp at hi
 | cons hp _ ih =>
  intro i hi
  cases i with
  | zero=>simpa using hp
  | succ i=>simpa using ih (i:=i) (by simpa using hi)
theorem VL.set {P:Int->Int × Bool->Int->Prop} {ks:List Int} {ds:List (Int × Bool)} {vs:List Int} (h:VL P ks ds vs):∀ {i:Nat} {d:Int × Bool} {v:Int},P (ks.getD i 0) d v->VL P ks (ds.set i d) (vs.set i v):=by
 induction h with
 | nil=>intro i d v _;exact .nil
 | cons hp hr ih =>
  intro i d v h
  cases i with
  | zero=>exact .cons (by simpa using h) hr
  | succ i=>exact .cons hp (ih (by simpa using h))
theorem VL.snoc {P:Int->Int × Bool->Int->Prop} {ks:List Int} {k:Int} {ds:List (Int × Bool)} {vs:List Int} (h:VL P (ks++[k]) ds vs):VL P ks ds.dropLast vs.dropLast/\P k (dpopV ds) (popV vs):=by
 obtain ⟨h1,h2⟩:=h.split
 have hl:=h.len
 simp only [List.length_append,List.length_cons,List.length_nil] at hl
 refine ⟨by rw [List.dropLast_eq_take,List.dropLast_eq_take,hl.1,hl.2];simpa using h1,?_⟩
 generalize hd:ds.drop ks.length=d' at h2
 generalize hv:vs.drop ks.length=v' at h2
 cases h2 with
 | cons hp hr =>
  cases hr
  have e1:ds=ds.take ks.length++ds.drop ks.length:=(List.take_append_drop _ _).symm
  have e2:vs=vs.take ks.length++vs.drop ks.length:=(List.take_append_drop _ _).symm
  rw [hd] at e1;rw [hv] at e2
  rw [e1,e2]
  simpa [dpopV,popV] using hp
def endL (ls:List (List Int)):Nat->List Int->Nat
 | n,[]=>n
 | 0,w::ws=>endL ls (flds ls w).length ws
 | n+1,_::ws=>endL ls n ws
theorem recO_len (ls:List (List Int)) (ws:List Int):∀ n,(recO ls n ws).length=ws.length:=by
 induction ws with
 | nil=>intro n;cases n <;> rfl
 | cons w ws ih=>intro n;cases n <;> simp [recO,ih]
theorem recO_app (ls:List (List Int)) (ws vs:List Int):∀ n,recO ls n (ws++vs)=recO ls n ws++recO ls (endL ls n ws) vs:=by
 induction ws with
 | nil=>intro n;cases n <;> simp [recO,endL]
 | cons w ws ih=>intro n;cases n <;> simp [recO,endL,ih]
theorem endL_app (ls:List (List Int)) (ws vs:List Int):∀ n,endL ls n (ws++vs)=endL ls (endL ls n ws) vs:=by
 induction ws with
 | nil=>intro n;cases n <;> simp [endL]
 | cons w ws ih=>intro n;cases n <;> simp [endL,ih]
theorem recO_skip (ls:List (List Int)) (vs:List Int):∀ n,vs.length<=n->recO ls n vs=List.replicate vs.length none/\endL ls n vs=n - vs.length:=by
 induction vs with
 | nil=>intro n _;cases n <;> simp [recO,endL]
 | cons v vs ih =>
  intro n hn
  cases n with
  | zero=>simp at hn
  | succ n =>
   obtain ⟨a,b⟩:=ih n (by simpa using hn)
   simp only [recO,endL,a,b,List.length_cons,List.replicate_succ,true_and]
   omega
theorem recO_new {ls:List (List Int)} {ws:List Int} (he:endL ls 0 ws=0) (t:Int) (vs:List Int) (hv:vs.length=(flds ls t).length):recO ls 0 (ws++t::vs)=recO ls 0 ws++some t::List.replicate vs.length none/\endL ls 0 (ws++t::vs)=0:=by
 obtain ⟨a,b⟩:=recO_skip ls vs (flds ls t).length (by omega)
 rw [recO_app,endL_app,he]
 simp only [recO,endL,a,b]
 exact ⟨by first | rfl | trivial,by omega⟩
def St (ls:List (List Int)) (ws:List Int) (a:Nat) (t:Int):Prop:=(recO ls 0 ws)[a]?=some (some t)
theorem st_gen {ls:List (List Int)} {ws:List Int}:∀ {n a:Nat} {t:Int},(recO ls n ws)[a]?=some (some t)->endL ls n ws=0->ws[a]?=some t/\a+1+(flds ls t).length<=ws.length/\∀ i,i < (flds ls t).length->(recO ls n ws)[a+1+i]?=some none:=by
 induction ws with
 | nil=>intro n a t h;cases n <;> simp [recO] at h
 | cons w ws ih =>
  intro n a t h he
  cases n with
  | zero =>
   simp only [recO,endL] at h he ⊢
   cases a with
   | zero =>
    simp at h;subst h
    have hk:∀ (m:Nat) (ws:List Int),endL ls m ws=0->m<=ws.length/\∀ i,i < m->(recO ls m ws)[i]?=some none:=by
     intro m
     induction m with
     | zero=>intro ws _;exact ⟨Nat.zero_le _,fun i hi=>by omega⟩
     | succ m ihm =>
      intro ws he
      cases ws with
      | nil=>simp [endL] at he
      | cons w ws =>
       obtain ⟨a,b⟩:=ihm ws (by simpa [endL] using he)
       refine ⟨by simpa using a,fun i hi=>?_⟩
       cases i with
       | zero=>simp [recO]
       | succ i=>simpa [recO] using b i (by omega)
    obtain ⟨a,b⟩:=hk _ _ he
    refine ⟨by simp,by simp;omega,fun i hi=>?_⟩
    have:=b i hi
    rw [show 0+1+i=i+1 by omega]
    simpa using this
   | succ a =>
    obtain ⟨x,y,z⟩:=ih (n:=(flds ls w).length) (a:=a) (t:=t) (by simpa using h) he
    refine ⟨by simpa using x,by simp;omega,fun i hi=>?_⟩
    have:=z i hi
    rw [show a+1+1+i=(a+1+i)+1 by omega]
    simpa using this
  | succ n =>
   simp only [recO,endL] at h he ⊢
   cases a with
   | zero=>simp at h
   | succ a =>
    obtain ⟨x,y,z⟩:=ih (n:=n) (a:=a) (t:=t) (by simpa using h) he
    refine ⟨by simpa using x,by simp;omega,fun i hi=>?_⟩
    have:=z i hi
    rw [show a+1+1+i=(a+1+i)+1 by omega]
    simpa using this
theorem St.val {ls:List (List Int)} {ws:List Int} {a:Nat} {t:Int} (h:St ls ws a t) (he:endL ls 0 ws=0):ws[a]?=some t/\a+1+(flds ls t).length<=ws.length/\∀ i,i < (flds ls t).length->(recO ls 0 ws)[a+1+i]?=some none:=st_gen h he
theorem St.uniq {ls:List (List Int)} {ws:List Int} {a:Nat} {t t':Int} (h:St ls ws a t) (h':St ls ws a t'):t=t':=by
 unfold St at h h';rw [h] at h';simpa using h'
theorem St.apart {ls:List (List Int)} {ws:List Int} {a a':Nat} {t t':Int} (h:St ls ws a t) (h':St ls ws a' t') (he:endL ls 0 ws=0) (hne:a ≠ a') {i j:Nat} (hi:i < (flds ls t).length) (hj:j < (flds ls t').length):a+1+i ≠ a'+1+j/\a+1+i ≠ a':=by
 have z:=(h.val he).2.2
 have z':=(h'.val he).2.2
 refine ⟨fun e=>?_,fun e=>?_⟩
 ·rcases Nat.lt_or_gt_of_ne hne with hl | hl
  ·have:=z (a' - a - 1) (by omega)
   rw [show a+1+(a' - a - 1)=a' by omega] at this
   unfold St at h';rw [h'] at this;simp at this
  ·have:=z' (a - a' - 1) (by omega)
   rw [show a'+1+(a - a' - 1)=a by omega] at this
   unfold St at h;rw [h] at this;simp at this
 ·have:=z i hi
  rw [e] at this
  unfold St at h';rw [h'] at this;simp at this
theorem recO_set {ls:List (List Int)} {ws:List Int}:∀ {n p:Nat} {v:Int},(recO ls n ws)[p]?=some none->recO ls n (ws.set p v)=recO ls n ws/\endL ls n (ws.set p v)=endL ls n ws:=by
 induction ws with
 | nil=>intro n p v _;exact ⟨rfl,rfl⟩
 | cons w ws ih =>
  intro n p v h
  cases n with
  | zero =>
   cases p with
   | zero=>simp [recO] at h
   | succ p =>
    obtain ⟨a,b⟩:=ih (n:=(flds ls w).length) (p:=p) (v:=v) (by simpa [recO] using h)
    simp [recO,endL,a,b]
  | succ n =>
   cases p with
   | zero=>simp [recO,endL]
   | succ p =>
    obtain ⟨a,b⟩:=ih (n:=n) (p:=p) (v:=v) (by simpa [recO] using h)
    simp [recO,endL,a,b]
end Go.Proofs.Ytnfnbcbadakofab
namespace Go.Proofs.Ytnfnbcbadakofab
open Go.RowKit
def VR (ls:List (List Int)) (ws:List Int) (phi:Nat->Option Nat) (kind:Int) (d:Int × Bool) (v:Int):Prop:=
 (kind=0/\d.2=false/\d.1=v/\0<=v/\v < 65536) \/
 (kind ≠ 0/\d.2=true/\((d.1=0/\v=0) \/ ∃ e a:Nat,d.1=(e:Int)+1/\v=(a:Int)+1/\phi e=some a/\St ls ws a kind))
def seg (ws:List Int) (a n:Nat):List Int:=(ws.drop (a+1)).take n
structure Mm (ls:List (List Int)) (recs:List (List (Int × Bool))) (ws:List Int) (phi:Nat->Option Nat):Prop where
 full:endL ls 0 ws=0
 typ:∀ a t,St ls ws a t->1<=t/\t<=(ls.length:Int)
 inj:∀ d d' a,phi d=some a->phi d'=some a->d=d'
 dom:∀ d a,phi d=some a->d < recs.length/\∃ t,St ls ws a t/\VL (VR ls ws phi) (flds ls t) (recs.getD d []) (seg ws a (flds ls t).length)
 sur:∀ a t,St ls ws a t->∃ d,phi d=some a
structure Tp (c:Cx) (P:Int->Int × Bool->Int->Prop) (f:Int) (d:DFr) (g:Fr):Prop where
 fn:g.fn=f
 dfn:d.fn=f
 f0:0<=f
 fl:f < (c.fs.length:Int)
 pc:d.pc=g.pc
 p0:0<=g.pc
 pl:g.pc < ((fnAt c.fs f).code.length:Int)
 loc:VL P (fnAt c.fs f).locals d.locals g.locals
 stk:∃ S,spP c.sps f g.pc=some S/\VL P S d.stack g.stack
structure Wt (c:Cx) (P:Int->Int × Bool->Int->Prop) (f h:Int) (d:DFr) (g:Fr):Prop where
 fn:g.fn=f
 dfn:d.fn=f
 f0:0<=f
 fl:f < (c.fs.length:Int)
 pc:d.pc=g.pc+1
 p0:0<=g.pc
 pl:g.pc < ((fnAt c.fs f).code.length:Int)
 op:(insP (fnAt c.fs f) g.pc).1=15
 tgt:(insP (fnAt c.fs f) g.pc).2.1=h
 loc:VL P (fnAt c.fs f).locals d.locals g.locals
 stk:∃ S,spP c.sps f g.pc=some (S++argsF c.fs h)/\VL P S d.stack g.stack
inductive Bel (c:Cx) (P:Int->Int × Bool->Int->Prop):List DFr->List Fr->Int->Prop
 | nil:Bel c P [] [] 0
 | snoc {ds:List DFr} {gs:List Fr} {f h:Int} {d:DFr} {g:Fr}:Bel c P ds gs f->Wt c P f h d g->Bel c P (ds++[d]) (gs++[g]) h
theorem Bel.len {c:Cx} {P:Int->Int × Bool->Int->Prop} {ds:List DFr} {gs:List Fr} {f:Int} (h:Bel c P ds gs f):ds.length=gs.length:=by
 induction h with
 | nil=>rfl
 | snoc _ _ ih=>simp [ih]
theorem Tp.mono {c:Cx} {P Q:Int->Int × Bool->Int->Prop} (hm:∀ k d v,P k d v->Q k d v) {f:Int} {d:DFr} {g:Fr} (h:Tp c P f d g):Tp c Q f d g:=
 ⟨h.fn,h.dfn,h.f0,h.fl,h.pc,h.p0,h.pl,h.loc.mono hm,let ⟨S,a,b⟩:=h.stk;⟨S,a,b.mono hm⟩⟩
theorem Wt.mono {c:Cx} {P Q:Int->Int × Bool->Int->Prop} (hm:∀ k d v,P k d v->Q k d v) {f e:Int} {d:DFr} {g:Fr} (h:Wt c P f e d g):Wt c Q f e d g:=
 ⟨h.fn,h.dfn,h.f0,h.fl,h.pc,h.p0,h.pl,h.op,h.tgt,h.loc.mono hm,let ⟨S,a,b⟩:=h.stk;⟨S,a,b.mono hm⟩⟩
theorem Bel.mono {c:Cx} {P Q:Int->Int × Bool->Int->Prop} (hm:∀ k d v,P k d v->Q k d v) {ds:List DFr} {gs:List Fr} {f:Int} (h:Bel c P ds gs f):Bel c Q ds gs f:=by
 induction h with
 | nil=>exact .nil
 | snoc _ hw ih=>exact .snoc ih (hw.mono hm)
structure Sm (c:Cx) (D:Dn) (R:Rn) (phi:Nat->Option Nat):Prop where
 h0:0<=R.heap
 h4:R.heap<=4000
 d1:1<=R.depth
 d64:R.depth<=64
 heap:D.heap=R.heap
 depth:D.depth=R.depth
 mem:Mm c.ls D.recs R.words phi
 len:(R.words.length:Int)<=R.heap
 bl:(R.below.length:Int)+1<=R.depth
 fr:∃ f,Bel c (VR c.ls R.words phi) D.below R.below f/\Tp c (VR c.ls R.words phi) f D.top R.top
structure CxOk (c:Cx):Prop where
 fit:∀ f i S,spP c.sps f i=some S->(afterP c.ls c.fs (fnAt c.fs f) (insP (fnAt c.fs f) i).1 (insP (fnAt c.fs f) i).2.1 (insP (fnAt c.fs f) i).2.2 S).isSome /\
  ∀ T,afterP c.ls c.fs (fnAt c.fs f) (insP (fnAt c.fs f) i).1 (insP (fnAt c.fs f) i).2.1 (insP (fnAt c.fs f) i).2.2 S=some T->∀ k ∈ waysP (insP (fnAt c.fs f) i).1 (insP (fnAt c.fs f) i).2.1 i.toNat,0<=k/\k < ((fnAt c.fs f).code.length:Int)/\spP c.sps f k=some T
 zero:∀ f,0<=f->f < (c.fs.length:Int)->spP c.sps f 0=some []
 s8:∀ f i S,spP c.sps f i=some S->S.length<=8
 pg:PgWf ⟨c.ls,c.fs⟩
end Go.Proofs.Ytnfnbcbadakofab
namespace Go.Proofs.Ytnfnbcbadakofab
open Go.RowKit
theorem after_inv {ls:List (List Int)} {fs:List Fn} {f:Fn} {op A B:Int} {S T:List Int} (h:afterP ls fs f op A B S=some T):∃ rest,S=rest++ahead ls fs f op A B/\T=rest++behind ls fs f op A B/\T.length<=8/\(op=16->rest=[]):=by
 unfold afterP at h
 by_cases h1:S.length < (ahead ls fs f op A B).length \/ (op=16/\(ahead ls fs f op A B).length < S.length)
 ·rw [if_pos h1] at h;cases h
 rw [if_neg h1] at h
 by_cases h2:(S.drop (S.length - (ahead ls fs f op A B).length) == ahead ls fs f op A B)=false
 ·rw [if_pos h2] at h;cases h
 rw [if_neg h2] at h
 by_cases h3:8 < (S.take (S.length - (ahead ls fs f op A B).length)++behind ls fs f op A B).length
 ·rw [if_pos h3] at h;cases h
 rw [if_neg h3] at h
 simp only [Option.some.injEq] at h
 have e:S.drop (S.length - (ahead ls fs f op A B).length)=ahead ls fs f op A B:=by
  have:(S.drop (S.length - (ahead ls fs f op A B).length) == ahead ls fs f op A B)=true:=by
   cases hb:(S.drop (S.length - (ahead ls fs f op A B).length) == ahead ls fs f op A B)
   ·exact absurd hb h2
   ·rfl
  exact eq_of_beq this
 refine ⟨S.take (S.length - (ahead ls fs f op A B).length),?_,h.symm,by rw [<-h];omega,fun ho=>?_⟩
 ·conv=>lhs;rw [<-List.take_append_drop (S.length - (ahead ls fs f op A B).length) S,e]
 ·have:S.length<=(ahead ls fs f op A B).length:=by
   rcases Nat.lt_or_ge (ahead ls fs f op A B).length S.length with hl | hl
   ·exact absurd (Or.inr ⟨ho,hl⟩) h1
   ·exact hl
  rw [show S.length - (ahead ls fs f op A B).length=0 by omega];rfl
theorem fnAt_ok {c:Cx} (ok:CxOk c) {f:Int} (h0:0<=f) (hl:f < (c.fs.length:Int)):FnOk c.ls c.fs.length (f.toNat == 0) (fnAt c.fs f):=by
 have hj:f.toNat < c.fs.length:=by omega
 have:=ok.pg.fs f.toNat hj
 unfold fnAt
 rw [dif_pos ⟨h0,hj⟩]
 exact this
theorem insP_mem {f:Fn} {i:Int} (h0:0<=i) (hl:i < (f.code.length:Int)):insP f i ∈ f.code:=by
 unfold insP
 rw [if_neg (by omega),List.getD_eq_getElem?_getD,List.getElem?_eq_getElem (by omega)]
 exact List.getElem_mem _
structure Cu (c:Cx) (D:Dn) (R:Rn) (phi:Nat->Option Nat) (f:Int) (x:Int × Int × Int) (rest:List Int):Prop where
 sm:Sm c D R phi
 bel:Bel c (VR c.ls R.words phi) D.below R.below f
 tp:Tp c (VR c.ls R.words phi) f D.top R.top
 fok:FnOk c.ls c.fs.length (f.toNat == 0) (fnAt c.fs f)
 ins:insP (fnAt c.fs f) R.top.pc=x
 iok:InsOk c.ls c.fs.length (fnAt c.fs f).locals.length (fnAt c.fs f).code.length x
 spt:spP c.sps f R.top.pc=some (rest++ahead c.ls c.fs (fnAt c.fs f) x.1 x.2.1 x.2.2)
 stk:VL (VR c.ls R.words phi) (rest++ahead c.ls c.fs (fnAt c.fs f) x.1 x.2.1 x.2.2) D.top.stack R.top.stack
 way:∀ k ∈ waysP x.1 x.2.1 R.top.pc.toNat,0<=k/\k < ((fnAt c.fs f).code.length:Int)/\spP c.sps f k=some (rest++behind c.ls c.fs (fnAt c.fs f) x.1 x.2.1 x.2.2)
 ret:x.1=16->rest=[]
theorem Sm.cu {c:Cx} (ok:CxOk c) {D:Dn} {R:Rn} {phi:Nat->Option Nat} (h:Sm c D R phi):∃ f x rest,Cu c D R phi f x rest/\nxtP c R=x/\dnxtP c D=x:=by
 obtain ⟨f,hb,ht⟩:=h.fr
 obtain ⟨S,hS,hV⟩:=ht.stk
 have fk:=fnAt_ok ok ht.f0 ht.fl
 obtain ⟨h1,h2⟩:=ok.fit _ _ _ hS
 obtain ⟨T,hT⟩:=Option.isSome_iff_exists.1 h1
 obtain ⟨rest,e1,e2,_,e4⟩:=after_inv hT
 have h3:=h2 T hT
 refine ⟨f,insP (fnAt c.fs f) R.top.pc,rest,⟨h,hb,ht,fk,rfl,fk.ok _ (insP_mem ht.p0 ht.pl),?_,?_,?_,e4⟩,?_,?_⟩
 ·rw [hS,e1]
 ·rw [<-e1];exact hV
 ·intro k hk;have:=h3 k hk;rw [e2] at this;exact this
 ·unfold nxtP;rw [ht.fn]
 ·unfold dnxtP;rw [ht.dfn,ht.pc]
structure Nx (c:Cx) (D:Dn) (R:Rn) (D':Dn) (R':Rn):Prop where
 st:D'.status=R'.status
 out:D'.out=R'.out
 used:D'.used=R'.used
 inp:R'.inp=R.inp
 hp:R'.heap=R.heap/\R'.depth=R.depth/\D'.heap=D.heap/\D'.depth=D.depth
 go:R'.status=0->∃ phi',Sm c D' R' phi'
 ends:R'.status=0 \/ R'.status=1 \/ R'.status=3 \/ R'.status=4 \/ R'.status=5
theorem Sm.same {c:Cx} {D:Dn} {R:Rn} {phi:Nat->Option Nat} (h:Sm c D R phi) {D':Dn} {R':Rn} (hh:R'.heap=R.heap/\R'.depth=R.depth/\D'.heap=D.heap/\D'.depth=D.depth) (hw:R'.words=R.words) (hr:D'.recs=D.recs)
 (hbl:(R'.below.length:Int)+1<=R.depth) (hf:∃ f,Bel c (VR c.ls R.words phi) D'.below R'.below f/\Tp c (VR c.ls R.words phi) f D'.top R'.top):Sm c D' R' phi:=by
 obtain ⟨e1,e2,e3,e4⟩:=hh
 refine ⟨by rw [e1];exact h.h0,by rw [e1];exact h.h4,by rw [e2];exact h.d1,by rw [e2];exact h.d64,by rw [e3,e1];exact h.heap,by rw [e4,e2];exact h.depth,by rw [hr,hw];exact h.mem,by rw [hw,e1];exact h.len,by rw [e2];exact hbl,by rw [hw];exact hf⟩
theorem Cu.top {c:Cx} {D:Dn} {R:Rn} {phi:Nat->Option Nat} {f:Int} {x:Int × Int × Int} {rest:List Int} (h:Cu c D R phi f x rest) {D':Dn} {R':Rn} (hst:D'.status=0) (hst':R'.status=0) (ho:D'.out=R'.out) (hu:D'.used=R'.used) (hi:R'.inp=R.inp)
 (hh:R'.heap=R.heap/\R'.depth=R.depth/\D'.heap=D.heap/\D'.depth=D.depth) (hw:R'.words=R.words) (hr:D'.recs=D.recs) (hb:R'.below=R.below) (hb':D'.below=D.below)
 (fn:R'.top.fn=R.top.fn) (dfn:D'.top.fn=D.top.fn) (pc:D'.top.pc=R'.top.pc) (wy:R'.top.pc ∈ waysP x.1 x.2.1 R.top.pc.toNat)
 (loc:VL (VR c.ls R.words phi) (fnAt c.fs f).locals D'.top.locals R'.top.locals) (stk:VL (VR c.ls R.words phi) (rest++behind c.ls c.fs (fnAt c.fs f) x.1 x.2.1 x.2.2) D'.top.stack R'.top.stack):Nx c D R D' R':=by
 obtain ⟨w1,w2,w3⟩:=h.way _ wy
 refine ⟨by rw [hst,hst'],ho,hu,hi,hh,fun _=>⟨phi,h.sm.same hh hw hr (by rw [hb];exact h.sm.bl) ⟨f,by rw [hb,hb'];exact h.bel,?_⟩⟩,.inl hst'⟩
 exact ⟨by rw [fn];exact h.tp.fn,by rw [dfn];exact h.tp.dfn,h.tp.f0,h.tp.fl,pc,w1,w2,loc,_,w3,stk⟩
theorem vr_num {ls:List (List Int)} {ws:List Int} {phi:Nat->Option Nat} {n:Int} (h0:0<=n) (h1:n < 65536):VR ls ws phi 0 (n,false) n:=.inl ⟨rfl,rfl,rfl,h0,h1⟩
theorem vr_nil {ls:List (List Int)} {ws:List Int} {phi:Nat->Option Nat} {k:Int} (h:k ≠ 0):VR ls ws phi k (0,true) 0:=.inr ⟨h,rfl,.inl ⟨rfl,rfl⟩⟩
theorem VR.num {ls:List (List Int)} {ws:List Int} {phi:Nat->Option Nat} {d:Int × Bool} {v:Int} (h:VR ls ws phi 0 d v):d=(v,false)/\0<=v/\v < 65536:=by
 rcases h with ⟨_,a,b,e,f⟩ | ⟨a,_⟩
 ·exact ⟨by ext <;> simp [a,b],e,f⟩
 ·exact absurd rfl a
theorem VR.ref {ls:List (List Int)} {ws:List Int} {phi:Nat->Option Nat} {k:Int} {d:Int × Bool} {v:Int} (h:VR ls ws phi k d v) (hk:k ≠ 0):d.2=true/\((d.1=0/\v=0) \/ ∃ e a:Nat,d.1=(e:Int)+1/\v=(a:Int)+1/\phi e=some a/\St ls ws a k):=by
 rcases h with ⟨a,_⟩ | ⟨_,b,e⟩
 ·exact absurd a hk
 ·exact ⟨b,e⟩
theorem VR.zero {ls:List (List Int)} {ws:List Int} {phi:Nat->Option Nat} {k:Int} {d:Int × Bool} {v:Int} (h:VR ls ws phi k d v):d.1=0 ↔ v=0:=by
 rcases h with ⟨_,_,b,_⟩ | ⟨_,_,⟨a,b⟩ | ⟨e,a,b,d,_⟩⟩
 ·rw [b]
 ·rw [a,b]
 ·omega
theorem VR.same {ls:List (List Int)} {recs:List (List (Int × Bool))} {ws:List Int} {phi:Nat->Option Nat} (hm:Mm ls recs ws phi) {k:Int} {d d':Int × Bool} {v v':Int} (h:VR ls ws phi k d v) (h':VR ls ws phi k d' v'):d.1=d'.1 ↔ v=v':=by
 rcases h with ⟨k0,_,b,_⟩ | ⟨k0,_,h⟩
 ·rcases h' with ⟨_,_,b',_⟩ | ⟨k1,_⟩
  ·rw [b,b']
  ·exact absurd k0 k1
 ·rcases h' with ⟨k1,_⟩ | ⟨_,_,h'⟩
  ·exact absurd k1 k0
  ·rcases h with ⟨a,b⟩ | ⟨e,a,b,dd,p,s⟩ <;> rcases h' with ⟨a',b'⟩ | ⟨e',a',b',dd',p',s'⟩
   ·rw [a,b,a',b']
   ·omega
   ·omega
   ·constructor
    ·intro hh
     have:e=e':=by omega
     subst this
     rw [p] at p';simp at p';omega
    ·intro hh
     have:a=a':=by omega
     subst this
     have:=hm.inj _ _ _ p p'
     omega
theorem ways_next {op A:Int} {i:Nat} (h1:op ≠ 13) (h2:op ≠ 16):(i:Int)+1 ∈ waysP op A i:=by
 unfold waysP
 rw [if_neg h1]
 by_cases h:op=14
 ·rw [if_pos h];simp
 ·rw [if_neg h,if_neg h2];simp
theorem tyAt_get {l:List Int} {k:Int} (h0:0<=k) (h1:k < (l.length:Int)):tyAt l k=l.getD k.toNat 0:=by
 unfold tyAt;rw [if_neg (by omega)]
end Go.Proofs.Ytnfnbcbadakofab
namespace Go.Proofs.Ytnfnbcbadakofab
open Go.RowKit
section
variable {c:Cx} {D:Dn} {R:Rn} {phi:Nat->Option Nat} {f:Int} {op A B:Int} {rest:List Int}
theorem Cu.pc (h:Cu c D R phi f (op,A,B) rest):((R.top.pc.toNat:Nat):Int)=R.top.pc:=by have:=h.tp.p0;omega
theorem Cu.next (h:Cu c D R phi f (op,A,B) rest) (h13:op ≠ 13) (h16:op ≠ 16) {D':Dn} {R':Rn} (hst:D'.status=0) (hst':R'.status=0) (ho:D'.out=R'.out) (hu:D'.used=R'.used) (hi:R'.inp=R.inp)
 (hh:R'.heap=R.heap/\R'.depth=R.depth/\D'.heap=D.heap/\D'.depth=D.depth) (hw:R'.words=R.words) (hr:D'.recs=D.recs) (hb:R'.below=R.below) (hb':D'.below=D.below)
 (fn:R'.top.fn=R.top.fn) (dfn:D'.top.fn=D.top.fn) (pc:R'.top.pc=R.top.pc+1) (dpc:D'.top.pc=D.top.pc+1)
 (loc:VL (VR c.ls R.words phi) (fnAt c.fs f).locals D'.top.locals R'.top.locals) (stk:VL (VR c.ls R.words phi) (rest++behind c.ls c.fs (fnAt c.fs f) op A B) D'.top.stack R'.top.stack):Nx c D R D' R':=by
 refine h.top hst hst' ho hu hi hh hw hr hb hb' fn dfn (by rw [pc,dpc,h.tp.pc]) ?_ loc stk
 have:=ways_next (A:=A) (i:=R.top.pc.toNat) h13 h16
 rw [h.pc] at this;rw [pc];exact this
theorem step_push (h:Cu c D R phi f (0,A,B) rest) (s0:D.status=0) (s0':R.status=0) (ho:D.out=R.out) (hu:D.used=R.used):Nx c D R (dstP c R.inp (0,A,B) D) (doP c (0,A,B) R):=by
 have hi:=h.iok
 have e:ahead c.ls c.fs (fnAt c.fs f) 0 A B=[]:=by simp [ahead]
 have hs:=h.stk
 simp only [e,List.append_nil] at hs
 simp only [InsOk,bA] at hi
 refine h.next (by decide) (by decide) s0 s0' ho hu rfl ⟨rfl,rfl,rfl,rfl⟩ rfl rfl rfl rfl rfl rfl rfl rfl h.tp.loc ?_
 have:behind c.ls c.fs (fnAt c.fs f) 0 A B=[0]:=by simp [behind]
 rw [this]
 have hA:A<=255:=by have:=hi.2.1.2;simpa using this
 have hA0:0<=A:=by have:=hi.2.1.1;simpa using this
 exact hs.app (.one (vr_num (n:=A) hA0 (by omega)))
theorem dn_rec {op a b:Int} (ho:op=1 \/ op=2 \/ op=3 \/ op=4):dnumP op a b=recP op a b/\0<=recP op a b/\recP op a b < 65536:=by
 rcases ho with rfl | rfl | rfl | rfl <;> simp only [dnumP,recP] <;> simp <;> first | done | omega | (split <;> omega)
theorem step_num (h:Cu c D R phi f (op,A,B) rest) (hop:op=1 \/ op=2 \/ op=3 \/ op=4) (s0:D.status=0) (s0':R.status=0) (ho:D.out=R.out) (hu:D.used=R.used):Nx c D R (dstP c R.inp (op,A,B) D) (doP c (op,A,B) R):=by
 have e:ahead c.ls c.fs (fnAt c.fs f) op A B=[0]++[0]:=by simp [ahead,hop]
 have hs:=h.stk
 simp only [e] at hs
 rw [<-List.append_assoc] at hs
 obtain ⟨h1,v1⟩:=hs.snoc
 obtain ⟨h2,v2⟩:=h1.snoc
 obtain ⟨x1,y1,z1⟩:=v1.num
 obtain ⟨x2,y2,z2⟩:=v2.num
 have hq:=dn_rec (op:=op) (a:=popV R.top.stack.dropLast) (b:=popV R.top.stack) hop
 have ed:dstP c R.inp (op,A,B) D = { dincR D with top:=dpushF (dpopF (dpopF (dincR D).top)) (dnumP op (dpopV (dincR D).top.stack.dropLast).1 (dpopV (dincR D).top.stack).1,false) }:=by
  unfold dstP dst2P;simp only;rw [if_neg (by rcases hop with h | h | h | h <;> omega),if_pos hop]
 have er:doP c (op,A,B) R=incR { R with top:=pushF (popF (popF R.top)) (recP op (popV R.top.stack.dropLast) (popV R.top.stack)) }:=by
  unfold doP uvP;simp only
  rw [if_neg (by rcases hop with h | h | h | h <;> omega),if_neg (by rcases hop with h | h | h | h <;> omega),if_neg (by rcases hop with h | h | h | h <;> omega),if_neg (by rcases hop with h | h | h | h <;> omega),if_neg (by rcases hop with h | h | h | h <;> omega),
   if_neg (by rcases hop with h | h | h | h <;> omega),if_pos (by rcases hop with h | h | h | h <;> simp [h])]
 rw [ed,er]
 refine h.next (by rcases hop with h | h | h | h <;> omega) (by rcases hop with h | h | h | h <;> omega) s0 s0' ho hu rfl ⟨rfl,rfl,rfl,rfl⟩ rfl rfl rfl rfl rfl rfl rfl rfl h.tp.loc ?_
 have:behind c.ls c.fs (fnAt c.fs f) op A B=[0]:=by rcases hop with rfl | rfl | rfl | rfl <;> simp [behind]
 rw [this]
 refine VL.app h2 (.one ?_)
 show VR c.ls R.words phi 0 (dnumP op (dpopV D.top.stack.dropLast).1 (dpopV D.top.stack).1,false) (recP op (popV R.top.stack.dropLast) (popV R.top.stack))
 rw [x1,x2]
 simp only
 rw [hq.1]
 exact vr_num hq.2.1 hq.2.2
theorem step_load (h:Cu c D R phi f (5,A,B) rest) (s0:D.status=0) (s0':R.status=0) (ho:D.out=R.out) (hu:D.used=R.used):Nx c D R (dstP c R.inp (5,A,B) D) (doP c (5,A,B) R):=by
 have hi:=h.iok
 have e:ahead c.ls c.fs (fnAt c.fs f) 5 A B=[]:=by simp [ahead]
 have hs:=h.stk
 simp only [e,List.append_nil] at hs
 simp only [InsOk,bA] at hi
 have hA0:0<=A:=hi.2.1.1
 have hA1:A < ((fnAt c.fs f).locals.length:Int):=by have:=hi.2.1.2;simp at this;omega
 refine h.next (by decide) (by decide) s0 s0' ho hu rfl ⟨rfl,rfl,rfl,rfl⟩ rfl rfl rfl rfl rfl rfl rfl rfl h.tp.loc ?_
 have:behind c.ls c.fs (fnAt c.fs f) 5 A B=[tyAt (fnAt c.fs f).locals A]:=by simp [behind]
 rw [this]
 refine VL.app hs (.one ?_)
 have hl:=h.tp.loc.len
 have:=h.tp.loc.get (i:=A.toNat) (by omega)
 rw [tyAt_get hA0 hA1]
 show VR c.ls R.words phi _ (D.top.locals.getD A.toNat (0,false)) (tyAt R.top.locals A)
 rw [tyAt_get hA0 (by rw [hl.2];exact hA1)]
 exact this
theorem step_store (h:Cu c D R phi f (6,A,B) rest) (s0:D.status=0) (s0':R.status=0) (ho:D.out=R.out) (hu:D.used=R.used):Nx c D R (dstP c R.inp (6,A,B) D) (doP c (6,A,B) R):=by
 have hi:=h.iok
 have e:ahead c.ls c.fs (fnAt c.fs f) 6 A B=[tyAt (fnAt c.fs f).locals A]:=by simp [ahead]
 have hs:=h.stk
 simp only [e] at hs
 simp only [InsOk,bA] at hi
 have hA0:0<=A:=hi.2.1.1
 have hA1:A < ((fnAt c.fs f).locals.length:Int):=by have:=hi.2.1.2;simp at this;omega
 have hl:=h.tp.loc.len
 obtain ⟨h1,v1⟩:=hs.snoc
 rw [tyAt_get hA0 hA1] at v1
 refine h.next (by decide) (by decide) s0 s0' ho hu rfl ⟨rfl,rfl,rfl,rfl⟩ rfl rfl rfl rfl rfl rfl rfl rfl ?_ ?_
 ·show VL _ _ (D.top.locals.set A.toNat (dpopV D.top.stack)) (if 0<=A/\A < (R.top.locals.length:Int) then R.top.locals.set A.toNat (popV R.top.stack) else R.top.locals)
  rw [if_pos ⟨hA0,by rw [hl.2];exact hA1⟩]
  exact h.tp.loc.set v1
 ·have:behind c.ls c.fs (fnAt c.fs f) 6 A B=[]:=by simp [behind]
  rw [this,List.append_nil]
  exact h1
theorem step_null (h:Cu c D R phi f (10,A,B) rest) (s0:D.status=0) (s0':R.status=0) (ho:D.out=R.out) (hu:D.used=R.used):Nx c D R (dstP c R.inp (10,A,B) D) (doP c (10,A,B) R):=by
 have hi:=h.iok
 have e:ahead c.ls c.fs (fnAt c.fs f) 10 A B=[]:=by simp [ahead]
 have hs:=h.stk
 simp only [e,List.append_nil] at hs
 simp only [InsOk,bA] at hi
 refine h.next (by decide) (by decide) s0 s0' ho hu rfl ⟨rfl,rfl,rfl,rfl⟩ rfl rfl rfl rfl rfl rfl rfl rfl h.tp.loc ?_
 have:behind c.ls c.fs (fnAt c.fs f) 10 A B=[A]:=by simp [behind]
 rw [this]
 exact hs.app (.one (vr_nil (by have:=hi.2.1.1;simp at this;omega)))
theorem step_is (h:Cu c D R phi f (11,A,B) rest) (s0:D.status=0) (s0':R.status=0) (ho:D.out=R.out) (hu:D.used=R.used):Nx c D R (dstP c R.inp (11,A,B) D) (doP c (11,A,B) R):=by
 have e:ahead c.ls c.fs (fnAt c.fs f) 11 A B=[A]:=by simp [ahead]
 have hs:=h.stk
 simp only [e] at hs
 obtain ⟨h1,v1⟩:=hs.snoc
 refine h.next (by decide) (by decide) s0 s0' ho hu rfl ⟨rfl,rfl,rfl,rfl⟩ rfl rfl rfl rfl rfl rfl rfl rfl h.tp.loc ?_
 have:behind c.ls c.fs (fnAt c.fs f) 11 A B=[0]:=by simp [behind]
 rw [this]
 refine VL.app h1 (.one ?_)
 show VR c.ls R.words phi 0 (if (dpopV D.top.stack).1=0 then 1 else 0,false) (if popV R.top.stack=0 then 1 else 0)
 have hz:=v1.zero
 by_cases hv:popV R.top.stack=0
 ·rw [if_pos hv,if_pos (hz.2 hv)];exact vr_num (by decide) (by decide)
 ·rw [if_neg hv,if_neg (fun e=>hv (hz.1 e))];exact vr_num (by decide) (by decide)
theorem step_same (h:Cu c D R phi f (12,A,B) rest) (s0:D.status=0) (s0':R.status=0) (ho:D.out=R.out) (hu:D.used=R.used):Nx c D R (dstP c R.inp (12,A,B) D) (doP c (12,A,B) R):=by
 have e:ahead c.ls c.fs (fnAt c.fs f) 12 A B=[A]++[A]:=by simp [ahead]
 have hs:=h.stk
 simp only [e] at hs
 rw [<-List.append_assoc] at hs
 obtain ⟨h1,v1⟩:=hs.snoc
 obtain ⟨h2,v2⟩:=h1.snoc
 refine h.next (by decide) (by decide) s0 s0' ho hu rfl ⟨rfl,rfl,rfl,rfl⟩ rfl rfl rfl rfl rfl rfl rfl rfl h.tp.loc ?_
 have:behind c.ls c.fs (fnAt c.fs f) 12 A B=[0]:=by simp [behind]
 rw [this]
 refine VL.app h2 (.one ?_)
 show VR c.ls R.words phi 0 (if (dpopV D.top.stack.dropLast).1=(dpopV D.top.stack).1 then 1 else 0,false) (recP 12 (popV R.top.stack.dropLast) (popV R.top.stack))
 have er:recP 12 (popV R.top.stack.dropLast) (popV R.top.stack)=if popV R.top.stack.dropLast=popV R.top.stack then 1 else 0:=by unfold recP;simp
 rw [er]
 have hz:=v2.same h.sm.mem v1
 by_cases hv:popV R.top.stack.dropLast=popV R.top.stack
 ·rw [if_pos hv,if_pos (hz.2 hv)];exact vr_num (by decide) (by decide)
 ·rw [if_neg hv,if_neg (fun e=>hv (hz.1 e))];exact vr_num (by decide) (by decide)
theorem step_print (h:Cu c D R phi f (17,A,B) rest) (s0:D.status=0) (s0':R.status=0) (ho:D.out=R.out) (hu:D.used=R.used):Nx c D R (dstP c R.inp (17,A,B) D) (doP c (17,A,B) R):=by
 have e:ahead c.ls c.fs (fnAt c.fs f) 17 A B=[0]:=by simp [ahead]
 have hs:=h.stk
 simp only [e] at hs
 obtain ⟨h1,v1⟩:=hs.snoc
 obtain ⟨x1,y1,z1⟩:=v1.num
 refine h.next (by decide) (by decide) s0 s0' ?_ hu rfl ⟨rfl,rfl,rfl,rfl⟩ rfl rfl rfl rfl rfl rfl rfl rfl h.tp.loc ?_
 ·show D.out++[(dpopV D.top.stack).1]=R.out++[popV R.top.stack]
  rw [x1,ho]
 ·have:behind c.ls c.fs (fnAt c.fs f) 17 A B=[]:=by simp [behind]
  rw [this,List.append_nil]
  exact h1
theorem step_read (h:Cu c D R phi f (18,A,B) rest) (s0:D.status=0) (s0':R.status=0) (ho:D.out=R.out) (hu:D.used=R.used):Nx c D R (dstP c R.inp (18,A,B) D) (doP c (18,A,B) R):=by
 have e:ahead c.ls c.fs (fnAt c.fs f) 18 A B=[]:=by simp [ahead]
 have hs:=h.stk
 simp only [e,List.append_nil] at hs
 refine h.next (by decide) (by decide) s0 s0' ho (by show D.used+1=R.used+1;rw [hu]) rfl ⟨rfl,rfl,rfl,rfl⟩ rfl rfl rfl rfl rfl rfl rfl rfl h.tp.loc ?_
 have:behind c.ls c.fs (fnAt c.fs f) 18 A B=[0]:=by simp [behind]
 rw [this]
 refine VL.app hs (.one ?_)
 show VR c.ls R.words phi 0 (R.inp.getD D.used 0 % 65536,false) (R.inp.getD R.used 0 % 65536)
 rw [hu]
 exact vr_num (Int.emod_nonneg _ (by decide)) (Int.emod_lt_of_pos _ (by decide))
theorem step_jump (h:Cu c D R phi f (13,A,B) rest) (s0:D.status=0) (s0':R.status=0) (ho:D.out=R.out) (hu:D.used=R.used):Nx c D R (dstP c R.inp (13,A,B) D) (doP c (13,A,B) R):=by
 have e:ahead c.ls c.fs (fnAt c.fs f) 13 A B=[]:=by simp [ahead]
 have hs:=h.stk
 simp only [e,List.append_nil] at hs
 refine h.top s0 s0' ho hu rfl ⟨rfl,rfl,rfl,rfl⟩ rfl rfl rfl rfl rfl rfl rfl ?_ h.tp.loc ?_
 ·show A ∈ waysP 13 A R.top.pc.toNat
  simp [waysP]
 ·have:behind c.ls c.fs (fnAt c.fs f) 13 A B=[]:=by simp [behind]
  rw [this,List.append_nil]
  exact hs
theorem step_zero (h:Cu c D R phi f (14,A,B) rest) (s0:D.status=0) (s0':R.status=0) (ho:D.out=R.out) (hu:D.used=R.used):Nx c D R (dstP c R.inp (14,A,B) D) (doP c (14,A,B) R):=by
 have e:ahead c.ls c.fs (fnAt c.fs f) 14 A B=[0]:=by simp [ahead]
 have hs:=h.stk
 simp only [e] at hs
 obtain ⟨h1,v1⟩:=hs.snoc
 obtain ⟨x1,y1,z1⟩:=v1.num
 refine h.top s0 s0' ho hu rfl ⟨rfl,rfl,rfl,rfl⟩ rfl rfl rfl rfl rfl rfl ?_ ?_ h.tp.loc ?_
 ·show (if (dpopV D.top.stack).1=0 then A else D.top.pc+1)=if popV R.top.stack=0 then A else R.top.pc+1
  rw [x1,h.tp.pc]
 ·show (if popV R.top.stack=0 then A else R.top.pc+1) ∈ waysP 14 A R.top.pc.toNat
  have hp:=h.pc
  unfold waysP
  rw [if_neg (by decide),if_pos rfl,hp]
  split <;> simp
 ·have:behind c.ls c.fs (fnAt c.fs f) 14 A B=[]:=by simp [behind]
  rw [this,List.append_nil]
  exact h1
end
end Go.Proofs.Ytnfnbcbadakofab
namespace Go.Proofs.Ytnfnbcbadakofab
open Go.RowKit
theorem seg_get {ws:List Int} {a n i:Nat} (h:i < n):(seg ws a n).getD i 0=ws.getD (a+1+i) 0:=by
 unfold seg
 rw [List.getD_eq_getElem?_getD,List.getD_eq_getElem?_getD,List.getElem?_take_of_lt h,List.getElem?_drop]
theorem seg_set {ws:List Int} {a n i:Nat} {v:Int} (_h:i < n):seg (ws.set (a+1+i) v) a n=(seg ws a n).set i v:=by
 unfold seg
 rw [List.drop_set]
 rw [if_neg (by omega),show a+1+i - (a+1)=i by omega]
 rw [List.take_set]
theorem seg_off {ws:List Int} {a n p:Nat} {v:Int} (h:∀ i,i < n->p ≠ a+1+i):seg (ws.set p v) a n=seg ws a n:=by
 apply List.ext_getElem?
 intro i
 unfold seg
 by_cases hi:i < n
 ·rw [List.getElem?_take_of_lt hi,List.getElem?_take_of_lt hi,List.getElem?_drop,List.getElem?_drop,List.getElem?_set_ne (h i hi)]
 ·rw [List.getElem?_take_eq_none (by omega),List.getElem?_take_eq_none (by omega)]
theorem flds_ne {ls:List (List Int)} {A:Int} (h:0 < (flds ls A).length):1<=A:=by
 unfold flds at h
 split at h
 ·simp at h
 ·omega
theorem Mm.vr_mono {ls:List (List Int)} {ws ws':List Int} {phi phi':Nat->Option Nat} (hs:∀ a t,St ls ws a t->St ls ws' a t) (hp:∀ d a,phi d=some a->phi' d=some a):∀ k d v,VR ls ws phi k d v->VR ls ws' phi' k d v:=by
 intro k d v h
 rcases h with h | ⟨a,b,h | ⟨e,q,x,y,z,s⟩⟩
 ·exact .inl h
 ·exact .inr ⟨a,b,.inl h⟩
 ·exact .inr ⟨a,b,.inr ⟨e,q,x,y,hp _ _ z,hs _ _ s⟩⟩
theorem Mm.set {ls:List (List Int)} {recs:List (List (Int × Bool))} {ws:List Int} {phi:Nat->Option Nat} (hm:Mm ls recs ws phi) {e a i:Nat} {t:Int} (hp:phi e=some a) (hs:St ls ws a t) (hi:i < (flds ls t).length) {d:Int × Bool} {v:Int} (hv:VR ls ws phi ((flds ls t).getD i 0) d v) :
 Mm ls (recs.set e ((recs.getD e []).set i d)) (ws.set (a+1+i) v) phi/\∀ k d' v',VR ls ws phi k d' v'->VR ls (ws.set (a+1+i) v) phi k d' v':=by
 obtain ⟨r1,r2⟩:=recO_set (v:=v) ((hs.val hm.full).2.2 i hi)
 have st1:∀ b t,St ls ws b t->St ls (ws.set (a+1+i) v) b t:=fun b t h=>by unfold St at h ⊢;rw [r1];exact h
 have st2:∀ b t,St ls (ws.set (a+1+i) v) b t->St ls ws b t:=fun b t h=>by unfold St at h ⊢;rw [r1] at h;exact h
 have hmono:=Mm.vr_mono (phi:=phi) (phi':=phi) st1 (fun _ _ h=>h)
 refine ⟨⟨by rw [r2];exact hm.full,fun b t h=>hm.typ b t (st2 b t h),hm.inj,fun d' b hb=>?_,fun b t h=>hm.sur b t (st2 b t h)⟩,hmono⟩
 obtain ⟨x,t',y,z⟩:=hm.dom d' b hb
 refine ⟨by rw [List.length_set];exact x,t',st1 _ _ y,?_⟩
 by_cases hd:d'=e
 ·subst hd
  rw [hp] at hb
  simp only [Option.some.injEq] at hb
  subst hb
  have:=hs.uniq y
  subst this
  rw [seg_set hi]
  have:(recs.set d' ((recs.getD d' []).set i d)).getD d' []=(recs.getD d' []).set i d:=by
   rw [List.getD_eq_getElem?_getD,List.getElem?_set_self x];rfl
  rw [this]
  exact (z.set hv).mono hmono
 ·have hne:b ≠ a:=fun h=>hd (hm.inj _ _ a (by rw [hb,h]) hp)
  rw [seg_off (fun j hj=>(hs.apart y hm.full (fun h=>hne h.symm) hi hj).1)]
  have:(recs.set e ((recs.getD e []).set i d)).getD d' []=recs.getD d' []:=by
   rw [List.getD_eq_getElem?_getD,List.getElem?_set_ne (fun h=>hd h.symm),List.getD_eq_getElem?_getD]
  rw [this]
  exact z.mono hmono
section
variable {c:Cx} {D:Dn} {R:Rn} {phi:Nat->Option Nat} {f:Int} {op A B:Int} {rest:List Int}
theorem Cu.end (_h:Cu c D R phi f (op,A,B) rest) {D':Dn} {R':Rn} {s:Int} (hs:s=1 \/ s=3 \/ s=4 \/ s=5) (hst:D'.status=s) (hst':R'.status=s) (ho:D'.out=R'.out) (hu:D'.used=R'.used) (hi:R'.inp=R.inp)
 (hh:R'.heap=R.heap/\R'.depth=R.depth/\D'.heap=D.heap/\D'.depth=D.depth):Nx c D R D' R':=
 ⟨by rw [hst,hst'],ho,hu,hi,hh,fun h=>by rw [hst'] at h;omega,by rw [hst'];omega⟩
theorem step_get (h:Cu c D R phi f (8,A,B) rest) (s0:D.status=0) (s0':R.status=0) (ho:D.out=R.out) (hu:D.used=R.used):Nx c D R (dstP c R.inp (8,A,B) D) (doP c (8,A,B) R):=by
 have hi:=h.iok
 simp only [InsOk,gB] at hi
 have hB0:0<=B:=hi.2.2.1
 have hB1:B < ((flds c.ls A).length:Int):=by have:=hi.2.2.2;simp at this;omega
 have hA1:1<=A:=flds_ne (ls:=c.ls) (by omega)
 have e:ahead c.ls c.fs (fnAt c.fs f) 8 A B=[A]:=by simp [ahead]
 have hs:=h.stk
 simp only [e] at hs
 obtain ⟨h1,v1⟩:=hs.snoc
 have ed:dstP c R.inp (8,A,B) D=(if (dpopV D.top.stack).1=0 then { dincR D with top:=dpopF (dincR D).top,status:=3 } else { dincR D with top:=dpushF (dpopF (dincR D).top) ((D.recs.getD ((dpopV D.top.stack).1 - 1).toNat []).getD B.toNat (0,false)) }):=rfl
 have er:doP c (8,A,B) R=incR (if popV R.top.stack=0 then { R with top:=popF R.top,status:=3 } else { R with top:=pushF (popF R.top) (tyAt R.words (popV R.top.stack+B)) }):=rfl
 rw [ed,er]
 obtain ⟨_,hz | ⟨d,a,x,y,z,s⟩⟩:=v1.ref (by omega)
 ·rw [if_pos hz.1,if_pos hz.2]
  exact h.end (s:=3) (by omega) rfl rfl ho hu rfl ⟨rfl,rfl,rfl,rfl⟩
 ·rw [if_neg (by omega),if_neg (by omega)]
  refine h.next (by decide) (by decide) s0 s0' ho hu rfl ⟨rfl,rfl,rfl,rfl⟩ rfl rfl rfl rfl rfl rfl rfl rfl h.tp.loc ?_
  have:behind c.ls c.fs (fnAt c.fs f) 8 A B=[tyAt (flds c.ls A) B]:=by simp [behind]
  rw [this,tyAt_get hB0 hB1]
  refine VL.app h1 (.one ?_)
  show VR c.ls R.words phi _ ((D.recs.getD ((dpopV D.top.stack).1 - 1).toNat []).getD B.toNat (0,false)) (tyAt R.words (popV R.top.stack+B))
  obtain ⟨_,t,s',hv⟩:=h.sm.mem.dom _ _ z
  have:=s.uniq s'
  subst this
  have hw:=(s.val h.sm.mem.full).2.1
  have:=hv.get (i:=B.toNat) (by omega)
  rw [seg_get (by omega)] at this
  rw [tyAt_get (by omega) (by omega),show (popV R.top.stack+B).toNat=a+1+B.toNat by omega,show ((dpopV D.top.stack).1 - 1).toNat=d by omega]
  exact this
theorem Tp.nextF {c:Cx} {P:Int->Int × Bool->Int->Prop} {f:Int} {d:DFr} {g:Fr} (h:Tp c P f d g) {d':DFr} {g':Fr} (fn:g'.fn=g.fn) (dfn:d'.fn=d.fn) (pc:d'.pc=g'.pc) (p0:0<=g'.pc) (pl:g'.pc < ((fnAt c.fs f).code.length:Int)) {Q:Int->Int × Bool->Int->Prop} (loc:VL Q (fnAt c.fs f).locals d'.locals g'.locals) {S:List Int} (hS:spP c.sps f g'.pc=some S) (stk:VL Q S d'.stack g'.stack):Tp c Q f d' g':=
 ⟨by rw [fn];exact h.fn,by rw [dfn];exact h.dfn,h.f0,h.fl,pc,p0,pl,loc,S,hS,stk⟩
theorem step_set (h:Cu c D R phi f (9,A,B) rest) (s0:D.status=0) (s0':R.status=0) (ho:D.out=R.out) (hu:D.used=R.used):Nx c D R (dstP c R.inp (9,A,B) D) (doP c (9,A,B) R):=by
 have hi:=h.iok
 simp only [InsOk,gB] at hi
 have hB0:0<=B:=hi.2.2.1
 have hB1:B < ((flds c.ls A).length:Int):=by have:=hi.2.2.2;simp at this;omega
 have hA1:1<=A:=flds_ne (ls:=c.ls) (by omega)
 have e:ahead c.ls c.fs (fnAt c.fs f) 9 A B=[A]++[tyAt (flds c.ls A) B]:=by simp [ahead]
 have hs:=h.stk
 simp only [e] at hs
 rw [<-List.append_assoc] at hs
 obtain ⟨h1,v1⟩:=hs.snoc
 obtain ⟨h2,v2⟩:=h1.snoc
 have ed:dstP c R.inp (9,A,B) D=(if (dpopV D.top.stack.dropLast).1=0 then { dincR D with top:=dpopF (dpopF (dincR D).top),status:=3 } else { dincR D with top:=dpopF (dpopF (dincR D).top),recs:=D.recs.set ((dpopV D.top.stack.dropLast).1 - 1).toNat ((D.recs.getD ((dpopV D.top.stack.dropLast).1 - 1).toNat []).set B.toNat (dpopV D.top.stack)) }):=rfl
 have er:doP c (9,A,B) R=incR (if popV R.top.stack.dropLast=0 then { R with top:=popF (popF R.top),status:=3 } else { R with top:=popF (popF R.top),words:=if 0<=popV R.top.stack.dropLast+B/\popV R.top.stack.dropLast+B < (R.words.length:Int) then R.words.set (popV R.top.stack.dropLast+B).toNat (popV R.top.stack) else R.words }):=rfl
 rw [ed,er]
 obtain ⟨_,hz | ⟨d,a,x,y,z,s⟩⟩:=v2.ref (by omega)
 ·rw [if_pos hz.1,if_pos hz.2]
  exact h.end (s:=3) (by omega) rfl rfl ho hu rfl ⟨rfl,rfl,rfl,rfl⟩
 ·have hw:=(s.val h.sm.mem.full).2.1
  rw [tyAt_get hB0 hB1] at v1
  obtain ⟨m1,m2⟩:=h.sm.mem.set z s (i:=B.toNat) (by omega) v1
  rw [if_neg (by omega),if_neg (by omega),if_pos ⟨by omega,by omega⟩,show (popV R.top.stack.dropLast+B).toNat=a+1+B.toNat by omega,show ((dpopV D.top.stack.dropLast).1 - 1).toNat=d by omega]
  have hwy:=h.way _ (ways_next (op:=9) (A:=A) (i:=R.top.pc.toNat) (by decide) (by decide))
  rw [h.pc] at hwy
  have:behind c.ls c.fs (fnAt c.fs f) 9 A B=[]:=by simp [behind]
  simp only [this,List.append_nil] at hwy
  refine ⟨?_,ho,hu,rfl,⟨rfl,rfl,rfl,rfl⟩,fun _=>⟨phi,?_⟩,.inl s0'⟩
  ·show D.status=R.status
   rw [s0,s0']
  ·refine ⟨h.sm.h0,h.sm.h4,h.sm.d1,h.sm.d64,h.sm.heap,h.sm.depth,m1,?_,h.sm.bl,f,h.bel.mono m2,?_⟩
   ·show ((R.words.set _ _).length:Int)<=R.heap
    rw [List.length_set];exact h.sm.len
   ·exact h.tp.nextF (g':=incF (popF (popF R.top))) (d':=dpopF (dpopF (dincR D).top)) rfl rfl (by show D.top.pc+1=R.top.pc+1;rw [h.tp.pc]) hwy.1 hwy.2.1 (h.tp.loc.mono m2) hwy.2.2 (h2.mono m2)
theorem popN_of {S:List Int} {n:Nat} (h:n<=S.length):popN S n=S.drop (S.length - n)/\resN S n=S.take (S.length - n):=by
 unfold popN resN;rw [if_neg (by omega),if_neg (by omega)];exact ⟨rfl,rfl⟩
theorem vl_blank {P:Int->Int × Bool->Int->Prop} (h0:P 0 (0,false) 0) (h1:∀ k,k ≠ 0->P k (0,true) 0) (l:List Int) (hl:∀ t ∈ l,0<=t):VL P l (l.map fun t=>((0:Int),decide (0 < t))) (List.replicate l.length 0):=by
 induction l with
 | nil=>exact .nil
 | cons t l ih =>
  have ht:=hl t (by simp)
  refine .cons ?_ (ih (fun t h=>hl t (by simp [h])))
  by_cases h:t=0
  ·subst h;simpa using h0
  ·have:decide (0 < t)=true:=by simp;omega
   show P t (0,decide (0 < t)) 0
   rw [this];exact h1 t h
theorem argsC_eq {c:Cx} (ok:CxOk c) {g:Int} (h0:0<=g) (hl:g < (c.fs.length:Int)):argsF c.fs g=(fnAt c.fs g).locals.take (fnAt c.fs g).args.toNat/\(argsF c.fs g).length=(fnAt c.fs g).args.toNat:=by
 have hj:g.toNat < c.fs.length:=by omega
 have hk:=fnAt_ok ok h0 hl
 have e:argsF c.fs g=(fnAt c.fs g).locals.take (fnAt c.fs g).args.toNat:=by
  rw [argsF_eq,frontP,if_neg (by have:=hk.a0;have:=hk.al;omega)]
 refine ⟨e,?_⟩
 rw [e,List.length_take]
 have:=hk.a0
 have:=hk.al
 omega
theorem step_call (ok:CxOk c) (h:Cu c D R phi f (15,A,B) rest) (s0:D.status=0) (s0':R.status=0) (ho:D.out=R.out) (hu:D.used=R.used):Nx c D R (dstP c R.inp (15,A,B) D) (doP c (15,A,B) R):=by
 have hi:=h.iok
 simp only [InsOk,bA] at hi
 have hA0:0<=A:=hi.2.1.1
 have hA1:A < (c.fs.length:Int):=by have:=hi.2.1.2;simp at this;omega
 have e:ahead c.ls c.fs (fnAt c.fs f) 15 A B=argsF c.fs A:=by simp [ahead]
 have hs:=h.stk
 have hsp:=h.spt
 simp only [e] at hs hsp
 obtain ⟨h1,h2⟩:=hs.split
 have hl:=hs.len
 rw [List.length_append] at hl
 have hbl:=h.bel.len
 have ed:dstP c R.inp (15,A,B) D=dcallP c A (dincR D):=rfl
 have er:doP c (15,A,B) R=clP c A R:=rfl
 rw [ed,er]
 unfold dcallP clP
 have e1:(dincR D).depth=R.depth:=h.sm.depth
 have e2:(dincR D).below.length=R.below.length:=hbl
 by_cases hd:R.depth<=(R.below.length:Int)+1
 ·rw [if_pos (show (dincR D).depth<=((dincR D).below.length:Int)+1 by rw [e1,e2];exact hd),if_pos hd]
  exact h.end (s:=5) (by omega) rfl rfl ho hu rfl ⟨rfl,rfl,rfl,rfl⟩
 ·rw [if_neg (show ¬ (dincR D).depth<=((dincR D).below.length:Int)+1 by rw [e1,e2];exact hd),if_neg hd]
  obtain ⟨p1,p2⟩:=popN_of (S:=R.top.stack) (n:=(argsF c.fs A).length) (by omega)
  have fk:=fnAt_ok ok hA0 hA1
  obtain ⟨ae,al⟩:=argsC_eq ok hA0 hA1
  have ez:=ok.zero A hA0 hA1
  refine ⟨?_,ho,hu,rfl,⟨rfl,rfl,rfl,rfl⟩,fun _=>⟨phi,?_⟩,.inl s0'⟩
  ·show D.status=R.status
   rw [s0,s0']
  ·refine h.sm.same ⟨rfl,rfl,rfl,rfl⟩ rfl rfl ?_ ⟨A,?_,?_⟩
   ·show ((R.below++[_]).length:Int)+1<=R.depth
    rw [List.length_append];simp;omega
   ·refine .snoc h.bel ⟨h.tp.fn,h.tp.dfn,h.tp.f0,h.tp.fl,?_,h.tp.p0,h.tp.pl,by rw [h.ins],by rw [h.ins],h.tp.loc,rest,hsp,?_⟩
    ·show D.top.pc+1=R.top.pc+1
     rw [h.tp.pc]
    ·show VL _ rest (D.top.stack.take (D.top.stack.length - (argsF c.fs A).length)) (resN R.top.stack (argsF c.fs A).length)
     rw [p2,show D.top.stack.length - (argsF c.fs A).length=rest.length by omega,show R.top.stack.length - (argsF c.fs A).length=rest.length by omega]
     exact h1
   ·refine ⟨rfl,rfl,hA0,hA1,rfl,Int.le_refl _,?_,?_,[],ez,.nil⟩
    ·show (0:Int) < _
     have:=fk.c1;omega
    ·show VL _ (fnAt c.fs A).locals (D.top.stack.drop (D.top.stack.length - (argsF c.fs A).length)++blankP (fnAt c.fs A).locals (argsF c.fs A).length) (popN R.top.stack (argsF c.fs A).length++List.replicate ((fnAt c.fs A).locals.length - (popN R.top.stack (argsF c.fs A).length).length) 0)
     have hn:(popN R.top.stack (argsF c.fs A).length).length=(argsF c.fs A).length:=by rw [p1,List.length_drop];omega
     rw [hn,p1,show D.top.stack.length - (argsF c.fs A).length=rest.length by omega,show R.top.stack.length - (argsF c.fs A).length=rest.length by omega]
     have hsplit:(fnAt c.fs A).locals=argsF c.fs A++(fnAt c.fs A).locals.drop (argsF c.fs A).length:=by
      rw [al];conv=>lhs;rw [<-List.take_append_drop (fnAt c.fs A).args.toNat (fnAt c.fs A).locals,<-ae]
     conv=>arg 2;rw [hsplit]
     refine VL.app h2 ?_
     have:=vl_blank (P:=VR c.ls R.words phi) (vr_num (Int.le_refl 0) (by decide)) (fun k hk=>vr_nil hk) ((fnAt c.fs A).locals.drop (argsF c.fs A).length) (fun t ht=>(fk.lt t (List.mem_of_mem_drop ht)).1)
     rw [List.length_drop] at this
     exact this
theorem resC_eq {c:Cx} {g:Int} (h0:0<=g) (hl:g < (c.fs.length:Int)):resF c.fs g=(fnAt c.fs g).result:=by
 have hj:g.toNat < c.fs.length:=by omega
 unfold resF fnAt;rw [dif_pos ⟨h0,hj⟩,dif_pos ⟨h0,hj⟩]
theorem Bel.inv {c:Cx} {P:Int->Int × Bool->Int->Prop} {ds:List DFr} {gs:List Fr} {h:Int} (hb:Bel c P ds gs h) (hne:gs ≠ []):∃ (hd:ds ≠ []) (f:Int),Bel c P ds.dropLast gs.dropLast f/\Wt c P f h (ds.getLast hd) (gs.getLast hne):=by
 cases hb with
 | nil=>exact absurd rfl hne
 | snoc hb hw=>exact ⟨by simp,_,by simpa using hb,by simpa using hw⟩
theorem Bel.nil_inv {c:Cx} {P:Int->Int × Bool->Int->Prop} {ds:List DFr} {gs:List Fr} {h:Int} (hb:Bel c P ds gs h) (he:gs=[]):h=0:=by
 cases hb with
 | nil=>rfl
 | snoc _ _=>simp at he
theorem step_ret (ok:CxOk c) (h:Cu c D R phi f (16,A,B) rest) (s0:D.status=0) (s0':R.status=0) (ho:D.out=R.out) (hu:D.used=R.used):Nx c D R (dstP c R.inp (16,A,B) D) (doP c (16,A,B) R):=by
 have hr:=h.ret rfl
 subst hr
 have e:ahead c.ls c.fs (fnAt c.fs f) 16 A B=[(fnAt c.fs f).result]:=by simp [ahead]
 have hs:=h.stk
 simp only [e] at hs
 obtain ⟨_,v1⟩:=hs.snoc
 have hbl:=h.bel.len
 have ed:dstP c R.inp (16,A,B) D=dretP (dincR D):=rfl
 have er:doP c (16,A,B) R=gbP R:=rfl
 rw [ed,er]
 unfold dretP gbP
 by_cases hb:R.below=[]
 ·have hb':(dincR D).below=[]:=by show D.below=[];exact List.eq_nil_of_length_eq_zero (by rw [hbl,hb];rfl)
  rw [dif_pos hb,dif_pos hb']
  have hf0:f=0:=h.bel.nil_inv hb
  have hres:(fnAt c.fs f).result=0:=(h.fok.fst (by rw [hf0];rfl)).2
  rw [hres] at v1
  obtain ⟨x1,_,_⟩:=v1.num
  refine h.end (s:=1) (by omega) rfl rfl ?_ hu rfl ⟨rfl,rfl,rfl,rfl⟩
  show D.out++[(dpopV D.top.stack).1]=R.out++[popV R.top.stack]
  rw [x1,ho]
 ·obtain ⟨hd,f',hb1,hw⟩:=h.bel.inv hb
  have hd':(dincR D).below ≠ []:=hd
  rw [dif_neg hb,dif_neg hd']
  obtain ⟨S,hS,hV⟩:=hw.stk
  obtain ⟨q1,q2⟩:=ok.fit _ _ _ hS
  obtain ⟨T,hT⟩:=Option.isSome_iff_exists.1 q1
  obtain ⟨rest',t1,t2,_,_⟩:=after_inv hT
  have q3:=q2 T hT
  rw [hw.op,hw.tgt] at q3 t1 t2
  have hp0:=hw.p0
  have hway:=q3 _ (ways_next (A:=f) (i:=(R.below.getLast hb).pc.toNat) (by decide) (by decide))
  rw [show (((R.below.getLast hb).pc.toNat:Nat):Int)=(R.below.getLast hb).pc by omega] at hway
  have ea:ahead c.ls c.fs (fnAt c.fs f') 15 f (insP (fnAt c.fs f') (R.below.getLast hb).pc).2.2=argsF c.fs f:=by simp [ahead]
  have eb:behind c.ls c.fs (fnAt c.fs f') 15 f (insP (fnAt c.fs f') (R.below.getLast hb).pc).2.2=[(fnAt c.fs f).result]:=by simp [behind,resC_eq h.tp.f0 h.tp.fl]
  rw [ea] at t1
  have hre:S=rest':=List.append_cancel_right t1
  subst hre
  rw [eb] at t2
  subst t2
  refine ⟨?_,ho,hu,rfl,⟨rfl,rfl,rfl,rfl⟩,fun _=>⟨phi,?_⟩,.inl s0'⟩
  ·show D.status=R.status
   rw [s0,s0']
  ·refine h.sm.same ⟨rfl,rfl,rfl,rfl⟩ rfl rfl ?_ ⟨f',hb1,?_⟩
   ·show ((R.below.dropLast).length:Int)+1<=R.depth
    have:=h.sm.bl
    rw [List.length_dropLast];omega
   ·refine ⟨hw.fn,hw.dfn,hw.f0,hw.fl,hw.pc,hway.1,hway.2.1,hw.loc,_,hway.2.2,?_⟩
    exact VL.app hV (.one v1)
end
end Go.Proofs.Ytnfnbcbadakofab
namespace Go.Proofs.Ytnfnbcbadakofab
open Go.RowKit
def sz (recs:List (List (Int × Bool))) (d:Nat):Nat:=1+(recs.getD d []).length
def offO (recs:List (List (Int × Bool))):List Nat->Nat->Option Nat
 | [],_=>none
 | e::L,d=>if e=d then some 0 else (offO recs L d).map (· + sz recs e)
def tot (recs:List (List (Int × Bool))):List Nat->Nat
 | []=>0
 | e::L=>sz recs e+tot recs L
section
variable {recs:List (List (Int × Bool))}
theorem tot_app (L L':List Nat):tot recs (L++L')=tot recs L+tot recs L':=by
 induction L with
 | nil=>simp [tot]
 | cons e L ih=>simp [tot,ih];omega
theorem off_none (L:List Nat) (d:Nat):offO recs L d=none ↔ d ∉ L:=by
 induction L with
 | nil=>simp [offO]
 | cons e L ih =>
  unfold offO
  by_cases h:e=d
  ·rw [if_pos h];simp [h]
  ·rw [if_neg h];simp [ih];exact fun _=>fun h'=>h h'.symm
theorem off_mem {L:List Nat} {d:Nat} (h:d ∈ L):∃ o,offO recs L d=some o:=by
 cases ho:offO recs L d with
 | none=>exact absurd h ((off_none L d).1 ho)
 | some o=>exact ⟨o,rfl⟩
theorem off_app {L:List Nat} {d o:Nat} (h:offO recs L d=some o) (L':List Nat):offO recs (L++L') d=some o:=by
 induction L generalizing o with
 | nil=>simp [offO] at h
 | cons e L ih =>
  simp only [offO,List.cons_append] at h ⊢
  by_cases hd:e=d
  ·rw [if_pos hd] at h ⊢;exact h
  ·rw [if_neg hd] at h ⊢
   cases ho:offO recs L d with
   | none=>rw [ho] at h;cases h
   | some o'=>rw [ho] at h;rw [ih ho];exact h
theorem off_new {L:List Nat} {d:Nat} (h:d ∉ L) (L':List Nat):offO recs (L++d::L') d=some (tot recs L):=by
 induction L with
 | nil=>simp [offO,tot]
 | cons e L ih =>
  simp only [List.mem_cons,not_or] at h
  simp only [offO,List.cons_append,tot]
  rw [if_neg (fun x=>h.1 x.symm),ih h.2]
  simp;omega
theorem off_lt {L:List Nat} {d o:Nat} (h:offO recs L d=some o):o+sz recs d<=tot recs L:=by
 induction L generalizing o with
 | nil=>simp [offO] at h
 | cons e L ih =>
  simp only [offO,tot] at h ⊢
  by_cases hd:e=d
  ·rw [if_pos hd] at h;simp at h;subst h;subst hd;omega
  ·rw [if_neg hd] at h
   cases ho:offO recs L d with
   | none=>rw [ho] at h;cases h
   | some o'=>rw [ho] at h;have:=ih ho;simp at h;omega
theorem off_apart {L:List Nat} {d e o p:Nat} (h:offO recs L d=some o) (h':offO recs L e=some p) (hne:d ≠ e):o+sz recs d<=p \/ p+sz recs e<=o:=by
 induction L generalizing o p with
 | nil=>simp [offO] at h
 | cons x L ih =>
  simp only [offO] at h h'
  by_cases hd:x=d
  ·rw [if_pos hd] at h;simp at h;subst h;subst hd
   rw [if_neg hne] at h'
   cases ho:offO recs L e with
   | none=>rw [ho] at h';cases h'
   | some o'=>rw [ho] at h';simp at h';omega
  ·rw [if_neg hd] at h
   cases ho:offO recs L d with
   | none=>rw [ho] at h;cases h
   | some o' =>
    rw [ho] at h
    simp at h
    by_cases he:x=e
    ·rw [if_pos he] at h';simp at h';subst h';subst he;omega
    ·rw [if_neg he] at h'
     cases hp:offO recs L e with
     | none=>rw [hp] at h';cases h'
     | some p'=>rw [hp] at h';simp at h';have:=ih ho hp;omega
theorem off_inj {L:List Nat} {d e o:Nat} (h:offO recs L d=some o) (h':offO recs L e=some o):d=e:=by
 rcases Nat.decEq d e with hne | he
 ·rcases off_apart h h' hne with a | a <;> unfold sz at a <;> omega
 ·exact he
end
def mvS (ls:List (List Int)):List (Option Int)->List Int->Nat
 | some t::os,r::rs=>(if r ≠ 0 then 1+(flds ls t).length else 0)+mvS ls os rs
 | none::os,_::rs=>mvS ls os rs
 | _,_=>0
theorem mvS_le (ls:List (List Int)) (ws:List Int):∀ (n:Nat) (rs:List Int),mvS ls (recO ls n ws) rs+n<=ws.length+endL ls n ws:=by
 induction ws with
 | nil=>intro n rs;cases n <;> simp [recO,mvS,endL]
 | cons w ws ih =>
  intro n rs
  cases rs with
  | nil =>
   cases n with
   | zero=>have:=ih (flds ls w).length [];simp only [recO,mvS,endL,List.length_cons];omega
   | succ n=>have:=ih n [];simp only [recO,mvS,endL,List.length_cons];omega
  | cons r rs =>
   cases n with
   | zero=>have:=ih (flds ls w).length rs;simp only [recO,mvS,endL,List.length_cons];split <;> omega
   | succ n=>have:=ih n rs;simp only [recO,mvS,endL,List.length_cons];omega
theorem mvS_set {ls:List (List Int)} {v:Int} (hv:v ≠ 0):∀ {os:List (Option Int)} {rs:List Int} {a:Nat} {t:Int},os[a]?=some (some t)->rs[a]?=some 0->mvS ls os (rs.set a v)=mvS ls os rs+1+(flds ls t).length:=by
 intro os
 induction os with
 | nil=>intro rs a t h;simp at h
 | cons o os ih =>
  intro rs a t h h'
  cases rs with
  | nil=>simp at h'
  | cons r rs =>
   cases a with
   | zero =>
    simp at h h';subst h;subst h'
    simp [mvS,hv];omega
   | succ a =>
    have:=ih (rs:=rs) (a:=a) (t:=t) (by simpa using h) (by simpa using h')
    cases o with
    | none=>simpa [mvS] using this
    | some u=>simp only [mvS,List.set_cons_succ];rw [this];omega
theorem mvS_zero (ls:List (List Int)) (os:List (Option Int)) (n:Nat):mvS ls os (List.replicate n 0)=0:=by
 induction os generalizing n with
 | nil=>cases n <;> simp [mvS]
 | cons o os ih =>
  cases n with
  | zero=>cases o <;> simp [mvS]
  | succ n=>cases o <;> simp [mvS,List.replicate_succ,ih]
def VN (ls:List (List Int)) (recs:List (List (Int × Bool))) (ws:List Int) (phi:Nat->Option Nat) (L:List Nat) (kind:Int) (d:Int × Bool) (v:Int):Prop:=
 (kind=0/\d.2=false/\d.1=v/\0<=v/\v < 65536) \/
 (kind ≠ 0/\d.2=true/\((d.1=0/\v=0) \/ ∃ e o a:Nat,d.1=(e:Int)+1/\v=(o:Int)+1/\offO recs L e=some o/\phi e=some a/\St ls ws a kind))
theorem VN.app {ls:List (List Int)} {recs:List (List (Int × Bool))} {ws:List Int} {phi:Nat->Option Nat} {L:List Nat} {kind:Int} {d:Int × Bool} {v:Int} (h:VN ls recs ws phi L kind d v) (L':List Nat):VN ls recs ws phi (L++L') kind d v:=by
 rcases h with h | ⟨a,b,h | ⟨e,o,p,x,y,z,s⟩⟩
 ·exact .inl h
 ·exact .inr ⟨a,b,.inl h⟩
 ·exact .inr ⟨a,b,.inr ⟨e,o,p,x,y,off_app z L',s⟩⟩
structure Lk (ls:List (List Int)) (recs:List (List (Int × Bool))) (ws:List Int) (phi:Nat->Option Nat) (k:Nat) (mk:Mk) (mv:Mv):Prop where
 sl:mk.seen.length=recs.length
 seen:∀ d,d < recs.length->mk.seen.getD d true=decide (d ∈ mk.list)
 sc:mk.seen.countP id=mk.list.length
 dom:∀ d ∈ mk.list,∃ a,phi d=some a
 nd:mk.list.Nodup
 rl:mv.refs.length=ws.length
 refs:∀ d a,phi d=some a->(mv.refs.getD a 0=0/\offO recs mk.list d=none) \/ ∃ o:Nat,mv.refs.getD a 0=(o:Int)+1/\offO recs mk.list d=some o
 tl:mv.to.length=tot recs mk.list
 ms:mv.to.length=mvS ls (recO ls 0 ws) mv.refs
 kl:k<=mv.to.length
 con:∀ d o a t,offO recs mk.list d=some o->phi d=some a->St ls ws a t->mv.to.getD o 0=t/\∀ i,i < (flds ls t).length ->
  (o+1+i < k->VN ls recs ws phi mk.list ((flds ls t).getD i 0) ((recs.getD d []).getD i (0,false)) (mv.to.getD (o+1+i) 0))/\(k<=o+1+i->mv.to.getD (o+1+i) 0=ws.getD (a+1+i) 0)
section
variable {ls:List (List Int)} {recs:List (List (Int × Bool))} {ws:List Int} {phi:Nat->Option Nat}
theorem Mm.size (hm:Mm ls recs ws phi) {d a:Nat} {t:Int} (hp:phi d=some a) (hs:St ls ws a t):sz recs d=1+(flds ls t).length:=by
 obtain ⟨_,t',s',hv⟩:=hm.dom d a hp
 have:=hs.uniq s'
 subst this
 unfold sz;rw [hv.len.1]
theorem Lk.le (hm:Mm ls recs ws phi) {k:Nat} {mk:Mk} {mv:Mv} (h:Lk ls recs ws phi k mk mv):mv.to.length<=ws.length:=by
 have:=mvS_le ls ws 0 mv.refs
 rw [hm.full] at this
 rw [h.ms];omega
theorem getD_app_left {l l':List Int} {i:Nat} (h:i < l.length):(l++l').getD i 0=l.getD i 0:=by
 rw [List.getD_eq_getElem?_getD,List.getD_eq_getElem?_getD,List.getElem?_append_left h]
theorem getD_app_right {l l':List Int} {i:Nat} (h:l.length<=i):(l++l').getD i 0=l'.getD (i - l.length) 0:=by
 rw [List.getD_eq_getElem?_getD,List.getD_eq_getElem?_getD,List.getElem?_append_right h]
theorem getD_set_self {l:List Int} {i:Nat} {v:Int} (h:i < l.length):(l.set i v).getD i 0=v:=by rw [List.getD_eq_getElem?_getD,List.getElem?_set_self h];rfl
theorem getD_set_ne {l:List Int} {i j:Nat} {v:Int} (h:i ≠ j):(l.set i v).getD j 0=l.getD j 0:=by rw [List.getD_eq_getElem?_getD,List.getElem?_set_ne h,<-List.getD_eq_getElem?_getD]
theorem getD_seg {l:List Int} {a n i:Nat} (h:i < n):((l.drop a).take n).getD i 0=l.getD (a+i) 0:=by
 rw [List.getD_eq_getElem?_getD,List.getD_eq_getElem?_getD,List.getElem?_take_of_lt h,List.getElem?_drop]
theorem mk_num {mk:Mk} {v:Int × Bool} (h:v.2=false):mkV mk v=mk:=by unfold mkV;rw [if_neg (by simp [h])]
theorem mk_nil {mk:Mk} {v:Int × Bool} (h:v.1=0):mkV mk v=mk:=by unfold mkV;rw [if_neg (by omega)]
set_option maxHeartbeats 1000000 in
theorem mv1_lock (hm:Mm ls recs ws phi) {k:Nat} {mk:Mk} {mv:Mv} (h:Lk ls recs ws phi k mk mv) {kind:Int} {d:Int × Bool} {v:Int} (hv:VR ls ws phi kind d v) :
 Lk ls recs ws phi k (mkV mk d) (mv1 ls ws kind v mv).2/\VN ls recs ws phi (mkV mk d).list kind d (mv1 ls ws kind v mv).1/\(∃ L',(mkV mk d).list=mk.list++L')/\∃ T,(mv1 ls ws kind v mv).2.to=mv.to++T:=by
 rcases hv with ⟨k0,d2,d1,v0,v1⟩ | ⟨k0,d2,⟨d1,v0⟩ | ⟨e,a,x,y,z,s⟩⟩
 ·rw [mk_num d2]
  have:mv1 ls ws kind v mv=(v,mv):=by unfold mv1;rw [if_neg (by simp [k0])]
  rw [this]
  exact ⟨h,.inl ⟨k0,d2,d1,v0,v1⟩,⟨[],by simp⟩,⟨[],by simp⟩⟩
 ·rw [mk_nil d1]
  have:mv1 ls ws kind v mv=(0,mv):=by unfold mv1 mvP;rw [if_pos k0,if_pos (by omega)]
  rw [this]
  exact ⟨h,.inr ⟨k0,d2,.inl ⟨d1,rfl⟩⟩,⟨[],by simp⟩,⟨[],by simp⟩⟩
 ·have e1:mv1 ls ws kind v mv=mvP ls ws mv v:=by unfold mv1;rw [if_pos k0]
  rw [e1]
  obtain ⟨w1,w2,_⟩:=s.val hm.full
  have hel:=(hm.dom e a z).1
  have ha:(v - 1).toNat=a:=by omega
  have hde:(d.1 - 1).toNat=e:=by omega
  have hwa:ws.getD a 0=kind:=by rw [List.getD_eq_getElem?_getD,w1];rfl
  have hal:a < ws.length:=by omega
  unfold mvP
  rw [ha,hwa,if_neg (by omega)]
  have hsn:=h.seen e hel
  rcases h.refs e a z with ⟨r0,o0⟩ | ⟨o,r1,o1⟩
  ·have hne:e ∉ mk.list:=(off_none _ _).1 o0
   rw [r0,if_neg (by simp),if_neg (by omega)]
   have emk:mkV mk d=⟨mk.seen.set e true,mk.list++[e]⟩:=by
    unfold mkV;rw [hde,if_pos ⟨d2,by omega,by rw [hsn];simp [hne]⟩]
   rw [emk]
   have hof:=off_new (recs:=recs) hne []
   have hsz:=hm.size z s
   have hrg:mv.refs[a]?=some 0:=by
    have hl:=h.rl
    rw [List.getD_eq_getElem?_getD] at r0
    rw [List.getElem?_eq_getElem (by omega)] at r0 ⊢
    simpa using r0
   have hTl:((ws.drop a).take (1+(flds ls kind).length)).length=1+(flds ls kind).length:=by rw [List.length_take,List.length_drop];omega
   refine ⟨⟨by simp [h.sl],?_,?_,?_,List.nodup_append.2 ⟨h.nd,by simp,fun x hx y hy=>by simp at hy;subst hy;exact fun q=>hne (q ▸ hx)⟩,by simp [h.rl],?_,?_,?_,?_,?_⟩,?_,⟨[e],rfl⟩,⟨_,rfl⟩⟩
   ·intro d' hd'
    by_cases hq:d'=e
    ·subst hq
     rw [List.getD_eq_getElem?_getD,List.getElem?_set_self (by rw [h.sl];exact hd')];simp
    ·rw [List.getD_eq_getElem?_getD,List.getElem?_set_ne (fun x=>hq x.symm),<-List.getD_eq_getElem?_getD,h.seen d' hd']
     simp [hq]
   ·have hsg:mk.seen[e]?=some false:=by
     rw [List.getD_eq_getElem?_getD] at hsn
     rw [List.getElem?_eq_getElem (by rw [h.sl];exact hel)] at hsn ⊢
     simp [hne] at hsn ⊢;exact hsn
    have hsc:=h.sc
    have hlt:e < mk.seen.length:=by rw [h.sl];exact hel
    rw [List.countP_set hlt]
    have:mk.seen[e]=false:=by rw [List.getElem?_eq_getElem hlt] at hsg;simpa using hsg
    simp [this,hsc]
   ·intro d' hd'
    rcases List.mem_append.1 hd' with hd' | hd'
    ·exact h.dom d' hd'
    ·simp at hd';subst hd';exact ⟨a,z⟩
   ·intro d' a' hp
    by_cases hq:d'=e
    ·subst hq
     rw [z] at hp;simp at hp;subst hp
     refine .inr ⟨tot recs mk.list,?_,hof⟩
     rw [List.getD_eq_getElem?_getD,List.getElem?_set_self (by rw [h.rl];exact hal),<-h.tl];rfl
    ·have hna:a ≠ a':=fun x=>hq (hm.inj _ _ a (by rw [hp,x]) z)
     rw [List.getD_eq_getElem?_getD,List.getElem?_set_ne hna,<-List.getD_eq_getElem?_getD]
     rcases h.refs d' a' hp with ⟨q1,q2⟩ | ⟨o',q1,q2⟩
     ·refine .inl ⟨q1,?_⟩
      rw [off_none] at q2 ⊢
      simp [q2,hq]
     ·exact .inr ⟨o',q1,off_app q2 _⟩
   ·show (mv.to++_).length=_
    rw [List.length_append,hTl,tot_app,h.tl];simp [tot];omega
   ·show (mv.to++_).length=mvS ls (recO ls 0 ws) (mv.refs.set a _)
    rw [mvS_set (by omega) s hrg,List.length_append,hTl,h.ms];omega
   ·show k<=(mv.to++_).length
    have:=h.kl
    rw [List.length_append];omega
   ·intro d' o' a' t' ho' hp' hs'
    by_cases hq:d'=e
    ·subst hq
     rw [z] at hp';simp at hp';subst hp'
     have:=s.uniq hs'
     subst this
     have hq2:offO recs (mk.list++[d']) d'=some o':=ho'
     rw [hof] at hq2
     simp at hq2
     subst hq2
     have htl:=h.tl
     refine ⟨?_,fun i hi=>⟨fun hk=>?_,fun _=>?_⟩⟩
     ·show (mv.to++_).getD _ 0=_
      rw [getD_app_right (by omega),htl,Nat.sub_self,getD_seg (by omega),Nat.add_zero,hwa]
     ·have:=h.kl;omega
     ·show (mv.to++_).getD _ 0=_
      rw [getD_app_right (by omega),getD_seg (by omega),htl];congr 1;omega
    ·have ho2:offO recs mk.list d'=some o':=by
      cases hx:offO recs mk.list d' with
      | some o2=>have:=off_app hx [e];rw [show offO recs (mk.list++[e]) d'=some o' from ho'] at this;exact this.symm
      | none =>
       rw [off_none] at hx
       have:offO recs (mk.list++[e]) d'=none:=by rw [off_none];simp [hx,hq]
       rw [show offO recs (mk.list++[e]) d'=some o' from ho'] at this;cases this
     obtain ⟨c1,c2⟩:=h.con d' o' a' t' ho2 hp' hs'
     have hlt:=off_lt ho2
     have hz':=hm.size hp' hs'
     have htl:=h.tl
     refine ⟨?_,fun i hi=>?_⟩
     ·show (mv.to++_).getD _ 0=_
      rw [getD_app_left (by omega)];exact c1
     ·show (_->VN _ _ _ _ _ _ _ ((mv.to++_).getD _ 0))/\(_->(mv.to++_).getD _ 0=_)
      rw [getD_app_left (by omega)]
      exact ⟨fun hk=>((c2 i hi).1 hk).app _,(c2 i hi).2⟩
   ·refine .inr ⟨k0,d2,.inr ⟨e,tot recs mk.list,a,x,?_,hof,z,s⟩⟩
    show (mv.to.length:Int)+1=_
    rw [h.tl]
  ·have hin:e ∈ mk.list:=by
    rcases Classical.em (e ∈ mk.list) with q | q
    ·exact q
    ·rw [(off_none _ _).2 q] at o1;cases o1
   rw [r1,if_pos (by omega)]
   have emk:mkV mk d=mk:=by
    unfold mkV;rw [hde,if_neg]
    rw [hsn];simp [hin]
   rw [emk]
   exact ⟨h,.inr ⟨k0,d2,.inr ⟨e,o,a,x,rfl,o1,z,s⟩⟩,⟨[],by simp⟩,⟨[],by simp⟩⟩
end
end Go.Proofs.Ytnfnbcbadakofab
