import Derived.Test.YtnfnbcbadakofaaRin
import Derived.Test.YtnfnbcbadakofaaBgn
namespace Go.Proofs.Ytnfnbcbadakofaa
open Go.RowKit
structure DFr where
 fn:Int
 pc:Int
 locals:List (Int × Bool)
 stack:List (Int × Bool)
structure Dn where
 heap:Int
 depth:Int
 status:Int
 below:List DFr
 top:DFr
 recs:List (List (Int × Bool))
 out:List Int
 used:Nat
def aE (f:DFr) (v:Int × Bool):DFr:={ f with stack:=f.stack++[v] }
def ay (f:DFr):DFr:={ f with stack:=f.stack.dropLast }
def au (s:List (Int × Bool)):Int × Bool:=s.getLastD (0,false)
structure Mk where
 seen:List Bool
 list:List Nat
def mkV (m:Mk) (v:Int × Bool):Mk:=
 if v.2=true/\0 < v.1/\m.seen.getD (v.1 - 1).toNat true=false then ⟨m.seen.set (v.1 - 1).toNat true,m.list++[(v.1 - 1).toNat]⟩ else m
def mkA (m:Mk) (l:List (Int × Bool)):Mk:=l.foldl mkV m
def mkF (m:Mk) (f:DFr):Mk:=mkA (mkA m f.locals) f.stack
def cL (m:Mk) (l:List DFr):Mk:=l.foldl mkF m
def lvW (recs:List (List (Int × Bool))):Nat->Nat->Mk->Nat->Nat
 | 0,_,_,n=>n
 | k+1,i,m,n=>if i < m.list.length then lvW recs k (i+1) (mkA m (recs.getD (m.list.getD i 0) [])) (n+1+(recs.getD (m.list.getD i 0) []).length) else n
def aB (D:Dn):List DFr:=if D.status=0 \/ D.status=2 then D.below++[D.top] else []
def bB (D:Dn):Nat:=lvW D.recs (D.recs.length+1) 0 (cL ⟨List.replicate D.recs.length false,[]⟩ (aB D)) 0
def bw (op a b:Int):Int:=
 if op=1 then (a+b) % 65536 else if op=2 then (a - b+65536) % 65536 else if op=3 then (a * b) % 65536 else if op=4 then (if a < b then 1 else 0) else 0
def fO (c:Cx) (x:Int × Int × Int) (D:Dn):Dn:=
 if x.1=7 then
  if D.heap < (bB D:Int)+1+((ax c.ls x.2.1).length:Int) then { D with status:=4 }
  else { D with recs:=D.recs++[D.top.stack.drop (D.top.stack.length - (ax c.ls x.2.1).length)],top:={ D.top with stack:=D.top.stack.take (D.top.stack.length - (ax c.ls x.2.1).length)++[((D.recs.length:Int)+1,true)] } }
 else if x.1=8 then
  if (au D.top.stack).1=0 then { D with top:=ay D.top,status:=3 }
  else { D with top:=aE (ay D.top) ((D.recs.getD ((au D.top.stack).1 - 1).toNat []).getD x.2.2.toNat (0,false)) }
 else if x.1=9 then
  if (au D.top.stack.dropLast).1=0 then { D with top:=ay (ay D.top),status:=3 }
  else { D with top:=ay (ay D.top),recs:=D.recs.set ((au D.top.stack.dropLast).1 - 1).toNat ((D.recs.getD ((au D.top.stack.dropLast).1 - 1).toNat []).set x.2.2.toNat (au D.top.stack)) }
 else if x.1=10 then { D with top:=aE D.top (0,true) }
 else if x.1=11 then { D with top:=aE (ay D.top) (if (au D.top.stack).1=0 then 1 else 0,false) }
 else if x.1=12 then { D with top:=aE (ay (ay D.top)) (if (au D.top.stack.dropLast).1=(au D.top.stack).1 then 1 else 0,false) }
 else D
def hH (c:Cx) (g:Int) (D:Dn):Dn:=
 if D.depth<=(D.below.length:Int)+1 then { D with status:=5 }
 else { D with below:=D.below++[{ D.top with stack:=D.top.stack.take (D.top.stack.length - (aQ c.fs g).length) }],
               top:=⟨g,0,D.top.stack.drop (D.top.stack.length - (aQ c.fs g).length)++cB (aq c.fs g).locals (aQ c.fs g).length,[]⟩ }
def da (D:Dn):Dn:=
 if h:D.below=[] then { D with top:=ay D.top,out:=D.out++[(au D.top.stack).1],status:=1 }
 else { D with below:=D.below.dropLast,top:=aE (D.below.getLast h) (au D.top.stack) }
def ao (D:Dn):Dn:={ D with top:={ D.top with pc:=D.top.pc+1 } }
def cy (c:Cx) (inp:List Int) (x:Int × Int × Int) (D:Dn):Dn:=
 if x.1=0 then { D with top:=aE D.top (x.2.1,false) }
 else if x.1=1 \/ x.1=2 \/ x.1=3 \/ x.1=4 then { D with top:=aE (ay (ay D.top)) (bw x.1 (au D.top.stack.dropLast).1 (au D.top.stack).1,false) }
 else if x.1=5 then { D with top:=aE D.top (D.top.locals.getD x.2.1.toNat (0,false)) }
 else if x.1=6 then { D with top:={ ay D.top with locals:=D.top.locals.set x.2.1.toNat (au D.top.stack) } }
 else if x.1=13 then { D with top:={ D.top with pc:=x.2.1 } }
 else if x.1=14 then { D with top:={ ay D.top with pc:=if (au D.top.stack).1=0 then x.2.1 else D.top.pc } }
 else if x.1=15 then hH c x.2.1 D
 else if x.1=16 then da D
 else if x.1=17 then { D with top:=ay D.top,out:=D.out++[(au D.top.stack).1] }
 else if x.1=18 then { D with top:=aE D.top (inp.getD D.used 0 % 65536,false),used:=D.used+1 }
 else fO c x D
def aO (c:Cx) (inp:List Int) (x:Int × Int × Int) (D:Dn):Dn:=cy c inp x (ao D)
def bS (c:Cx) (D:Dn):Int × Int × Int:=aV (aq c.fs D.top.fn) D.top.pc
def d9 (c:Cx) (inp:List Int):Nat->Dn->Dn
 | 0,D=>D
 | n+1,D=>if D.status ≠ 0 then D else if (bS c D).1=18/\inp.length<=D.used then { D with status:=2 } else d9 c inp n (aO c inp (bS c D) D)
def dGo (c:Cx) (inp:List Int) (fuel:Nat) (D:Dn):Dn:=d9 c inp fuel { D with out:=[],used:=0,status:=if D.status=2 then 0 else D.status }
end Go.Proofs.Ytnfnbcbadakofaa
namespace Go.Proofs.Ytnfnbcbadakofaa
open Go.RowKit
structure Rw where
 e:TypeId
 k:Nat
 v:Value
 n:Nat
 xs:List Value
structure Own (base:Nat) (w:World) (L:List Rw):Prop where
 ok:∀ r ∈ L,w.ownsRow base r.e r.k r.v r.n r.xs
 sp:L.Pairwise fun a b=>Sep a.v b.v
def bN (L:List Rw) (j:Nat):Prop:=∃ r ∈ L,r.v.ownBlock=some j
theorem cz {w:World} {base:Nat} {e:TypeId} {k:Nat} {v:Value} {n:Nat} {xs:List Value} (h:w.ownsRow base e k v n xs) {g:Nat} (hg:v.ownBlock=some g):base<=g/\g < w.heap.size:=by
 rcases h.2 with ⟨rfl,_⟩ | ⟨g',cap,cur,rfl,hb,hgg,_⟩
 ·simp [Value.ownBlock] at hg
 ·simp [Value.ownBlock] at hg;subst hg;exact ⟨hb,(Array.getElem?_eq_some_iff.1 hgg).1⟩
section
variable {base:Nat} {w w' w'':World} {L L' L'' A B:List Rw} {r r':Rw}
theorem Own.lt (h:Own base w L) {j:Nat} (hj:bN L j):base<=j/\j < w.heap.size:=by
 obtain ⟨r,hr,q⟩:=hj;exact cz (h.ok r hr) q
theorem Own.off (h:Own base w L) {S:Nat->Prop} (k:Chg S w w') (hS:∀ j,bN L j->¬ S j):Own base w' L:=
 ⟨fun r hr=>af (h.ok r hr) k (fun g hg=>hS g ⟨r,hr,hg⟩),h.sp⟩
theorem Own.new (h:Own base w L) (k:Chg () w w'):Own base w' L:=h.off k (fun _ _ q=>q)
theorem Own.perm (h:Own base w L) (p:L.Perm L'):Own base w L':=
 ⟨fun r hr=>h.ok r (p.mem_iff.2 hr),(p.pairwise_iff (fun hs=>hs.symm)).1 h.sp⟩
theorem Own.sub (h:Own base w L) (p:L'.Sublist L):Own base w L':=⟨fun r hr=>h.ok r (p.subset hr),h.sp.sublist p⟩
theorem cp (p:L.Perm L') {j:Nat}:bN L j ↔ bN L' j:=⟨fun ⟨r,a,b⟩=>⟨r,p.mem_iff.1 a,b⟩,fun ⟨r,a,b⟩=>⟨r,p.mem_iff.2 a,b⟩⟩
theorem Own.upd (h:Own base w (r::B)) {S:Nat->Prop} (k:Chg S w w') (hS:∀ j,S j->¬ bN B j \/ r.v.ownBlock=some j) (hr:w'.ownsRow base r'.e r'.k r'.v r'.n r'.xs) (hl:bD w r.v r'.v):Own base w' (r'::B):=by
 have hsp:=List.pairwise_cons.1 h.sp
 have hlt:∀ b ∈ B,∀ g,b.v.ownBlock=some g->base<=g/\g < w.heap.size:=fun b hb g hg=>cz (h.ok b (by simp [hb])) hg
 refine ⟨fun x hx=>?_,List.pairwise_cons.2 ⟨fun b hb=>?_,hsp.2⟩⟩
 ·rcases List.mem_cons.1 hx with rfl | hx
  ·exact hr
  ·refine af (h.ok x (by simp [hx])) k (fun g hg q=>?_)
   rcases hS g q with z | z
   ·exact z ⟨x,hx,hg⟩
   ·exact hsp.1 x hx g z hg
 ·exact (((hsp.1 b hb).symm).lies hl (fun g hg=>(hlt b hb g hg).2)).symm
theorem Own.add (h:Own base w L) (k:Chg () w w') (hr:w'.ownsRow base r'.e r'.k r'.v r'.n r'.xs) (hn:∀ g,r'.v.ownBlock=some g->w.heap.size<=g):Own base w' (r'::L):=by
 refine ⟨fun x hx=>?_,List.pairwise_cons.2 ⟨fun b hb g h1 h2=>?_,h.sp⟩⟩
 ·rcases List.mem_cons.1 hx with rfl | hx
  ·exact hr
  ·exact af (h.ok x hx) k (fun _ _ q=>q)
 ·have:=cz (h.ok b hb) h2;have:=hn g h1;omega
structure Ev (rb:Nat) (L:List Rw) (w:World) (L':List Rw) (w':World):Prop where
 ch:Chg (fun j=>j=rb \/ bN L j) w w'
 nw:∀ j,bN L' j->bN L j \/ w.heap.size<=j
theorem Ev.refl (rb:Nat) (L:List Rw) (w:World):Ev rb L w L w:=⟨Chg.refl _ _,fun _ h=>.inl h⟩
theorem Ev.trans {rb:Nat} (h:Ev rb L w L' w') (k:Ev rb L' w' L'' w''):Ev rb L w L'' w'':=
 ⟨h.ch.trans' k.ch (fun i hi q=>by
  rcases q with q | q
  ·exact .inl q
  ·rcases h.nw i q with z | z
   ·exact .inr z
   ·omega),fun j hj=>by
  rcases k.nw j hj with q | q
  ·exact h.nw j q
  ·exact .inr (Nat.le_trans h.ch.size q)⟩
theorem Ev.new (rb:Nat) (L:List Rw) (k:Chg () w w'):Ev rb L w L w':=⟨k.mono (fun _ _ q=>q.elim),fun _ h=>.inl h⟩
theorem Ev.drew {rb:Nat} (h:Ev rb L w L' w'):Ev rb L w L' w'.drew:=⟨h.ch.drew,h.nw⟩
theorem Ev.drewN {rb:Nat} (h:Ev rb L w L' w') (n:Nat):Ev rb L w L' (w'.drewN n):=⟨h.ch.drewN n,h.nw⟩
theorem Ev.of_upd {rb:Nat} {S:Nat->Prop} (k:Chg S w w') (hS:∀ j,S j->j=rb \/ r.v.ownBlock=some j) (hl:bD w r.v r'.v):Ev rb (r::B) w (r'::B) w':=
 ⟨k.mono (fun j _ q=>(hS j q).imp id fun z=>⟨r,by simp,z⟩),fun j ⟨x,hx,hj⟩=>by
  rcases List.mem_cons.1 hx with rfl | hx
  ·rcases hl with q | ⟨g,q,hg⟩
   ·exact .inl ⟨r,by simp,by rw [<-q];exact hj⟩
   ·rw [q] at hj;cases hj;exact .inr hg
  ·exact .inl ⟨x,by simp [hx],hj⟩⟩
theorem Ev.of_add {rb:Nat} (k:Chg () w w') (hn:∀ g,r'.v.ownBlock=some g->w.heap.size<=g):Ev rb L w (r'::L) w':=
 ⟨k.mono (fun _ _ q=>q.elim),fun j ⟨x,hx,hj⟩=>by
  rcases List.mem_cons.1 hx with rfl | hx
  ·exact .inr (hn j hj)
  ·exact .inl ⟨x,hx,hj⟩⟩
theorem Ev.perm {rb:Nat} (h:Ev rb L w L' w') {M M':List Rw} (p:L.Perm M) (p':L'.Perm M'):Ev rb M w M' w':=
 ⟨h.ch.mono (fun _ _ q=>q.imp id (cp p).1),fun j hj=>(h.nw j ((cp p').2 hj)).imp (cp p).1 id⟩
theorem Ev.sub {rb:Nat} (h:Ev rb L w L' w') (p:L''.Sublist L'):Ev rb L w L'' w':=⟨h.ch,fun j ⟨r,a,b⟩=>h.nw j ⟨r,p.subset a,b⟩⟩
theorem Ev.blk {rb:Nat} (h:Ev rb L w L' w') {b:Nat} {cs:Array Value} {e:TypeId} (hb:Blk w b cs e) (h1:b ≠ rb) (h2:¬ bN L b):Blk w' b cs e:=hb.chg h.ch (fun q=>q.elim h1 h2)
end
structure DV where
 fv:Value
 rv:Value
 ov:Value
 fs:List (DFr × Value × Value)
 rs:List (List (Int × Bool) × Value)
def vrw (v:Value) (l:List (Int × Bool)):Rw:=⟨162,2,v,l.length,vlC l⟩
def dfC (fs:List (DFr × Value × Value)):List Value:=fs.flatMap fun x=>[.int .i64 x.1.fn,.int .i64 x.1.pc,x.2.1,x.2.2]
def frw (V:DV):Rw:=⟨134,4,V.fv,V.fs.length,dfC V.fs⟩
def rrw (V:DV):Rw:=⟨136,1,V.rv,V.rs.length,V.rs.map (·.2)⟩
def orw (V:DV) (out:List Int):Rw:=⟨3,1,V.ov,out.length,aF out⟩
def fsr (fs:List (DFr × Value × Value)):List Rw:=fs.flatMap fun x=>[vrw x.2.1 x.1.locals,vrw x.2.2 x.1.stack]
def rsr (rs:List (List (Int × Bool) × Value)):List Rw:=rs.map fun x=>vrw x.2 x.1
def aw (V:DV) (out:List Int):List Rw:=frw V::rrw V::orw V out::(fsr V.fs++rsr V.rs)
def dcs (tv fv:Value) (D:Dn) (V:DV):Array Value:=#[tv,fv,.int .i64 D.heap,.int .i64 D.depth,.int .i64 D.status,V.fv,V.rv,V.ov,.int .i64 (D.used:Int)]
structure DI (W1 w:World) (rb:Nat) (tv fv:Value) (D:Dn) (V:DV):Prop where
 ch:Chg () W1 w
 bx:Blk w rb (dcs tv fv D V) 120
 rn:W1.heap.size<=rb
 ow:Own W1.heap.size w (aw V D.out)
 fe:V.fs.map (·.1)=aB D
 re:V.rs.map (·.1)=D.recs
def aH (W1 w:World) (rb:Nat) (tv fv:Value) (V:DV) (out:List Int) (D':Dn) (w':World):Prop:=∃ V',DI W1 w' rb tv fv D' V'/\Ev rb (aw V out) w (aw V' D'.out) w'
theorem py (V:DV) (out:List Int):∀ r ∈ aw V out,r.e ≠ 120:=by
 intro r hr
 simp only [aw,List.mem_cons,List.mem_append,fsr,rsr,List.mem_flatMap,List.mem_map,List.not_mem_nil,or_false] at hr
 rcases hr with rfl | rfl | rfl | ⟨x,_,rfl | rfl⟩ | ⟨x,_,rfl⟩ <;> simp [frw,rrw,orw,vrw]
section
variable {W1 w w':World} {rb:Nat} {tv fv:Value} {D D':Dn} {V V':DV}
theorem DI.nrb (h:DI W1 w rb tv fv D V):¬ bN (aw V D.out) rb:=fun ⟨r,hr,q⟩=>am (h.ow.ok r hr) h.bx (py V D.out r hr) q
theorem DI.new (h:DI W1 w rb tv fv D V) (k:Chg () w w'):DI W1 w' rb tv fv D V:=⟨h.ch.trans k,h.bx.chg k (fun q=>q),h.rn,h.ow.new k,h.fe,h.re⟩
theorem DI.drew (h:DI W1 w rb tv fv D V):DI W1 w.drew rb tv fv D V:=h.new (Chg.refl _ w).drew
theorem DI.drewN (h:DI W1 w rb tv fv D V) (n:Nat):DI W1 (w.drewN n) rb tv fv D V:=h.new ((Chg.refl _ w).drewN n)
theorem DI.ev (h:DI W1 w rb tv fv D V) {L':List Rw} (k:Ev rb (aw V D.out) w L' w'):Chg () W1 w':=
 h.ch.trans' k.ch (fun i hi q=>by
  rcases q with q | q
  ·have:=h.rn;omega
  ·have:=h.ow.lt q;omega)
structure OE (base rb:Nat) (w0:World) (L0:List Rw) (w:World) (L:List Rw):Prop where
 ow:Own base w L
 ev:Ev rb L0 w0 L w
 nb:¬ bN L rb
 lt:rb < w.heap.size
section
variable {base:Nat} {w0:World} {L0 L M B:List Rw} {r r':Rw}
theorem OE.upd (h:OE base rb w0 L0 w (r::B)) {S:Nat->Prop} (k:Chg S w w') (hS:∀ j,S j->j=rb \/ r.v.ownBlock=some j) (hr:w'.ownsRow base r'.e r'.k r'.v r'.n r'.xs) (hl:bD w r.v r'.v):OE base rb w0 L0 w' (r'::B):=by
 refine ⟨h.ow.upd k (fun j q=>(hS j q).imp (fun z ⟨x,hx,hj⟩=>h.nb ⟨x,by simp [hx],by rw [<-z];exact hj⟩) id) hr hl,h.ev.trans (Ev.of_upd k hS hl),?_,Nat.lt_of_lt_of_le h.lt k.size⟩
 rintro ⟨x,hx,hj⟩
 rcases List.mem_cons.1 hx with rfl | hx
 ·rcases hl with q | ⟨g,q,hg⟩
  ·exact h.nb ⟨r,by simp,by rw [<-q];exact hj⟩
  ·rw [q] at hj;cases hj;have:=h.lt;omega
 ·exact h.nb ⟨x,by simp [hx],hj⟩
theorem OE.add (h:OE base rb w0 L0 w L) (k:Chg () w w') (hr:w'.ownsRow base r'.e r'.k r'.v r'.n r'.xs) (hn:∀ g,r'.v.ownBlock=some g->w.heap.size<=g):OE base rb w0 L0 w' (r'::L):=by
 refine ⟨h.ow.add k hr hn,h.ev.trans (Ev.of_add k hn),?_,Nat.lt_of_lt_of_le h.lt k.size⟩
 rintro ⟨x,hx,hj⟩
 rcases List.mem_cons.1 hx with rfl | hx
 ·have:=hn _ hj;have:=h.lt;omega
 ·exact h.nb ⟨x,hx,hj⟩
theorem OE.perm (h:OE base rb w0 L0 w L) (p:L.Perm M):OE base rb w0 L0 w M:=⟨h.ow.perm p,h.ev.perm (.refl _) p,fun q=>h.nb ((cp p).2 q),h.lt⟩
theorem OE.sub (h:OE base rb w0 L0 w L) (p:M.Sublist L):OE base rb w0 L0 w M:=⟨h.ow.sub p,h.ev.sub p,fun ⟨x,hx,hj⟩=>h.nb ⟨x,p.subset hx,hj⟩,h.lt⟩
theorem OE.new (h:OE base rb w0 L0 w L) (k:Chg () w w'):OE base rb w0 L0 w' L:=⟨h.ow.new k,h.ev.trans (Ev.new rb L k),h.nb,Nat.lt_of_lt_of_le h.lt k.size⟩
theorem OE.box (h:OE base rb w0 L0 w L) (k:Chg (fun j=>j=rb) w w'):OE base rb w0 L0 w' L:=
 ⟨h.ow.off k (fun j hj q=>h.nb (by rw [<-q];exact hj)),h.ev.trans ⟨k.mono (fun _ _ q=>.inl q),fun _ q=>.inl q⟩,h.nb,Nat.lt_of_lt_of_le h.lt k.size⟩
end
theorem DI.oe (h:DI W1 w rb tv fv D V):OE W1.heap.size rb w (aw V D.out) w (aw V D.out):=⟨h.ow,Ev.refl _ _ _,h.nrb,h.bx.lt⟩
theorem DI.fin (h:DI W1 w rb tv fv D V) {L:List Rw} (o:OE W1.heap.size rb w (aw V D.out) w' L) (p:L.Perm (aw V' D'.out)) (hb:Blk w' rb (dcs tv fv D' V') 120) (fe:V'.fs.map (·.1)=aB D') (re:V'.rs.map (·.1)=D'.recs):aH W1 w rb tv fv V D.out D' w':=
 ⟨V',⟨h.ev o.ev,hb,h.rn,o.ow.perm p,fe,re⟩,o.ev.perm (.refl _) p⟩
theorem dF (fs:List (DFr × Value × Value)):(dfC fs).length=fs.length * 4:=by
 induction fs with
 | nil=>rfl
 | cons x fs ih=>simp only [dfC,List.flatMap_cons,List.length_append,List.length_cons,List.length_nil] at ih ⊢;omega
theorem dv (fs:List (DFr × Value × Value)) (x:DFr × Value × Value):dfC (fs++[x])=dfC fs++[.int .i64 x.1.fn,.int .i64 x.1.pc,x.2.1,x.2.2]:=by simp [dfC]
theorem lU (l:List (Int × Bool)):(vlC l).length=l.length * 2:=by
 induction l with
 | nil=>rfl
 | cons x l ih=>simp only [vlC,List.flatMap_cons,List.length_append,List.length_cons,List.length_nil] at ih ⊢;omega
theorem DI.top (h:DI W1 w rb tv fv D V) (hs:D.status=0 \/ D.status=2):∃ xs lv kv,V.fs=xs++[(D.top,lv,kv)]/\xs.map (·.1)=D.below:=by
 have e:=h.fe
 unfold aB at e
 rw [if_pos hs] at e
 obtain ⟨xs,y,hxy⟩:∃ xs y,V.fs=xs++[y]:=by
  have hne:V.fs ≠ []:=by intro q;rw [q] at e;simp at e
  exact ⟨V.fs.dropLast,V.fs.getLast hne,(List.dropLast_concat_getLast hne).symm⟩
 rw [hxy,List.map_append,List.map_singleton] at e
 obtain ⟨e1,e2⟩:=List.append_inj' e rfl
 simp only [List.cons.injEq,and_true] at e2
 obtain ⟨a,b,c⟩:=y
 simp only at e2
 subst e2
 exact ⟨xs,b,c,hxy,e1⟩
theorem DI.frs (h:DI W1 w rb tv fv D V) {xs:List (DFr × Value × Value)} {x:DFr × Value × Value} (e:V.fs=xs++[x]):∃ g cap,V.fv=.slice (some ⟨g,0,none⟩) (xs.length+1) cap/\W1.heap.size<=g/\g < w.heap.size/\xs.length+1<=cap/\cap<=maxLen /\
 w.cell? ⟨g,xs.length * 4,none⟩=some (.int .i64 x.1.fn)/\w.cell? ⟨g,xs.length * 4+1,none⟩=some (.int .i64 x.1.pc)/\w.cell? ⟨g,xs.length * 4+2,none⟩=some x.2.1/\w.cell? ⟨g,xs.length * 4+3,none⟩=some x.2.2/\(∀ i,w.frozen? ⟨g,i,none⟩=false)/\∃ cs,Blk w g cs 134:=by
 have ho:w.ownsRow W1.heap.size 134 4 V.fv V.fs.length (dfC V.fs):=h.ow.ok (frw V) (by simp [aw])
 have hl:V.fs.length=xs.length+1:=by rw [e];simp
 have hc:=fun g=>World.ownsRow.cells (g:=g) ho
 have ho':=ho
 rcases ho.2 with ⟨_,h0⟩ | ⟨g,cap,cur,hv,hb,hgg,hle,hcap,_⟩
 ·omega
 ·have hq:∀ i v,[Value.int .i64 x.1.fn,.int .i64 x.1.pc,x.2.1,x.2.2][i]?=some v->w.cell? ⟨g,xs.length * 4+i,none⟩=some v:=fun i v hi=>by
   have hi4:i < 4:=by have:=(List.getElem?_eq_some_iff.1 hi).1;simpa using this
   have:=hc g (by rw [hv];rfl) (xs.length * 4+i) v (by rw [e,dv,List.getElem?_append_right (by rw [dF];omega),dF,show xs.length * 4+i - xs.length * 4=i by omega];exact hi)
   have hadd:(⟨g,0,none⟩:Addr).add (xs.length * 4+i)=⟨g,xs.length * 4+i,none⟩:=by unfold Addr.add;split <;> simp_all
   rwa [hadd] at this
  refine ⟨g,cap,by rw [hv,hl],hb,(Array.getElem?_eq_some_iff.1 hgg).1,by omega,hcap,hq 0 _ rfl,hq 1 _ rfl,hq 2 _ rfl,hq 3 _ rfl,fun i=>Blk.frozen (cs:=cur) (e:=134) hgg i,cur,hgg⟩
end
end Go.Proofs.Ytnfnbcbadakofaa
namespace Go.Proofs.Ytnfnbcbadakofaa
open Go.RowKit
inductive VL (P:Int->Int × Bool->Int->Prop):List Int->List (Int × Bool)->List Int->Prop
 | nil:VL P [] [] []
 | cons {k:Int} {d:Int × Bool} {v:Int} {ks:List Int} {ds:List (Int × Bool)} {vs:List Int}:P k d v->VL P ks ds vs->VL P (k::ks) (d::ds) (v::vs)
theorem VL.len {P:Int->Int × Bool->Int->Prop} {ks:List Int} {ds:List (Int × Bool)} {vs:List Int} (h:VL P ks ds vs):ds.length=ks.length/\vs.length=ks.length:=by
 induction h with
 | nil=>exact ⟨rfl,rfl⟩
 | cons _ _ ih=>simp [ih.1,ih.2]
theorem VL.app {P:Int->Int × Bool->Int->Prop} {a a':List Int} {b b':List (Int × Bool)} {c c':List Int} (h:VL P a b c) (h':VL P a' b' c'):VL P (a++a') (b++b') (c++c'):=by
 induction h with
 | nil=>exact h'
 | cons hp _ ih=>exact .cons hp ih
theorem VL.one {P:Int->Int × Bool->Int->Prop} {k:Int} {d:Int × Bool} {v:Int} (h:P k d v):VL P [k] [d] [v]:=.cons h .nil
theorem VL.mono {P Q:Int->Int × Bool->Int->Prop} (hm:∀ k d v,P k d v->Q k d v) {ks:List Int} {ds:List (Int × Bool)} {vs:List Int} (h:VL P ks ds vs):VL Q ks ds vs:=by
 induction h with
 | nil=>exact .nil
 | cons hp _ ih=>exact .cons (hm _ _ _ hp) ih
theorem VL.split {P:Int->Int × Bool->Int->Prop} {a a':List Int}:∀ {ds:List (Int × Bool)} {vs:List Int},VL P (a++a') ds vs->VL P a (ds.take a.length) (vs.take a.length)/\VL P a' (ds.drop a.length) (vs.drop a.length):=by
 induction a with
 | nil=>intro ds vs h;exact ⟨by simpa using VL.nil,by simpa using h⟩
 | cons x a ih =>
  intro ds vs h
  cases h with
  | cons hp hr=>obtain ⟨h1,h2⟩:=ih hr;exact ⟨by simpa using VL.cons hp h1,by simpa using h2⟩
theorem VL.get {P:Int->Int × Bool->Int->Prop} {ks:List Int} {ds:List (Int × Bool)} {vs:List Int} (h:VL P ks ds vs):∀ {i:Nat},i < ks.length->P (ks.getD i 0) (ds.getD i (0,false)) (vs.getD i 0):=by
 induction h with
 | nil=>intro i hi;simp at hi
 | cons hp _ ih =>
  intro i hi
  cases i with
  | zero=>simpa using hp
  | succ i=>simpa using ih (i:=i) (by simpa using hi)
theorem VL.set {P:Int->Int × Bool->Int->Prop} {ks:List Int} {ds:List (Int × Bool)} {vs:List Int} (h:VL P ks ds vs):∀ {i:Nat} {d:Int × Bool} {v:Int},P (ks.getD i 0) d v->VL P ks (ds.set i d) (vs.set i v):=by
 induction h with
 | nil=>intro i d v _;exact .nil
 | cons hp hr ih =>
  intro i d v h
  cases i with
  | zero=>exact .cons (by simpa using h) hr
  | succ i=>exact .cons hp (ih (by simpa using h))
theorem VL.snoc {P:Int->Int × Bool->Int->Prop} {ks:List Int} {k:Int} {ds:List (Int × Bool)} {vs:List Int} (h:VL P (ks++[k]) ds vs):VL P ks ds.dropLast vs.dropLast/\P k (au ds) (aG vs):=by
 obtain ⟨h1,h2⟩:=h.split
 have hl:=h.len
 simp only [List.length_append,List.length_cons,List.length_nil] at hl
 refine ⟨by rw [List.dropLast_eq_take,List.dropLast_eq_take,hl.1,hl.2];simpa using h1,?_⟩
 generalize hd:ds.drop ks.length=d' at h2
 generalize hv:vs.drop ks.length=v' at h2
 cases h2 with
 | cons hp hr =>
  cases hr
  have e1:ds=ds.take ks.length++ds.drop ks.length:=(List.take_append_drop _ _).symm
  have e2:vs=vs.take ks.length++vs.drop ks.length:=(List.take_append_drop _ _).symm
  rw [hd] at e1;rw [hv] at e2
  rw [e1,e2]
  simpa [au,aG] using hp
def bC (ls:List (List Int)):Nat->List Int->Nat
 | n,[]=>n
 | 0,w::ws=>bC ls (ax ls w).length ws
 | n+1,_::ws=>bC ls n ws
theorem fT (ls:List (List Int)) (ws:List Int):∀ n,(bd ls n ws).length=ws.length:=by
 induction ws with
 | nil=>intro n;cases n <;> rfl
 | cons w ws ih=>intro n;cases n <;> simp [bd,ih]
theorem ie (ls:List (List Int)) (ws vs:List Int):∀ n,bd ls n (ws++vs)=bd ls n ws++bd ls (bC ls n ws) vs:=by
 induction ws with
 | nil=>intro n;cases n <;> simp [bd,bC]
 | cons w ws ih=>intro n;cases n <;> simp [bd,bC,ih]
theorem ir (ls:List (List Int)) (ws vs:List Int):∀ n,bC ls n (ws++vs)=bC ls (bC ls n ws) vs:=by
 induction ws with
 | nil=>intro n;cases n <;> simp [bC]
 | cons w ws ih=>intro n;cases n <;> simp [bC,ih]
theorem fW (ls:List (List Int)) (vs:List Int):∀ n,vs.length<=n->bd ls n vs=List.replicate vs.length none/\bC ls n vs=n - vs.length:=by
 induction vs with
 | nil=>intro n _;cases n <;> simp [bd,bC]
 | cons v vs ih =>
  intro n hn
  cases n with
  | zero=>simp at hn
  | succ n =>
   obtain ⟨a,b⟩:=ih n (by simpa using hn)
   simp only [bd,bC,a,b,List.length_cons,List.replicate_succ,true_and]
   omega
theorem nW {ls:List (List Int)} {ws:List Int} (he:bC ls 0 ws=0) (t:Int) (vs:List Int) (hv:vs.length=(ax ls t).length):bd ls 0 (ws++t::vs)=bd ls 0 ws++some t::List.replicate vs.length none/\bC ls 0 (ws++t::vs)=0:=by
 obtain ⟨a,b⟩:=fW ls vs (ax ls t).length (by omega)
 rw [ie,ir,he]
 simp only [bd,bC,a,b]
 exact ⟨by first | rfl | trivial,by omega⟩
def St (ls:List (List Int)) (ws:List Int) (a:Nat) (t:Int):Prop:=(bd ls 0 ws)[a]?=some (some t)
theorem te {ls:List (List Int)} {ws:List Int}:∀ {n a:Nat} {t:Int},(bd ls n ws)[a]?=some (some t)->bC ls n ws=0->ws[a]?=some t/\a+1+(ax ls t).length<=ws.length/\∀ i,i < (ax ls t).length->(bd ls n ws)[a+1+i]?=some none:=by
 induction ws with
 | nil=>intro n a t h;cases n <;> simp [bd] at h
 | cons w ws ih =>
  intro n a t h he
  cases n with
  | zero =>
   simp only [bd,bC] at h he ⊢
   cases a with
   | zero =>
    simp at h;subst h
    have hk:∀ (m:Nat) (ws:List Int),bC ls m ws=0->m<=ws.length/\∀ i,i < m->(bd ls m ws)[i]?=some none:=by
     intro m
     induction m with
     | zero=>intro ws _;exact ⟨Nat.zero_le _,fun i hi=>by omega⟩
     | succ m ihm =>
      intro ws he
      cases ws with
      | nil=>simp [bC] at he
      | cons w ws =>
       obtain ⟨a,b⟩:=ihm ws (by simpa [bC] using he)
       refine ⟨by simpa using a,fun i hi=>?_⟩
       cases i with
       | zero=>simp [bd]
       | succ i=>simpa [bd] using b i (by omega)
    obtain ⟨a,b⟩:=hk _ _ he
    refine ⟨by simp,by simp;omega,fun i hi=>?_⟩
    have:=b i hi
    rw [show 0+1+i=i+1 by omega]
    simpa using this
   | succ a =>
    obtain ⟨x,y,z⟩:=ih (n:=(ax ls w).length) (a:=a) (t:=t) (by simpa using h) he
    refine ⟨by simpa using x,by simp;omega,fun i hi=>?_⟩
    have:=z i hi
    rw [show a+1+1+i=(a+1+i)+1 by omega]
    simpa using this
  | succ n =>
   simp only [bd,bC] at h he ⊢
   cases a with
   | zero=>simp at h
   | succ a =>
    obtain ⟨x,y,z⟩:=ih (n:=n) (a:=a) (t:=t) (by simpa using h) he
    refine ⟨by simpa using x,by simp;omega,fun i hi=>?_⟩
    have:=z i hi
    rw [show a+1+1+i=(a+1+i)+1 by omega]
    simpa using this
theorem St.val {ls:List (List Int)} {ws:List Int} {a:Nat} {t:Int} (h:St ls ws a t) (he:bC ls 0 ws=0):ws[a]?=some t/\a+1+(ax ls t).length<=ws.length/\∀ i,i < (ax ls t).length->(bd ls 0 ws)[a+1+i]?=some none:=te h he
theorem St.uniq {ls:List (List Int)} {ws:List Int} {a:Nat} {t t':Int} (h:St ls ws a t) (h':St ls ws a t'):t=t':=by
 unfold St at h h';rw [h] at h';simpa using h'
theorem St.apart {ls:List (List Int)} {ws:List Int} {a a':Nat} {t t':Int} (h:St ls ws a t) (h':St ls ws a' t') (he:bC ls 0 ws=0) (hne:a ≠ a') {i j:Nat} (hi:i < (ax ls t).length) (hj:j < (ax ls t').length):a+1+i ≠ a'+1+j/\a+1+i ≠ a':=by
 have z:=(h.val he).2.2
 have z':=(h'.val he).2.2
 refine ⟨fun e=>?_,fun e=>?_⟩
 ·rcases Nat.lt_or_gt_of_ne hne with hl | hl
  ·have:=z (a' - a - 1) (by omega)
   rw [show a+1+(a' - a - 1)=a' by omega] at this
   unfold St at h';rw [h'] at this;simp at this
  ·have:=z' (a - a' - 1) (by omega)
   rw [show a'+1+(a - a' - 1)=a by omega] at this
   unfold St at h;rw [h] at this;simp at this
 ·have:=z i hi
  rw [e] at this
  unfold St at h';rw [h'] at this;simp at this
theorem pw {ls:List (List Int)} {ws:List Int}:∀ {n p:Nat} {v:Int},(bd ls n ws)[p]?=some none->bd ls n (ws.set p v)=bd ls n ws/\bC ls n (ws.set p v)=bC ls n ws:=by
 induction ws with
 | nil=>intro n p v _;exact ⟨rfl,rfl⟩
 | cons w ws ih =>
  intro n p v h
  cases n with
  | zero =>
   cases p with
   | zero=>simp [bd] at h
   | succ p =>
    obtain ⟨a,b⟩:=ih (n:=(ax ls w).length) (p:=p) (v:=v) (by simpa [bd] using h)
    simp [bd,bC,a,b]
  | succ n =>
   cases p with
   | zero=>simp [bd,bC]
   | succ p =>
    obtain ⟨a,b⟩:=ih (n:=n) (p:=p) (v:=v) (by simpa [bd] using h)
    simp [bd,bC,a,b]
end Go.Proofs.Ytnfnbcbadakofaa
namespace Go.Proofs.Ytnfnbcbadakofaa
open Go.RowKit
def VR (ls:List (List Int)) (ws:List Int) (phi:Nat->Option Nat) (kind:Int) (d:Int × Bool) (v:Int):Prop:=
 (kind=0/\d.2=false/\d.1=v/\0<=v/\v < 65536) \/
 (kind ≠ 0/\d.2=true/\((d.1=0/\v=0) \/ ∃ e a:Nat,d.1=(e:Int)+1/\v=(a:Int)+1/\phi e=some a/\St ls ws a kind))
def seg (ws:List Int) (a n:Nat):List Int:=(ws.drop (a+1)).take n
structure Mm (ls:List (List Int)) (recs:List (List (Int × Bool))) (ws:List Int) (phi:Nat->Option Nat):Prop where
 full:bC ls 0 ws=0
 typ:∀ a t,St ls ws a t->1<=t/\t<=(ls.length:Int)
 inj:∀ d d' a,phi d=some a->phi d'=some a->d=d'
 dom:∀ d a,phi d=some a->d < recs.length/\∃ t,St ls ws a t/\VL (VR ls ws phi) (ax ls t) (recs.getD d []) (seg ws a (ax ls t).length)
 sur:∀ a t,St ls ws a t->∃ d,phi d=some a
structure Tp (c:Cx) (P:Int->Int × Bool->Int->Prop) (f:Int) (d:DFr) (g:Fr):Prop where
 fn:g.fn=f
 dfn:d.fn=f
 f0:0<=f
 fl:f < (c.fs.length:Int)
 pc:d.pc=g.pc
 p0:0<=g.pc
 pl:g.pc < ((aq c.fs f).code.length:Int)
 loc:VL P (aq c.fs f).locals d.locals g.locals
 stk:∃ S,spP c.sps f g.pc=some S/\VL P S d.stack g.stack
structure Wt (c:Cx) (P:Int->Int × Bool->Int->Prop) (f h:Int) (d:DFr) (g:Fr):Prop where
 fn:g.fn=f
 dfn:d.fn=f
 f0:0<=f
 fl:f < (c.fs.length:Int)
 pc:d.pc=g.pc+1
 p0:0<=g.pc
 pl:g.pc < ((aq c.fs f).code.length:Int)
 op:(aV (aq c.fs f) g.pc).1=15
 tgt:(aV (aq c.fs f) g.pc).2.1=h
 loc:VL P (aq c.fs f).locals d.locals g.locals
 stk:∃ S,spP c.sps f g.pc=some (S++aQ c.fs h)/\VL P S d.stack g.stack
inductive Bel (c:Cx) (P:Int->Int × Bool->Int->Prop):List DFr->List Fr->Int->Prop
 | nil:Bel c P [] [] 0
 | snoc {ds:List DFr} {gs:List Fr} {f h:Int} {d:DFr} {g:Fr}:Bel c P ds gs f->Wt c P f h d g->Bel c P (ds++[d]) (gs++[g]) h
theorem Bel.len {c:Cx} {P:Int->Int × Bool->Int->Prop} {ds:List DFr} {gs:List Fr} {f:Int} (h:Bel c P ds gs f):ds.length=gs.length:=by
 induction h with
 | nil=>rfl
 | snoc _ _ ih=>simp [ih]
theorem Tp.mono {c:Cx} {P Q:Int->Int × Bool->Int->Prop} (hm:∀ k d v,P k d v->Q k d v) {f:Int} {d:DFr} {g:Fr} (h:Tp c P f d g):Tp c Q f d g:=
 ⟨h.fn,h.dfn,h.f0,h.fl,h.pc,h.p0,h.pl,h.loc.mono hm,let ⟨S,a,b⟩:=h.stk;⟨S,a,b.mono hm⟩⟩
theorem Wt.mono {c:Cx} {P Q:Int->Int × Bool->Int->Prop} (hm:∀ k d v,P k d v->Q k d v) {f e:Int} {d:DFr} {g:Fr} (h:Wt c P f e d g):Wt c Q f e d g:=
 ⟨h.fn,h.dfn,h.f0,h.fl,h.pc,h.p0,h.pl,h.op,h.tgt,h.loc.mono hm,let ⟨S,a,b⟩:=h.stk;⟨S,a,b.mono hm⟩⟩
theorem Bel.mono {c:Cx} {P Q:Int->Int × Bool->Int->Prop} (hm:∀ k d v,P k d v->Q k d v) {ds:List DFr} {gs:List Fr} {f:Int} (h:Bel c P ds gs f):Bel c Q ds gs f:=by
 induction h with
 | nil=>exact .nil
 | snoc _ hw ih=>exact .snoc ih (hw.mono hm)
structure Sm (c:Cx) (D:Dn) (R:Rn) (phi:Nat->Option Nat):Prop where
 h0:0<=R.heap
 h4:R.heap<=4000
 d1:1<=R.depth
 d64:R.depth<=64
 heap:D.heap=R.heap
 depth:D.depth=R.depth
 mem:Mm c.ls D.recs R.words phi
 len:(R.words.length:Int)<=R.heap
 bl:(R.below.length:Int)+1<=R.depth
 fr:∃ f,Bel c (VR c.ls R.words phi) D.below R.below f/\Tp c (VR c.ls R.words phi) f D.top R.top
structure bQ (c:Cx):Prop where
 fit:∀ f i S,spP c.sps f i=some S->(cf c.ls c.fs (aq c.fs f) (aV (aq c.fs f) i).1 (aV (aq c.fs f) i).2.1 (aV (aq c.fs f) i).2.2 S).isSome /\
  ∀ T,cf c.ls c.fs (aq c.fs f) (aV (aq c.fs f) i).1 (aV (aq c.fs f) i).2.1 (aV (aq c.fs f) i).2.2 S=some T->∀ k ∈ bX (aV (aq c.fs f) i).1 (aV (aq c.fs f) i).2.1 i.toNat,0<=k/\k < ((aq c.fs f).code.length:Int)/\spP c.sps f k=some T
 zero:∀ f,0<=f->f < (c.fs.length:Int)->spP c.sps f 0=some []
 s8:∀ f i S,spP c.sps f i=some S->S.length<=8
 pg:dB ⟨c.ls,c.fs⟩
end Go.Proofs.Ytnfnbcbadakofaa
namespace Go.Proofs.Ytnfnbcbadakofaa
open Go.RowKit
theorem fV {ls:List (List Int)} {fs:List Fn} {f:Fn} {op A B:Int} {S T:List Int} (h:cf ls fs f op A B S=some T):∃ rest,S=rest++ak ls fs f op A B/\T=rest++ag ls fs f op A B/\T.length<=8/\(op=16->rest=[]):=by
 unfold cf at h
 by_cases h1:S.length < (ak ls fs f op A B).length \/ (op=16/\(ak ls fs f op A B).length < S.length)
 ·rw [if_pos h1] at h;cases h
 rw [if_neg h1] at h
 by_cases h2:(S.drop (S.length - (ak ls fs f op A B).length) == ak ls fs f op A B)=false
 ·rw [if_pos h2] at h;cases h
 rw [if_neg h2] at h
 by_cases h3:8 < (S.take (S.length - (ak ls fs f op A B).length)++ag ls fs f op A B).length
 ·rw [if_pos h3] at h;cases h
 rw [if_neg h3] at h
 simp only [Option.some.injEq] at h
 have e:S.drop (S.length - (ak ls fs f op A B).length)=ak ls fs f op A B:=by
  have:(S.drop (S.length - (ak ls fs f op A B).length) == ak ls fs f op A B)=true:=by
   cases hb:(S.drop (S.length - (ak ls fs f op A B).length) == ak ls fs f op A B)
   ·exact absurd hb h2
   ·rfl
  exact eq_of_beq this
 refine ⟨S.take (S.length - (ak ls fs f op A B).length),?_,h.symm,by rw [<-h];omega,fun ho=>?_⟩
 ·conv=>lhs;rw [<-List.take_append_drop (S.length - (ak ls fs f op A B).length) S,e]
 ·have:S.length<=(ak ls fs f op A B).length:=by
   rcases Nat.lt_or_ge (ak ls fs f op A B).length S.length with hl | hl
   ·exact absurd (Or.inr ⟨ho,hl⟩) h1
   ·exact hl
  rw [show S.length - (ak ls fs f op A B).length=0 by omega];rfl
theorem cx {c:Cx} (ok:bQ c) {f:Int} (h0:0<=f) (hl:f < (c.fs.length:Int)):mg c.ls c.fs.length (f.toNat == 0) (aq c.fs f):=by
 have hj:f.toNat < c.fs.length:=by omega
 have:=ok.pg.fs f.toNat hj
 unfold aq
 rw [dif_pos ⟨h0,hj⟩]
 exact this
theorem ki {f:Fn} {i:Int} (h0:0<=i) (hl:i < (f.code.length:Int)):aV f i ∈ f.code:=by
 unfold aV
 rw [if_neg (by omega),List.getD_eq_getElem?_getD,List.getElem?_eq_getElem (by omega)]
 exact List.getElem_mem _
structure Cu (c:Cx) (D:Dn) (R:Rn) (phi:Nat->Option Nat) (f:Int) (x:Int × Int × Int) (rest:List Int):Prop where
 sm:Sm c D R phi
 bel:Bel c (VR c.ls R.words phi) D.below R.below f
 tp:Tp c (VR c.ls R.words phi) f D.top R.top
 fok:mg c.ls c.fs.length (f.toNat == 0) (aq c.fs f)
 ins:aV (aq c.fs f) R.top.pc=x
 iok:cJ c.ls c.fs.length (aq c.fs f).locals.length (aq c.fs f).code.length x
 spt:spP c.sps f R.top.pc=some (rest++ak c.ls c.fs (aq c.fs f) x.1 x.2.1 x.2.2)
 stk:VL (VR c.ls R.words phi) (rest++ak c.ls c.fs (aq c.fs f) x.1 x.2.1 x.2.2) D.top.stack R.top.stack
 way:∀ k ∈ bX x.1 x.2.1 R.top.pc.toNat,0<=k/\k < ((aq c.fs f).code.length:Int)/\spP c.sps f k=some (rest++ag c.ls c.fs (aq c.fs f) x.1 x.2.1 x.2.2)
 ret:x.1=16->rest=[]
theorem Sm.cu {c:Cx} (ok:bQ c) {D:Dn} {R:Rn} {phi:Nat->Option Nat} (h:Sm c D R phi):∃ f x rest,Cu c D R phi f x rest/\eB c R=x/\bS c D=x:=by
 obtain ⟨f,hb,ht⟩:=h.fr
 obtain ⟨S,hS,hV⟩:=ht.stk
 have fk:=cx ok ht.f0 ht.fl
 obtain ⟨h1,h2⟩:=ok.fit _ _ _ hS
 obtain ⟨T,hT⟩:=Option.isSome_iff_exists.1 h1
 obtain ⟨rest,e1,e2,_,e4⟩:=fV hT
 have h3:=h2 T hT
 refine ⟨f,aV (aq c.fs f) R.top.pc,rest,⟨h,hb,ht,fk,rfl,fk.ok _ (ki ht.p0 ht.pl),?_,?_,?_,e4⟩,?_,?_⟩
 ·rw [hS,e1]
 ·rw [<-e1];exact hV
 ·intro k hk;have:=h3 k hk;rw [e2] at this;exact this
 ·unfold eB;rw [ht.fn]
 ·unfold bS;rw [ht.dfn,ht.pc]
structure Nx (c:Cx) (D:Dn) (R:Rn) (D':Dn) (R':Rn):Prop where
 st:D'.status=R'.status
 out:D'.out=R'.out
 used:D'.used=R'.used
 inp:R'.inp=R.inp
 hp:R'.heap=R.heap/\R'.depth=R.depth/\D'.heap=D.heap/\D'.depth=D.depth
 go:R'.status=0->∃ phi',Sm c D' R' phi'
 ends:R'.status=0 \/ R'.status=1 \/ R'.status=3 \/ R'.status=4 \/ R'.status=5
theorem Sm.same {c:Cx} {D:Dn} {R:Rn} {phi:Nat->Option Nat} (h:Sm c D R phi) {D':Dn} {R':Rn} (hh:R'.heap=R.heap/\R'.depth=R.depth/\D'.heap=D.heap/\D'.depth=D.depth) (hw:R'.words=R.words) (hr:D'.recs=D.recs)
 (hbl:(R'.below.length:Int)+1<=R.depth) (hf:∃ f,Bel c (VR c.ls R.words phi) D'.below R'.below f/\Tp c (VR c.ls R.words phi) f D'.top R'.top):Sm c D' R' phi:=by
 obtain ⟨e1,e2,e3,e4⟩:=hh
 refine ⟨by rw [e1];exact h.h0,by rw [e1];exact h.h4,by rw [e2];exact h.d1,by rw [e2];exact h.d64,by rw [e3,e1];exact h.heap,by rw [e4,e2];exact h.depth,by rw [hr,hw];exact h.mem,by rw [hw,e1];exact h.len,by rw [e2];exact hbl,by rw [hw];exact hf⟩
theorem Cu.top {c:Cx} {D:Dn} {R:Rn} {phi:Nat->Option Nat} {f:Int} {x:Int × Int × Int} {rest:List Int} (h:Cu c D R phi f x rest) {D':Dn} {R':Rn} (hst:D'.status=0) (hst':R'.status=0) (ho:D'.out=R'.out) (hu:D'.used=R'.used) (hi:R'.inp=R.inp)
 (hh:R'.heap=R.heap/\R'.depth=R.depth/\D'.heap=D.heap/\D'.depth=D.depth) (hw:R'.words=R.words) (hr:D'.recs=D.recs) (hb:R'.below=R.below) (hb':D'.below=D.below)
 (fn:R'.top.fn=R.top.fn) (dfn:D'.top.fn=D.top.fn) (pc:D'.top.pc=R'.top.pc) (wy:R'.top.pc ∈ bX x.1 x.2.1 R.top.pc.toNat)
 (loc:VL (VR c.ls R.words phi) (aq c.fs f).locals D'.top.locals R'.top.locals) (stk:VL (VR c.ls R.words phi) (rest++ag c.ls c.fs (aq c.fs f) x.1 x.2.1 x.2.2) D'.top.stack R'.top.stack):Nx c D R D' R':=by
 obtain ⟨w1,w2,w3⟩:=h.way _ wy
 refine ⟨by rw [hst,hst'],ho,hu,hi,hh,fun _=>⟨phi,h.sm.same hh hw hr (by rw [hb];exact h.sm.bl) ⟨f,by rw [hb,hb'];exact h.bel,?_⟩⟩,.inl hst'⟩
 exact ⟨by rw [fn];exact h.tp.fn,by rw [dfn];exact h.tp.dfn,h.tp.f0,h.tp.fl,pc,w1,w2,loc,_,w3,stk⟩
theorem dX {ls:List (List Int)} {ws:List Int} {phi:Nat->Option Nat} {n:Int} (h0:0<=n) (h1:n < 65536):VR ls ws phi 0 (n,false) n:=.inl ⟨rfl,rfl,rfl,h0,h1⟩
theorem lj {ls:List (List Int)} {ws:List Int} {phi:Nat->Option Nat} {k:Int} (h:k ≠ 0):VR ls ws phi k (0,true) 0:=.inr ⟨h,rfl,.inl ⟨rfl,rfl⟩⟩
theorem VR.num {ls:List (List Int)} {ws:List Int} {phi:Nat->Option Nat} {d:Int × Bool} {v:Int} (h:VR ls ws phi 0 d v):d=(v,false)/\0<=v/\v < 65536:=by
 rcases h with ⟨_,a,b,e,f⟩ | ⟨a,_⟩
 ·exact ⟨by ext <;> simp [a,b],e,f⟩
 ·exact absurd rfl a
theorem VR.ref {ls:List (List Int)} {ws:List Int} {phi:Nat->Option Nat} {k:Int} {d:Int × Bool} {v:Int} (h:VR ls ws phi k d v) (hk:k ≠ 0):d.2=true/\((d.1=0/\v=0) \/ ∃ e a:Nat,d.1=(e:Int)+1/\v=(a:Int)+1/\phi e=some a/\St ls ws a k):=by
 rcases h with ⟨a,_⟩ | ⟨_,b,e⟩
 ·exact absurd a hk
 ·exact ⟨b,e⟩
theorem VR.zero {ls:List (List Int)} {ws:List Int} {phi:Nat->Option Nat} {k:Int} {d:Int × Bool} {v:Int} (h:VR ls ws phi k d v):d.1=0 ↔ v=0:=by
 rcases h with ⟨_,_,b,_⟩ | ⟨_,_,⟨a,b⟩ | ⟨e,a,b,d,_⟩⟩
 ·rw [b]
 ·rw [a,b]
 ·omega
theorem VR.same {ls:List (List Int)} {recs:List (List (Int × Bool))} {ws:List Int} {phi:Nat->Option Nat} (hm:Mm ls recs ws phi) {k:Int} {d d':Int × Bool} {v v':Int} (h:VR ls ws phi k d v) (h':VR ls ws phi k d' v'):d.1=d'.1 ↔ v=v':=by
 rcases h with ⟨k0,_,b,_⟩ | ⟨k0,_,h⟩
 ·rcases h' with ⟨_,_,b',_⟩ | ⟨k1,_⟩
  ·rw [b,b']
  ·exact absurd k0 k1
 ·rcases h' with ⟨k1,_⟩ | ⟨_,_,h'⟩
  ·exact absurd k1 k0
  ·rcases h with ⟨a,b⟩ | ⟨e,a,b,dd,p,s⟩ <;> rcases h' with ⟨a',b'⟩ | ⟨e',a',b',dd',p',s'⟩
   ·rw [a,b,a',b']
   ·omega
   ·omega
   ·constructor
    ·intro hh
     have:e=e':=by omega
     subst this
     rw [p] at p';simp at p';omega
    ·intro hh
     have:a=a':=by omega
     subst this
     have:=hm.inj _ _ _ p p'
     omega
theorem eM {op A:Int} {i:Nat} (h1:op ≠ 13) (h2:op ≠ 16):(i:Int)+1 ∈ bX op A i:=by
 unfold bX
 rw [if_neg h1]
 by_cases h:op=14
 ·rw [if_pos h];simp
 ·rw [if_neg h,if_neg h2];simp
theorem cR {l:List Int} {k:Int} (h0:0<=k) (h1:k < (l.length:Int)):aW l k=l.getD k.toNat 0:=by
 unfold aW;rw [if_neg (by omega)]
end Go.Proofs.Ytnfnbcbadakofaa
namespace Go.Proofs.Ytnfnbcbadakofaa
open Go.RowKit
section
variable {c:Cx} {D:Dn} {R:Rn} {phi:Nat->Option Nat} {f:Int} {op A B:Int} {rest:List Int}
theorem Cu.pc (h:Cu c D R phi f (op,A,B) rest):((R.top.pc.toNat:Nat):Int)=R.top.pc:=by have:=h.tp.p0;omega
theorem Cu.next (h:Cu c D R phi f (op,A,B) rest) (h13:op ≠ 13) (h16:op ≠ 16) {D':Dn} {R':Rn} (hst:D'.status=0) (hst':R'.status=0) (ho:D'.out=R'.out) (hu:D'.used=R'.used) (hi:R'.inp=R.inp)
 (hh:R'.heap=R.heap/\R'.depth=R.depth/\D'.heap=D.heap/\D'.depth=D.depth) (hw:R'.words=R.words) (hr:D'.recs=D.recs) (hb:R'.below=R.below) (hb':D'.below=D.below)
 (fn:R'.top.fn=R.top.fn) (dfn:D'.top.fn=D.top.fn) (pc:R'.top.pc=R.top.pc+1) (dpc:D'.top.pc=D.top.pc+1)
 (loc:VL (VR c.ls R.words phi) (aq c.fs f).locals D'.top.locals R'.top.locals) (stk:VL (VR c.ls R.words phi) (rest++ag c.ls c.fs (aq c.fs f) op A B) D'.top.stack R'.top.stack):Nx c D R D' R':=by
 refine h.top hst hst' ho hu hi hh hw hr hb hb' fn dfn (by rw [pc,dpc,h.tp.pc]) ?_ loc stk
 have:=eM (A:=A) (i:=R.top.pc.toNat) h13 h16
 rw [h.pc] at this;rw [pc];exact this
theorem mw (h:Cu c D R phi f (0,A,B) rest) (s0:D.status=0) (s0':R.status=0) (ho:D.out=R.out) (hu:D.used=R.used):Nx c D R (aO c R.inp (0,A,B) D) (doP c (0,A,B) R):=by
 have hi:=h.iok
 have e:ak c.ls c.fs (aq c.fs f) 0 A B=[]:=by simp [ak]
 have hs:=h.stk
 simp only [e,List.append_nil] at hs
 simp only [cJ,bA] at hi
 refine h.next (by decide) (by decide) s0 s0' ho hu rfl ⟨rfl,rfl,rfl,rfl⟩ rfl rfl rfl rfl rfl rfl rfl rfl h.tp.loc ?_
 have:ag c.ls c.fs (aq c.fs f) 0 A B=[0]:=by simp [ag]
 rw [this]
 have hA:A<=255:=by have:=hi.2.1.2;simpa using this
 have hA0:0<=A:=by have:=hi.2.1.1;simpa using this
 exact hs.app (.one (dX (n:=A) hA0 (by omega)))
theorem sN {op a b:Int} (ho:op=1 \/ op=2 \/ op=3 \/ op=4):bw op a b=dC op a b/\0<=dC op a b/\dC op a b < 65536:=by
 rcases ho with rfl | rfl | rfl | rfl <;> simp only [bw,dC] <;> simp <;> first | done | omega | (split <;> omega)
theorem fR (h:Cu c D R phi f (op,A,B) rest) (hop:op=1 \/ op=2 \/ op=3 \/ op=4) (s0:D.status=0) (s0':R.status=0) (ho:D.out=R.out) (hu:D.used=R.used):Nx c D R (aO c R.inp (op,A,B) D) (doP c (op,A,B) R):=by
 have e:ak c.ls c.fs (aq c.fs f) op A B=[0]++[0]:=by simp [ak,hop]
 have hs:=h.stk
 simp only [e] at hs
 rw [<-List.append_assoc] at hs
 obtain ⟨h1,v1⟩:=hs.snoc
 obtain ⟨h2,v2⟩:=h1.snoc
 obtain ⟨x1,y1,z1⟩:=v1.num
 obtain ⟨x2,y2,z2⟩:=v2.num
 have hq:=sN (op:=op) (a:=aG R.top.stack.dropLast) (b:=aG R.top.stack) hop
 have ed:aO c R.inp (op,A,B) D = { ao D with top:=aE (ay (ay (ao D).top)) (bw op (au (ao D).top.stack.dropLast).1 (au (ao D).top.stack).1,false) }:=by
  unfold aO cy;simp only;rw [if_neg (by rcases hop with h | h | h | h <;> omega),if_pos hop]
 have er:doP c (op,A,B) R=gH { R with top:=cH (aT (aT R.top)) (dC op (aG R.top.stack.dropLast) (aG R.top.stack)) }:=by
  unfold doP uvP;simp only
  rw [if_neg (by rcases hop with h | h | h | h <;> omega),if_neg (by rcases hop with h | h | h | h <;> omega),if_neg (by rcases hop with h | h | h | h <;> omega),if_neg (by rcases hop with h | h | h | h <;> omega),if_neg (by rcases hop with h | h | h | h <;> omega),
   if_neg (by rcases hop with h | h | h | h <;> omega),if_pos (by rcases hop with h | h | h | h <;> simp [h])]
 rw [ed,er]
 refine h.next (by rcases hop with h | h | h | h <;> omega) (by rcases hop with h | h | h | h <;> omega) s0 s0' ho hu rfl ⟨rfl,rfl,rfl,rfl⟩ rfl rfl rfl rfl rfl rfl rfl rfl h.tp.loc ?_
 have:ag c.ls c.fs (aq c.fs f) op A B=[0]:=by rcases hop with rfl | rfl | rfl | rfl <;> simp [ag]
 rw [this]
 refine VL.app h2 (.one ?_)
 show VR c.ls R.words phi 0 (bw op (au D.top.stack.dropLast).1 (au D.top.stack).1,false) (dC op (aG R.top.stack.dropLast) (aG R.top.stack))
 rw [x1,x2]
 simp only
 rw [hq.1]
 exact dX hq.2.1 hq.2.2
theorem mB (h:Cu c D R phi f (5,A,B) rest) (s0:D.status=0) (s0':R.status=0) (ho:D.out=R.out) (hu:D.used=R.used):Nx c D R (aO c R.inp (5,A,B) D) (doP c (5,A,B) R):=by
 have hi:=h.iok
 have e:ak c.ls c.fs (aq c.fs f) 5 A B=[]:=by simp [ak]
 have hs:=h.stk
 simp only [e,List.append_nil] at hs
 simp only [cJ,bA] at hi
 have hA0:0<=A:=hi.2.1.1
 have hA1:A < ((aq c.fs f).locals.length:Int):=by have:=hi.2.1.2;simp at this;omega
 refine h.next (by decide) (by decide) s0 s0' ho hu rfl ⟨rfl,rfl,rfl,rfl⟩ rfl rfl rfl rfl rfl rfl rfl rfl h.tp.loc ?_
 have:ag c.ls c.fs (aq c.fs f) 5 A B=[aW (aq c.fs f).locals A]:=by simp [ag]
 rw [this]
 refine VL.app hs (.one ?_)
 have hl:=h.tp.loc.len
 have:=h.tp.loc.get (i:=A.toNat) (by omega)
 rw [cR hA0 hA1]
 show VR c.ls R.words phi _ (D.top.locals.getD A.toNat (0,false)) (aW R.top.locals A)
 rw [cR hA0 (by rw [hl.2];exact hA1)]
 exact this
theorem kJ (h:Cu c D R phi f (6,A,B) rest) (s0:D.status=0) (s0':R.status=0) (ho:D.out=R.out) (hu:D.used=R.used):Nx c D R (aO c R.inp (6,A,B) D) (doP c (6,A,B) R):=by
 have hi:=h.iok
 have e:ak c.ls c.fs (aq c.fs f) 6 A B=[aW (aq c.fs f).locals A]:=by simp [ak]
 have hs:=h.stk
 simp only [e] at hs
 simp only [cJ,bA] at hi
 have hA0:0<=A:=hi.2.1.1
 have hA1:A < ((aq c.fs f).locals.length:Int):=by have:=hi.2.1.2;simp at this;omega
 have hl:=h.tp.loc.len
 obtain ⟨h1,v1⟩:=hs.snoc
 rw [cR hA0 hA1] at v1
 refine h.next (by decide) (by decide) s0 s0' ho hu rfl ⟨rfl,rfl,rfl,rfl⟩ rfl rfl rfl rfl rfl rfl rfl rfl ?_ ?_
 ·show VL _ _ (D.top.locals.set A.toNat (au D.top.stack)) (if 0<=A/\A < (R.top.locals.length:Int) then R.top.locals.set A.toNat (aG R.top.stack) else R.top.locals)
  rw [if_pos ⟨hA0,by rw [hl.2];exact hA1⟩]
  exact h.tp.loc.set v1
 ·have:ag c.ls c.fs (aq c.fs f) 6 A B=[]:=by simp [ag]
  rw [this,List.append_nil]
  exact h1
theorem mC (h:Cu c D R phi f (10,A,B) rest) (s0:D.status=0) (s0':R.status=0) (ho:D.out=R.out) (hu:D.used=R.used):Nx c D R (aO c R.inp (10,A,B) D) (doP c (10,A,B) R):=by
 have hi:=h.iok
 have e:ak c.ls c.fs (aq c.fs f) 10 A B=[]:=by simp [ak]
 have hs:=h.stk
 simp only [e,List.append_nil] at hs
 simp only [cJ,bA] at hi
 refine h.next (by decide) (by decide) s0 s0' ho hu rfl ⟨rfl,rfl,rfl,rfl⟩ rfl rfl rfl rfl rfl rfl rfl rfl h.tp.loc ?_
 have:ag c.ls c.fs (aq c.fs f) 10 A B=[A]:=by simp [ag]
 rw [this]
 exact hs.app (.one (lj (by have:=hi.2.1.1;simp at this;omega)))
theorem qW (h:Cu c D R phi f (11,A,B) rest) (s0:D.status=0) (s0':R.status=0) (ho:D.out=R.out) (hu:D.used=R.used):Nx c D R (aO c R.inp (11,A,B) D) (doP c (11,A,B) R):=by
 have e:ak c.ls c.fs (aq c.fs f) 11 A B=[A]:=by simp [ak]
 have hs:=h.stk
 simp only [e] at hs
 obtain ⟨h1,v1⟩:=hs.snoc
 refine h.next (by decide) (by decide) s0 s0' ho hu rfl ⟨rfl,rfl,rfl,rfl⟩ rfl rfl rfl rfl rfl rfl rfl rfl h.tp.loc ?_
 have:ag c.ls c.fs (aq c.fs f) 11 A B=[0]:=by simp [ag]
 rw [this]
 refine VL.app h1 (.one ?_)
 show VR c.ls R.words phi 0 (if (au D.top.stack).1=0 then 1 else 0,false) (if aG R.top.stack=0 then 1 else 0)
 have hz:=v1.zero
 by_cases hv:aG R.top.stack=0
 ·rw [if_pos hv,if_pos (hz.2 hv)];exact dX (by decide) (by decide)
 ·rw [if_neg hv,if_neg (fun e=>hv (hz.1 e))];exact dX (by decide) (by decide)
theorem m9 (h:Cu c D R phi f (12,A,B) rest) (s0:D.status=0) (s0':R.status=0) (ho:D.out=R.out) (hu:D.used=R.used):Nx c D R (aO c R.inp (12,A,B) D) (doP c (12,A,B) R):=by
 have e:ak c.ls c.fs (aq c.fs f) 12 A B=[A]++[A]:=by simp [ak]
 have hs:=h.stk
 simp only [e] at hs
 rw [<-List.append_assoc] at hs
 obtain ⟨h1,v1⟩:=hs.snoc
 obtain ⟨h2,v2⟩:=h1.snoc
 refine h.next (by decide) (by decide) s0 s0' ho hu rfl ⟨rfl,rfl,rfl,rfl⟩ rfl rfl rfl rfl rfl rfl rfl rfl h.tp.loc ?_
 have:ag c.ls c.fs (aq c.fs f) 12 A B=[0]:=by simp [ag]
 rw [this]
 refine VL.app h2 (.one ?_)
 show VR c.ls R.words phi 0 (if (au D.top.stack.dropLast).1=(au D.top.stack).1 then 1 else 0,false) (dC 12 (aG R.top.stack.dropLast) (aG R.top.stack))
 have er:dC 12 (aG R.top.stack.dropLast) (aG R.top.stack)=if aG R.top.stack.dropLast=aG R.top.stack then 1 else 0:=by unfold dC;simp
 rw [er]
 have hz:=v2.same h.sm.mem v1
 by_cases hv:aG R.top.stack.dropLast=aG R.top.stack
 ·rw [if_pos hv,if_pos (hz.2 hv)];exact dX (by decide) (by decide)
 ·rw [if_neg hv,if_neg (fun e=>hv (hz.1 e))];exact dX (by decide) (by decide)
theorem kt (h:Cu c D R phi f (17,A,B) rest) (s0:D.status=0) (s0':R.status=0) (ho:D.out=R.out) (hu:D.used=R.used):Nx c D R (aO c R.inp (17,A,B) D) (doP c (17,A,B) R):=by
 have e:ak c.ls c.fs (aq c.fs f) 17 A B=[0]:=by simp [ak]
 have hs:=h.stk
 simp only [e] at hs
 obtain ⟨h1,v1⟩:=hs.snoc
 obtain ⟨x1,y1,z1⟩:=v1.num
 refine h.next (by decide) (by decide) s0 s0' ?_ hu rfl ⟨rfl,rfl,rfl,rfl⟩ rfl rfl rfl rfl rfl rfl rfl rfl h.tp.loc ?_
 ·show D.out++[(au D.top.stack).1]=R.out++[aG R.top.stack]
  rw [x1,ho]
 ·have:ag c.ls c.fs (aq c.fs f) 17 A B=[]:=by simp [ag]
  rw [this,List.append_nil]
  exact h1
theorem np (h:Cu c D R phi f (18,A,B) rest) (s0:D.status=0) (s0':R.status=0) (ho:D.out=R.out) (hu:D.used=R.used):Nx c D R (aO c R.inp (18,A,B) D) (doP c (18,A,B) R):=by
 have e:ak c.ls c.fs (aq c.fs f) 18 A B=[]:=by simp [ak]
 have hs:=h.stk
 simp only [e,List.append_nil] at hs
 refine h.next (by decide) (by decide) s0 s0' ho (by show D.used+1=R.used+1;rw [hu]) rfl ⟨rfl,rfl,rfl,rfl⟩ rfl rfl rfl rfl rfl rfl rfl rfl h.tp.loc ?_
 have:ag c.ls c.fs (aq c.fs f) 18 A B=[0]:=by simp [ag]
 rw [this]
 refine VL.app hs (.one ?_)
 show VR c.ls R.words phi 0 (R.inp.getD D.used 0 % 65536,false) (R.inp.getD R.used 0 % 65536)
 rw [hu]
 exact dX (Int.emod_nonneg _ (by decide)) (Int.emod_lt_of_pos _ (by decide))
theorem mn (h:Cu c D R phi f (13,A,B) rest) (s0:D.status=0) (s0':R.status=0) (ho:D.out=R.out) (hu:D.used=R.used):Nx c D R (aO c R.inp (13,A,B) D) (doP c (13,A,B) R):=by
 have e:ak c.ls c.fs (aq c.fs f) 13 A B=[]:=by simp [ak]
 have hs:=h.stk
 simp only [e,List.append_nil] at hs
 refine h.top s0 s0' ho hu rfl ⟨rfl,rfl,rfl,rfl⟩ rfl rfl rfl rfl rfl rfl rfl ?_ h.tp.loc ?_
 ·show A ∈ bX 13 A R.top.pc.toNat
  simp [bX]
 ·have:ag c.ls c.fs (aq c.fs f) 13 A B=[]:=by simp [ag]
  rw [this,List.append_nil]
  exact hs
theorem mP (h:Cu c D R phi f (14,A,B) rest) (s0:D.status=0) (s0':R.status=0) (ho:D.out=R.out) (hu:D.used=R.used):Nx c D R (aO c R.inp (14,A,B) D) (doP c (14,A,B) R):=by
 have e:ak c.ls c.fs (aq c.fs f) 14 A B=[0]:=by simp [ak]
 have hs:=h.stk
 simp only [e] at hs
 obtain ⟨h1,v1⟩:=hs.snoc
 obtain ⟨x1,y1,z1⟩:=v1.num
 refine h.top s0 s0' ho hu rfl ⟨rfl,rfl,rfl,rfl⟩ rfl rfl rfl rfl rfl rfl ?_ ?_ h.tp.loc ?_
 ·show (if (au D.top.stack).1=0 then A else D.top.pc+1)=if aG R.top.stack=0 then A else R.top.pc+1
  rw [x1,h.tp.pc]
 ·show (if aG R.top.stack=0 then A else R.top.pc+1) ∈ bX 14 A R.top.pc.toNat
  have hp:=h.pc
  unfold bX
  rw [if_neg (by decide),if_pos rfl,hp]
  split <;> simp
 ·have:ag c.ls c.fs (aq c.fs f) 14 A B=[]:=by simp [ag]
  rw [this,List.append_nil]
  exact h1
end
end Go.Proofs.Ytnfnbcbadakofaa
namespace Go.Proofs.Ytnfnbcbadakofaa
open Go.RowKit
theorem gP {ws:List Int} {a n i:Nat} (h:i < n):(seg ws a n).getD i 0=ws.getD (a+1+i) 0:=by
 unfold seg
 rw [List.getD_eq_getElem?_getD,List.getD_eq_getElem?_getD,List.getElem?_take_of_lt h,List.getElem?_drop]
theorem rD {ws:List Int} {a n i:Nat} {v:Int} (_h:i < n):seg (ws.set (a+1+i) v) a n=(seg ws a n).set i v:=by
 unfold seg
 rw [List.drop_set]
 rw [if_neg (by omega),show a+1+i - (a+1)=i by omega]
 rw [List.take_set]
theorem qS {ws:List Int} {a n p:Nat} {v:Int} (h:∀ i,i < n->p ≠ a+1+i):seg (ws.set p v) a n=seg ws a n:=by
 apply List.ext_getElem?
 intro i
 unfold seg
 by_cases hi:i < n
 ·rw [List.getElem?_take_of_lt hi,List.getElem?_take_of_lt hi,List.getElem?_drop,List.getElem?_drop,List.getElem?_set_ne (h i hi)]
 ·rw [List.getElem?_take_eq_none (by omega),List.getElem?_take_eq_none (by omega)]
theorem fp {ls:List (List Int)} {A:Int} (h:0 < (ax ls A).length):1<=A:=by
 unfold ax at h
 split at h
 ·simp at h
 ·omega
theorem Mm.vr_mono {ls:List (List Int)} {ws ws':List Int} {phi phi':Nat->Option Nat} (hs:∀ a t,St ls ws a t->St ls ws' a t) (hp:∀ d a,phi d=some a->phi' d=some a):∀ k d v,VR ls ws phi k d v->VR ls ws' phi' k d v:=by
 intro k d v h
 rcases h with h | ⟨a,b,h | ⟨e,q,x,y,z,s⟩⟩
 ·exact .inl h
 ·exact .inr ⟨a,b,.inl h⟩
 ·exact .inr ⟨a,b,.inr ⟨e,q,x,y,hp _ _ z,hs _ _ s⟩⟩
theorem Mm.set {ls:List (List Int)} {recs:List (List (Int × Bool))} {ws:List Int} {phi:Nat->Option Nat} (hm:Mm ls recs ws phi) {e a i:Nat} {t:Int} (hp:phi e=some a) (hs:St ls ws a t) (hi:i < (ax ls t).length) {d:Int × Bool} {v:Int} (hv:VR ls ws phi ((ax ls t).getD i 0) d v) :
 Mm ls (recs.set e ((recs.getD e []).set i d)) (ws.set (a+1+i) v) phi/\∀ k d' v',VR ls ws phi k d' v'->VR ls (ws.set (a+1+i) v) phi k d' v':=by
 obtain ⟨r1,r2⟩:=pw (v:=v) ((hs.val hm.full).2.2 i hi)
 have st1:∀ b t,St ls ws b t->St ls (ws.set (a+1+i) v) b t:=fun b t h=>by unfold St at h ⊢;rw [r1];exact h
 have st2:∀ b t,St ls (ws.set (a+1+i) v) b t->St ls ws b t:=fun b t h=>by unfold St at h ⊢;rw [r1] at h;exact h
 have hmono:=Mm.vr_mono (phi:=phi) (phi':=phi) st1 (fun _ _ h=>h)
 refine ⟨⟨by rw [r2];exact hm.full,fun b t h=>hm.typ b t (st2 b t h),hm.inj,fun d' b hb=>?_,fun b t h=>hm.sur b t (st2 b t h)⟩,hmono⟩
 obtain ⟨x,t',y,z⟩:=hm.dom d' b hb
 refine ⟨by rw [List.length_set];exact x,t',st1 _ _ y,?_⟩
 by_cases hd:d'=e
 ·subst hd
  rw [hp] at hb
  simp only [Option.some.injEq] at hb
  subst hb
  have:=hs.uniq y
  subst this
  rw [rD hi]
  have:(recs.set d' ((recs.getD d' []).set i d)).getD d' []=(recs.getD d' []).set i d:=by
   rw [List.getD_eq_getElem?_getD,List.getElem?_set_self x];rfl
  rw [this]
  exact (z.set hv).mono hmono
 ·have hne:b ≠ a:=fun h=>hd (hm.inj _ _ a (by rw [hb,h]) hp)
  rw [qS (fun j hj=>(hs.apart y hm.full (fun h=>hne h.symm) hi hj).1)]
  have:(recs.set e ((recs.getD e []).set i d)).getD d' []=recs.getD d' []:=by
   rw [List.getD_eq_getElem?_getD,List.getElem?_set_ne (fun h=>hd h.symm),List.getD_eq_getElem?_getD]
  rw [this]
  exact z.mono hmono
section
variable {c:Cx} {D:Dn} {R:Rn} {phi:Nat->Option Nat} {f:Int} {op A B:Int} {rest:List Int}
theorem Cu.end (_h:Cu c D R phi f (op,A,B) rest) {D':Dn} {R':Rn} {s:Int} (hs:s=1 \/ s=3 \/ s=4 \/ s=5) (hst:D'.status=s) (hst':R'.status=s) (ho:D'.out=R'.out) (hu:D'.used=R'.used) (hi:R'.inp=R.inp)
 (hh:R'.heap=R.heap/\R'.depth=R.depth/\D'.heap=D.heap/\D'.depth=D.depth):Nx c D R D' R':=
 ⟨by rw [hst,hst'],ho,hu,hi,hh,fun h=>by rw [hst'] at h;omega,by rw [hst'];omega⟩
theorem pn (h:Cu c D R phi f (8,A,B) rest) (s0:D.status=0) (s0':R.status=0) (ho:D.out=R.out) (hu:D.used=R.used):Nx c D R (aO c R.inp (8,A,B) D) (doP c (8,A,B) R):=by
 have hi:=h.iok
 simp only [cJ,gB] at hi
 have hB0:0<=B:=hi.2.2.1
 have hB1:B < ((ax c.ls A).length:Int):=by have:=hi.2.2.2;simp at this;omega
 have hA1:1<=A:=fp (ls:=c.ls) (by omega)
 have e:ak c.ls c.fs (aq c.fs f) 8 A B=[A]:=by simp [ak]
 have hs:=h.stk
 simp only [e] at hs
 obtain ⟨h1,v1⟩:=hs.snoc
 have ed:aO c R.inp (8,A,B) D=(if (au D.top.stack).1=0 then { ao D with top:=ay (ao D).top,status:=3 } else { ao D with top:=aE (ay (ao D).top) ((D.recs.getD ((au D.top.stack).1 - 1).toNat []).getD B.toNat (0,false)) }):=rfl
 have er:doP c (8,A,B) R=gH (if aG R.top.stack=0 then { R with top:=aT R.top,status:=3 } else { R with top:=cH (aT R.top) (aW R.words (aG R.top.stack+B)) }):=rfl
 rw [ed,er]
 obtain ⟨_,hz | ⟨d,a,x,y,z,s⟩⟩:=v1.ref (by omega)
 ·rw [if_pos hz.1,if_pos hz.2]
  exact h.end (s:=3) (by omega) rfl rfl ho hu rfl ⟨rfl,rfl,rfl,rfl⟩
 ·rw [if_neg (by omega),if_neg (by omega)]
  refine h.next (by decide) (by decide) s0 s0' ho hu rfl ⟨rfl,rfl,rfl,rfl⟩ rfl rfl rfl rfl rfl rfl rfl rfl h.tp.loc ?_
  have:ag c.ls c.fs (aq c.fs f) 8 A B=[aW (ax c.ls A) B]:=by simp [ag]
  rw [this,cR hB0 hB1]
  refine VL.app h1 (.one ?_)
  show VR c.ls R.words phi _ ((D.recs.getD ((au D.top.stack).1 - 1).toNat []).getD B.toNat (0,false)) (aW R.words (aG R.top.stack+B))
  obtain ⟨_,t,s',hv⟩:=h.sm.mem.dom _ _ z
  have:=s.uniq s'
  subst this
  have hw:=(s.val h.sm.mem.full).2.1
  have:=hv.get (i:=B.toNat) (by omega)
  rw [gP (by omega)] at this
  rw [cR (by omega) (by omega),show (aG R.top.stack+B).toNat=a+1+B.toNat by omega,show ((au D.top.stack).1 - 1).toNat=d by omega]
  exact this
theorem Tp.nextF {c:Cx} {P:Int->Int × Bool->Int->Prop} {f:Int} {d:DFr} {g:Fr} (h:Tp c P f d g) {d':DFr} {g':Fr} (fn:g'.fn=g.fn) (dfn:d'.fn=d.fn) (pc:d'.pc=g'.pc) (p0:0<=g'.pc) (pl:g'.pc < ((aq c.fs f).code.length:Int)) {Q:Int->Int × Bool->Int->Prop} (loc:VL Q (aq c.fs f).locals d'.locals g'.locals) {S:List Int} (hS:spP c.sps f g'.pc=some S) (stk:VL Q S d'.stack g'.stack):Tp c Q f d' g':=
 ⟨by rw [fn];exact h.fn,by rw [dfn];exact h.dfn,h.f0,h.fl,pc,p0,pl,loc,S,hS,stk⟩
theorem oS (h:Cu c D R phi f (9,A,B) rest) (s0:D.status=0) (s0':R.status=0) (ho:D.out=R.out) (hu:D.used=R.used):Nx c D R (aO c R.inp (9,A,B) D) (doP c (9,A,B) R):=by
 have hi:=h.iok
 simp only [cJ,gB] at hi
 have hB0:0<=B:=hi.2.2.1
 have hB1:B < ((ax c.ls A).length:Int):=by have:=hi.2.2.2;simp at this;omega
 have hA1:1<=A:=fp (ls:=c.ls) (by omega)
 have e:ak c.ls c.fs (aq c.fs f) 9 A B=[A]++[aW (ax c.ls A) B]:=by simp [ak]
 have hs:=h.stk
 simp only [e] at hs
 rw [<-List.append_assoc] at hs
 obtain ⟨h1,v1⟩:=hs.snoc
 obtain ⟨h2,v2⟩:=h1.snoc
 have ed:aO c R.inp (9,A,B) D=(if (au D.top.stack.dropLast).1=0 then { ao D with top:=ay (ay (ao D).top),status:=3 } else { ao D with top:=ay (ay (ao D).top),recs:=D.recs.set ((au D.top.stack.dropLast).1 - 1).toNat ((D.recs.getD ((au D.top.stack.dropLast).1 - 1).toNat []).set B.toNat (au D.top.stack)) }):=rfl
 have er:doP c (9,A,B) R=gH (if aG R.top.stack.dropLast=0 then { R with top:=aT (aT R.top),status:=3 } else { R with top:=aT (aT R.top),words:=if 0<=aG R.top.stack.dropLast+B/\aG R.top.stack.dropLast+B < (R.words.length:Int) then R.words.set (aG R.top.stack.dropLast+B).toNat (aG R.top.stack) else R.words }):=rfl
 rw [ed,er]
 obtain ⟨_,hz | ⟨d,a,x,y,z,s⟩⟩:=v2.ref (by omega)
 ·rw [if_pos hz.1,if_pos hz.2]
  exact h.end (s:=3) (by omega) rfl rfl ho hu rfl ⟨rfl,rfl,rfl,rfl⟩
 ·have hw:=(s.val h.sm.mem.full).2.1
  rw [cR hB0 hB1] at v1
  obtain ⟨m1,m2⟩:=h.sm.mem.set z s (i:=B.toNat) (by omega) v1
  rw [if_neg (by omega),if_neg (by omega),if_pos ⟨by omega,by omega⟩,show (aG R.top.stack.dropLast+B).toNat=a+1+B.toNat by omega,show ((au D.top.stack.dropLast).1 - 1).toNat=d by omega]
  have hwy:=h.way _ (eM (op:=9) (A:=A) (i:=R.top.pc.toNat) (by decide) (by decide))
  rw [h.pc] at hwy
  have:ag c.ls c.fs (aq c.fs f) 9 A B=[]:=by simp [ag]
  simp only [this,List.append_nil] at hwy
  refine ⟨?_,ho,hu,rfl,⟨rfl,rfl,rfl,rfl⟩,fun _=>⟨phi,?_⟩,.inl s0'⟩
  ·show D.status=R.status
   rw [s0,s0']
  ·refine ⟨h.sm.h0,h.sm.h4,h.sm.d1,h.sm.d64,h.sm.heap,h.sm.depth,m1,?_,h.sm.bl,f,h.bel.mono m2,?_⟩
   ·show ((R.words.set _ _).length:Int)<=R.heap
    rw [List.length_set];exact h.sm.len
   ·exact h.tp.nextF (g':=uW (aT (aT R.top))) (d':=ay (ay (ao D).top)) rfl rfl (by show D.top.pc+1=R.top.pc+1;rw [h.tp.pc]) hwy.1 hwy.2.1 (h.tp.loc.mono m2) hwy.2.2 (h2.mono m2)
theorem lX {S:List Int} {n:Nat} (h:n<=S.length):cT S n=S.drop (S.length - n)/\dA S n=S.take (S.length - n):=by
 unfold cT dA;rw [if_neg (by omega),if_neg (by omega)];exact ⟨rfl,rfl⟩
theorem jK {P:Int->Int × Bool->Int->Prop} (h0:P 0 (0,false) 0) (h1:∀ k,k ≠ 0->P k (0,true) 0) (l:List Int) (hl:∀ t ∈ l,0<=t):VL P l (l.map fun t=>((0:Int),decide (0 < t))) (List.replicate l.length 0):=by
 induction l with
 | nil=>exact .nil
 | cons t l ih =>
  have ht:=hl t (by simp)
  refine .cons ?_ (ih (fun t h=>hl t (by simp [h])))
  by_cases h:t=0
  ·subst h;simpa using h0
  ·have:decide (0 < t)=true:=by simp;omega
   show P t (0,decide (0 < t)) 0
   rw [this];exact h1 t h
theorem jA {c:Cx} (ok:bQ c) {g:Int} (h0:0<=g) (hl:g < (c.fs.length:Int)):aQ c.fs g=(aq c.fs g).locals.take (aq c.fs g).args.toNat/\(aQ c.fs g).length=(aq c.fs g).args.toNat:=by
 have hj:g.toNat < c.fs.length:=by omega
 have hk:=cx ok h0 hl
 have e:aQ c.fs g=(aq c.fs g).locals.take (aq c.fs g).args.toNat:=by
  rw [fF,bU,if_neg (by have:=hk.a0;have:=hk.al;omega)]
 refine ⟨e,?_⟩
 rw [e,List.length_take]
 have:=hk.a0
 have:=hk.al
 omega
theorem mQ (ok:bQ c) (h:Cu c D R phi f (15,A,B) rest) (s0:D.status=0) (s0':R.status=0) (ho:D.out=R.out) (hu:D.used=R.used):Nx c D R (aO c R.inp (15,A,B) D) (doP c (15,A,B) R):=by
 have hi:=h.iok
 simp only [cJ,bA] at hi
 have hA0:0<=A:=hi.2.1.1
 have hA1:A < (c.fs.length:Int):=by have:=hi.2.1.2;simp at this;omega
 have e:ak c.ls c.fs (aq c.fs f) 15 A B=aQ c.fs A:=by simp [ak]
 have hs:=h.stk
 have hsp:=h.spt
 simp only [e] at hs hsp
 obtain ⟨h1,h2⟩:=hs.split
 have hl:=hs.len
 rw [List.length_append] at hl
 have hbl:=h.bel.len
 have ed:aO c R.inp (15,A,B) D=hH c A (ao D):=rfl
 have er:doP c (15,A,B) R=clP c A R:=rfl
 rw [ed,er]
 unfold hH clP
 have e1:(ao D).depth=R.depth:=h.sm.depth
 have e2:(ao D).below.length=R.below.length:=hbl
 by_cases hd:R.depth<=(R.below.length:Int)+1
 ·rw [if_pos (show (ao D).depth<=((ao D).below.length:Int)+1 by rw [e1,e2];exact hd),if_pos hd]
  exact h.end (s:=5) (by omega) rfl rfl ho hu rfl ⟨rfl,rfl,rfl,rfl⟩
 ·rw [if_neg (show ¬ (ao D).depth<=((ao D).below.length:Int)+1 by rw [e1,e2];exact hd),if_neg hd]
  obtain ⟨p1,p2⟩:=lX (S:=R.top.stack) (n:=(aQ c.fs A).length) (by omega)
  have fk:=cx ok hA0 hA1
  obtain ⟨ae,al⟩:=jA ok hA0 hA1
  have ez:=ok.zero A hA0 hA1
  refine ⟨?_,ho,hu,rfl,⟨rfl,rfl,rfl,rfl⟩,fun _=>⟨phi,?_⟩,.inl s0'⟩
  ·show D.status=R.status
   rw [s0,s0']
  ·refine h.sm.same ⟨rfl,rfl,rfl,rfl⟩ rfl rfl ?_ ⟨A,?_,?_⟩
   ·show ((R.below++[_]).length:Int)+1<=R.depth
    rw [List.length_append];simp;omega
   ·refine .snoc h.bel ⟨h.tp.fn,h.tp.dfn,h.tp.f0,h.tp.fl,?_,h.tp.p0,h.tp.pl,by rw [h.ins],by rw [h.ins],h.tp.loc,rest,hsp,?_⟩
    ·show D.top.pc+1=R.top.pc+1
     rw [h.tp.pc]
    ·show VL _ rest (D.top.stack.take (D.top.stack.length - (aQ c.fs A).length)) (dA R.top.stack (aQ c.fs A).length)
     rw [p2,show D.top.stack.length - (aQ c.fs A).length=rest.length by omega,show R.top.stack.length - (aQ c.fs A).length=rest.length by omega]
     exact h1
   ·refine ⟨rfl,rfl,hA0,hA1,rfl,Int.le_refl _,?_,?_,[],ez,.nil⟩
    ·show (0:Int) < _
     have:=fk.c1;omega
    ·show VL _ (aq c.fs A).locals (D.top.stack.drop (D.top.stack.length - (aQ c.fs A).length)++cB (aq c.fs A).locals (aQ c.fs A).length) (cT R.top.stack (aQ c.fs A).length++List.replicate ((aq c.fs A).locals.length - (cT R.top.stack (aQ c.fs A).length).length) 0)
     have hn:(cT R.top.stack (aQ c.fs A).length).length=(aQ c.fs A).length:=by rw [p1,List.length_drop];omega
     rw [hn,p1,show D.top.stack.length - (aQ c.fs A).length=rest.length by omega,show R.top.stack.length - (aQ c.fs A).length=rest.length by omega]
     have hsplit:(aq c.fs A).locals=aQ c.fs A++(aq c.fs A).locals.drop (aQ c.fs A).length:=by
      rw [al];conv=>lhs;rw [<-List.take_append_drop (aq c.fs A).args.toNat (aq c.fs A).locals,<-ae]
     conv=>arg 2;rw [hsplit]
     refine VL.app h2 ?_
     have:=jK (P:=VR c.ls R.words phi) (dX (Int.le_refl 0) (by decide)) (fun k hk=>lj hk) ((aq c.fs A).locals.drop (aQ c.fs A).length) (fun t ht=>(fk.lt t (List.mem_of_mem_drop ht)).1)
     rw [List.length_drop] at this
     exact this
theorem qC {c:Cx} {g:Int} (h0:0<=g) (hl:g < (c.fs.length:Int)):jM c.fs g=(aq c.fs g).result:=by
 have hj:g.toNat < c.fs.length:=by omega
 unfold jM aq;rw [dif_pos ⟨h0,hj⟩,dif_pos ⟨h0,hj⟩]
theorem Bel.inv {c:Cx} {P:Int->Int × Bool->Int->Prop} {ds:List DFr} {gs:List Fr} {h:Int} (hb:Bel c P ds gs h) (hne:gs ≠ []):∃ (hd:ds ≠ []) (f:Int),Bel c P ds.dropLast gs.dropLast f/\Wt c P f h (ds.getLast hd) (gs.getLast hne):=by
 cases hb with
 | nil=>exact absurd rfl hne
 | snoc hb hw=>exact ⟨by simp,_,by simpa using hb,by simpa using hw⟩
theorem Bel.nil_inv {c:Cx} {P:Int->Int × Bool->Int->Prop} {ds:List DFr} {gs:List Fr} {h:Int} (hb:Bel c P ds gs h) (he:gs=[]):h=0:=by
 cases hb with
 | nil=>rfl
 | snoc _ _=>simp at he
theorem pr (ok:bQ c) (h:Cu c D R phi f (16,A,B) rest) (s0:D.status=0) (s0':R.status=0) (ho:D.out=R.out) (hu:D.used=R.used):Nx c D R (aO c R.inp (16,A,B) D) (doP c (16,A,B) R):=by
 have hr:=h.ret rfl
 subst hr
 have e:ak c.ls c.fs (aq c.fs f) 16 A B=[(aq c.fs f).result]:=by simp [ak]
 have hs:=h.stk
 simp only [e] at hs
 obtain ⟨_,v1⟩:=hs.snoc
 have hbl:=h.bel.len
 have ed:aO c R.inp (16,A,B) D=da (ao D):=rfl
 have er:doP c (16,A,B) R=gbP R:=rfl
 rw [ed,er]
 unfold da gbP
 by_cases hb:R.below=[]
 ·have hb':(ao D).below=[]:=by show D.below=[];exact List.eq_nil_of_length_eq_zero (by rw [hbl,hb];rfl)
  rw [dif_pos hb,dif_pos hb']
  have hf0:f=0:=h.bel.nil_inv hb
  have hres:(aq c.fs f).result=0:=(h.fok.fst (by rw [hf0];rfl)).2
  rw [hres] at v1
  obtain ⟨x1,_,_⟩:=v1.num
  refine h.end (s:=1) (by omega) rfl rfl ?_ hu rfl ⟨rfl,rfl,rfl,rfl⟩
  show D.out++[(au D.top.stack).1]=R.out++[aG R.top.stack]
  rw [x1,ho]
 ·obtain ⟨hd,f',hb1,hw⟩:=h.bel.inv hb
  have hd':(ao D).below ≠ []:=hd
  rw [dif_neg hb,dif_neg hd']
  obtain ⟨S,hS,hV⟩:=hw.stk
  obtain ⟨q1,q2⟩:=ok.fit _ _ _ hS
  obtain ⟨T,hT⟩:=Option.isSome_iff_exists.1 q1
  obtain ⟨rest',t1,t2,_,_⟩:=fV hT
  have q3:=q2 T hT
  rw [hw.op,hw.tgt] at q3 t1 t2
  have hp0:=hw.p0
  have hway:=q3 _ (eM (A:=f) (i:=(R.below.getLast hb).pc.toNat) (by decide) (by decide))
  rw [show (((R.below.getLast hb).pc.toNat:Nat):Int)=(R.below.getLast hb).pc by omega] at hway
  have ea:ak c.ls c.fs (aq c.fs f') 15 f (aV (aq c.fs f') (R.below.getLast hb).pc).2.2=aQ c.fs f:=by simp [ak]
  have eb:ag c.ls c.fs (aq c.fs f') 15 f (aV (aq c.fs f') (R.below.getLast hb).pc).2.2=[(aq c.fs f).result]:=by simp [ag,qC h.tp.f0 h.tp.fl]
  rw [ea] at t1
  have hre:S=rest':=List.append_cancel_right t1
  subst hre
  rw [eb] at t2
  subst t2
  refine ⟨?_,ho,hu,rfl,⟨rfl,rfl,rfl,rfl⟩,fun _=>⟨phi,?_⟩,.inl s0'⟩
  ·show D.status=R.status
   rw [s0,s0']
  ·refine h.sm.same ⟨rfl,rfl,rfl,rfl⟩ rfl rfl ?_ ⟨f',hb1,?_⟩
   ·show ((R.below.dropLast).length:Int)+1<=R.depth
    have:=h.sm.bl
    rw [List.length_dropLast];omega
   ·refine ⟨hw.fn,hw.dfn,hw.f0,hw.fl,hw.pc,hway.1,hway.2.1,hw.loc,_,hway.2.2,?_⟩
    exact VL.app hV (.one v1)
end
end Go.Proofs.Ytnfnbcbadakofaa
namespace Go.Proofs.Ytnfnbcbadakofaa
open Go.RowKit
def sz (recs:List (List (Int × Bool))) (d:Nat):Nat:=1+(recs.getD d []).length
def aY (recs:List (List (Int × Bool))):List Nat->Nat->Option Nat
 | [],_=>none
 | e::L,d=>if e=d then some 0 else (aY recs L d).map (· + sz recs e)
def tot (recs:List (List (Int × Bool))):List Nat->Nat
 | []=>0
 | e::L=>sz recs e+tot recs L
section
variable {recs:List (List (Int × Bool))}
theorem l9 (L L':List Nat):tot recs (L++L')=tot recs L+tot recs L':=by
 induction L with
 | nil=>simp [tot]
 | cons e L ih=>simp [tot,ih];omega
theorem cN (L:List Nat) (d:Nat):aY recs L d=none ↔ d ∉ L:=by
 induction L with
 | nil=>simp [aY]
 | cons e L ih =>
  unfold aY
  by_cases h:e=d
  ·rw [if_pos h];simp [h]
  ·rw [if_neg h];simp [ih];exact fun _=>fun h'=>h h'.symm
theorem qH {L:List Nat} {d:Nat} (h:d ∈ L):∃ o,aY recs L d=some o:=by
 cases ho:aY recs L d with
 | none=>exact absurd h ((cN L d).1 ho)
 | some o=>exact ⟨o,rfl⟩
theorem gN {L:List Nat} {d o:Nat} (h:aY recs L d=some o) (L':List Nat):aY recs (L++L') d=some o:=by
 induction L generalizing o with
 | nil=>simp [aY] at h
 | cons e L ih =>
  simp only [aY,List.cons_append] at h ⊢
  by_cases hd:e=d
  ·rw [if_pos hd] at h ⊢;exact h
  ·rw [if_neg hd] at h ⊢
   cases ho:aY recs L d with
   | none=>rw [ho] at h;cases h
   | some o'=>rw [ho] at h;rw [ih ho];exact h
theorem lS {L:List Nat} {d:Nat} (h:d ∉ L) (L':List Nat):aY recs (L++d::L') d=some (tot recs L):=by
 induction L with
 | nil=>simp [aY,tot]
 | cons e L ih =>
  simp only [List.mem_cons,not_or] at h
  simp only [aY,List.cons_append,tot]
  rw [if_neg (fun x=>h.1 x.symm),ih h.2]
  simp;omega
theorem ii {L:List Nat} {d o:Nat} (h:aY recs L d=some o):o+sz recs d<=tot recs L:=by
 induction L generalizing o with
 | nil=>simp [aY] at h
 | cons e L ih =>
  simp only [aY,tot] at h ⊢
  by_cases hd:e=d
  ·rw [if_pos hd] at h;simp at h;subst h;subst hd;omega
  ·rw [if_neg hd] at h
   cases ho:aY recs L d with
   | none=>rw [ho] at h;cases h
   | some o'=>rw [ho] at h;have:=ih ho;simp at h;omega
theorem eJ {L:List Nat} {d e o p:Nat} (h:aY recs L d=some o) (h':aY recs L e=some p) (hne:d ≠ e):o+sz recs d<=p \/ p+sz recs e<=o:=by
 induction L generalizing o p with
 | nil=>simp [aY] at h
 | cons x L ih =>
  simp only [aY] at h h'
  by_cases hd:x=d
  ·rw [if_pos hd] at h;simp at h;subst h;subst hd
   rw [if_neg hne] at h'
   cases ho:aY recs L e with
   | none=>rw [ho] at h';cases h'
   | some o'=>rw [ho] at h';simp at h';omega
  ·rw [if_neg hd] at h
   cases ho:aY recs L d with
   | none=>rw [ho] at h;cases h
   | some o' =>
    rw [ho] at h
    simp at h
    by_cases he:x=e
    ·rw [if_pos he] at h';simp at h';subst h';subst he;omega
    ·rw [if_neg he] at h'
     cases hp:aY recs L e with
     | none=>rw [hp] at h';cases h'
     | some p'=>rw [hp] at h';simp at h';have:=ih ho hp;omega
theorem qO {L:List Nat} {d e o:Nat} (h:aY recs L d=some o) (h':aY recs L e=some o):d=e:=by
 rcases Nat.decEq d e with hne | he
 ·rcases eJ h h' hne with a | a <;> unfold sz at a <;> omega
 ·exact he
end
def mvS (ls:List (List Int)):List (Option Int)->List Int->Nat
 | some t::os,r::rs=>(if r ≠ 0 then 1+(ax ls t).length else 0)+mvS ls os rs
 | none::os,_::rs=>mvS ls os rs
 | _,_=>0
theorem tF (ls:List (List Int)) (ws:List Int):∀ (n:Nat) (rs:List Int),mvS ls (bd ls n ws) rs+n<=ws.length+bC ls n ws:=by
 induction ws with
 | nil=>intro n rs;cases n <;> simp [bd,mvS,bC]
 | cons w ws ih =>
  intro n rs
  cases rs with
  | nil =>
   cases n with
   | zero=>have:=ih (ax ls w).length [];simp only [bd,mvS,bC,List.length_cons];omega
   | succ n=>have:=ih n [];simp only [bd,mvS,bC,List.length_cons];omega
  | cons r rs =>
   cases n with
   | zero=>have:=ih (ax ls w).length rs;simp only [bd,mvS,bC,List.length_cons];split <;> omega
   | succ n=>have:=ih n rs;simp only [bd,mvS,bC,List.length_cons];omega
theorem rN {ls:List (List Int)} {v:Int} (hv:v ≠ 0):∀ {os:List (Option Int)} {rs:List Int} {a:Nat} {t:Int},os[a]?=some (some t)->rs[a]?=some 0->mvS ls os (rs.set a v)=mvS ls os rs+1+(ax ls t).length:=by
 intro os
 induction os with
 | nil=>intro rs a t h;simp at h
 | cons o os ih =>
  intro rs a t h h'
  cases rs with
  | nil=>simp at h'
  | cons r rs =>
   cases a with
   | zero =>
    simp at h h';subst h;subst h'
    simp [mvS,hv];omega
   | succ a =>
    have:=ih (rs:=rs) (a:=a) (t:=t) (by simpa using h) (by simpa using h')
    cases o with
    | none=>simpa [mvS] using this
    | some u=>simp only [mvS,List.set_cons_succ];rw [this];omega
theorem nD (ls:List (List Int)) (os:List (Option Int)) (n:Nat):mvS ls os (List.replicate n 0)=0:=by
 induction os generalizing n with
 | nil=>cases n <;> simp [mvS]
 | cons o os ih =>
  cases n with
  | zero=>cases o <;> simp [mvS]
  | succ n=>cases o <;> simp [mvS,List.replicate_succ,ih]
def VN (ls:List (List Int)) (recs:List (List (Int × Bool))) (ws:List Int) (phi:Nat->Option Nat) (L:List Nat) (kind:Int) (d:Int × Bool) (v:Int):Prop:=
 (kind=0/\d.2=false/\d.1=v/\0<=v/\v < 65536) \/
 (kind ≠ 0/\d.2=true/\((d.1=0/\v=0) \/ ∃ e o a:Nat,d.1=(e:Int)+1/\v=(o:Int)+1/\aY recs L e=some o/\phi e=some a/\St ls ws a kind))
theorem VN.app {ls:List (List Int)} {recs:List (List (Int × Bool))} {ws:List Int} {phi:Nat->Option Nat} {L:List Nat} {kind:Int} {d:Int × Bool} {v:Int} (h:VN ls recs ws phi L kind d v) (L':List Nat):VN ls recs ws phi (L++L') kind d v:=by
 rcases h with h | ⟨a,b,h | ⟨e,o,p,x,y,z,s⟩⟩
 ·exact .inl h
 ·exact .inr ⟨a,b,.inl h⟩
 ·exact .inr ⟨a,b,.inr ⟨e,o,p,x,y,gN z L',s⟩⟩
structure Lk (ls:List (List Int)) (recs:List (List (Int × Bool))) (ws:List Int) (phi:Nat->Option Nat) (k:Nat) (mk:Mk) (mv:Mv):Prop where
 sl:mk.seen.length=recs.length
 seen:∀ d,d < recs.length->mk.seen.getD d true=decide (d ∈ mk.list)
 sc:mk.seen.countP id=mk.list.length
 dom:∀ d ∈ mk.list,∃ a,phi d=some a
 nd:mk.list.Nodup
 rl:mv.refs.length=ws.length
 refs:∀ d a,phi d=some a->(mv.refs.getD a 0=0/\aY recs mk.list d=none) \/ ∃ o:Nat,mv.refs.getD a 0=(o:Int)+1/\aY recs mk.list d=some o
 tl:mv.to.length=tot recs mk.list
 ms:mv.to.length=mvS ls (bd ls 0 ws) mv.refs
 kl:k<=mv.to.length
 con:∀ d o a t,aY recs mk.list d=some o->phi d=some a->St ls ws a t->mv.to.getD o 0=t/\∀ i,i < (ax ls t).length ->
  (o+1+i < k->VN ls recs ws phi mk.list ((ax ls t).getD i 0) ((recs.getD d []).getD i (0,false)) (mv.to.getD (o+1+i) 0))/\(k<=o+1+i->mv.to.getD (o+1+i) 0=ws.getD (a+1+i) 0)
section
variable {ls:List (List Int)} {recs:List (List (Int × Bool))} {ws:List Int} {phi:Nat->Option Nat}
theorem Mm.size (hm:Mm ls recs ws phi) {d a:Nat} {t:Int} (hp:phi d=some a) (hs:St ls ws a t):sz recs d=1+(ax ls t).length:=by
 obtain ⟨_,t',s',hv⟩:=hm.dom d a hp
 have:=hs.uniq s'
 subst this
 unfold sz;rw [hv.len.1]
theorem Lk.le (hm:Mm ls recs ws phi) {k:Nat} {mk:Mk} {mv:Mv} (h:Lk ls recs ws phi k mk mv):mv.to.length<=ws.length:=by
 have:=tF ls ws 0 mv.refs
 rw [hm.full] at this
 rw [h.ms];omega
theorem eW {l l':List Int} {i:Nat} (h:i < l.length):(l++l').getD i 0=l.getD i 0:=by
 rw [List.getD_eq_getElem?_getD,List.getD_eq_getElem?_getD,List.getElem?_append_left h]
theorem eA {l l':List Int} {i:Nat} (h:l.length<=i):(l++l').getD i 0=l'.getD (i - l.length) 0:=by
 rw [List.getD_eq_getElem?_getD,List.getD_eq_getElem?_getD,List.getElem?_append_right h]
theorem iE {l:List Int} {i:Nat} {v:Int} (h:i < l.length):(l.set i v).getD i 0=v:=by rw [List.getD_eq_getElem?_getD,List.getElem?_set_self h];rfl
theorem eG {l:List Int} {i j:Nat} {v:Int} (h:i ≠ j):(l.set i v).getD j 0=l.getD j 0:=by rw [List.getD_eq_getElem?_getD,List.getElem?_set_ne h,<-List.getD_eq_getElem?_getD]
theorem jL {l:List Int} {a n i:Nat} (h:i < n):((l.drop a).take n).getD i 0=l.getD (a+i) 0:=by
 rw [List.getD_eq_getElem?_getD,List.getD_eq_getElem?_getD,List.getElem?_take_of_lt h,List.getElem?_drop]
theorem sA {mk:Mk} {v:Int × Bool} (h:v.2=false):mkV mk v=mk:=by unfold mkV;rw [if_neg (by simp [h])]
theorem sL {mk:Mk} {v:Int × Bool} (h:v.1=0):mkV mk v=mk:=by unfold mkV;rw [if_neg (by omega)]
set_option maxHeartbeats 1000000 in
theorem jG (hm:Mm ls recs ws phi) {k:Nat} {mk:Mk} {mv:Mv} (h:Lk ls recs ws phi k mk mv) {kind:Int} {d:Int × Bool} {v:Int} (hv:VR ls ws phi kind d v) :
 Lk ls recs ws phi k (mkV mk d) (mv1 ls ws kind v mv).2/\VN ls recs ws phi (mkV mk d).list kind d (mv1 ls ws kind v mv).1/\(∃ L',(mkV mk d).list=mk.list++L')/\∃ T,(mv1 ls ws kind v mv).2.to=mv.to++T:=by
 rcases hv with ⟨k0,d2,d1,v0,v1⟩ | ⟨k0,d2,⟨d1,v0⟩ | ⟨e,a,x,y,z,s⟩⟩
 ·rw [sA d2]
  have:mv1 ls ws kind v mv=(v,mv):=by unfold mv1;rw [if_neg (by simp [k0])]
  rw [this]
  exact ⟨h,.inl ⟨k0,d2,d1,v0,v1⟩,⟨[],by simp⟩,⟨[],by simp⟩⟩
 ·rw [sL d1]
  have:mv1 ls ws kind v mv=(0,mv):=by unfold mv1 mvP;rw [if_pos k0,if_pos (by omega)]
  rw [this]
  exact ⟨h,.inr ⟨k0,d2,.inl ⟨d1,rfl⟩⟩,⟨[],by simp⟩,⟨[],by simp⟩⟩
 ·have e1:mv1 ls ws kind v mv=mvP ls ws mv v:=by unfold mv1;rw [if_pos k0]
  rw [e1]
  obtain ⟨w1,w2,_⟩:=s.val hm.full
  have hel:=(hm.dom e a z).1
  have ha:(v - 1).toNat=a:=by omega
  have hde:(d.1 - 1).toNat=e:=by omega
  have hwa:ws.getD a 0=kind:=by rw [List.getD_eq_getElem?_getD,w1];rfl
  have hal:a < ws.length:=by omega
  unfold mvP
  rw [ha,hwa,if_neg (by omega)]
  have hsn:=h.seen e hel
  rcases h.refs e a z with ⟨r0,o0⟩ | ⟨o,r1,o1⟩
  ·have hne:e ∉ mk.list:=(cN _ _).1 o0
   rw [r0,if_neg (by simp),if_neg (by omega)]
   have emk:mkV mk d=⟨mk.seen.set e true,mk.list++[e]⟩:=by
    unfold mkV;rw [hde,if_pos ⟨d2,by omega,by rw [hsn];simp [hne]⟩]
   rw [emk]
   have hof:=lS (recs:=recs) hne []
   have hsz:=hm.size z s
   have hrg:mv.refs[a]?=some 0:=by
    have hl:=h.rl
    rw [List.getD_eq_getElem?_getD] at r0
    rw [List.getElem?_eq_getElem (by omega)] at r0 ⊢
    simpa using r0
   have hTl:((ws.drop a).take (1+(ax ls kind).length)).length=1+(ax ls kind).length:=by rw [List.length_take,List.length_drop];omega
   refine ⟨⟨by simp [h.sl],?_,?_,?_,List.nodup_append.2 ⟨h.nd,by simp,fun x hx y hy=>by simp at hy;subst hy;exact fun q=>hne (q ▸ hx)⟩,by simp [h.rl],?_,?_,?_,?_,?_⟩,?_,⟨[e],rfl⟩,⟨_,rfl⟩⟩
   ·intro d' hd'
    by_cases hq:d'=e
    ·subst hq
     rw [List.getD_eq_getElem?_getD,List.getElem?_set_self (by rw [h.sl];exact hd')];simp
    ·rw [List.getD_eq_getElem?_getD,List.getElem?_set_ne (fun x=>hq x.symm),<-List.getD_eq_getElem?_getD,h.seen d' hd']
     simp [hq]
   ·have hsg:mk.seen[e]?=some false:=by
     rw [List.getD_eq_getElem?_getD] at hsn
     rw [List.getElem?_eq_getElem (by rw [h.sl];exact hel)] at hsn ⊢
     simp [hne] at hsn ⊢;exact hsn
    have hsc:=h.sc
    have hlt:e < mk.seen.length:=by rw [h.sl];exact hel
    rw [List.countP_set hlt]
    have:mk.seen[e]=false:=by rw [List.getElem?_eq_getElem hlt] at hsg;simpa using hsg
    simp [this,hsc]
   ·intro d' hd'
    rcases List.mem_append.1 hd' with hd' | hd'
    ·exact h.dom d' hd'
    ·simp at hd';subst hd';exact ⟨a,z⟩
   ·intro d' a' hp
    by_cases hq:d'=e
    ·subst hq
     rw [z] at hp;simp at hp;subst hp
     refine .inr ⟨tot recs mk.list,?_,hof⟩
     rw [List.getD_eq_getElem?_getD,List.getElem?_set_self (by rw [h.rl];exact hal),<-h.tl];rfl
    ·have hna:a ≠ a':=fun x=>hq (hm.inj _ _ a (by rw [hp,x]) z)
     rw [List.getD_eq_getElem?_getD,List.getElem?_set_ne hna,<-List.getD_eq_getElem?_getD]
     rcases h.refs d' a' hp with ⟨q1,q2⟩ | ⟨o',q1,q2⟩
     ·refine .inl ⟨q1,?_⟩
      rw [cN] at q2 ⊢
      simp [q2,hq]
     ·exact .inr ⟨o',q1,gN q2 _⟩
   ·show (mv.to++_).length=_
    rw [List.length_append,hTl,l9,h.tl];simp [tot];omega
   ·show (mv.to++_).length=mvS ls (bd ls 0 ws) (mv.refs.set a _)
    rw [rN (by omega) s hrg,List.length_append,hTl,h.ms];omega
   ·show k<=(mv.to++_).length
    have:=h.kl
    rw [List.length_append];omega
   ·intro d' o' a' t' ho' hp' hs'
    by_cases hq:d'=e
    ·subst hq
     rw [z] at hp';simp at hp';subst hp'
     have:=s.uniq hs'
     subst this
     have hq2:aY recs (mk.list++[d']) d'=some o':=ho'
     rw [hof] at hq2
     simp at hq2
     subst hq2
     have htl:=h.tl
     refine ⟨?_,fun i hi=>⟨fun hk=>?_,fun _=>?_⟩⟩
     ·show (mv.to++_).getD _ 0=_
      rw [eA (by omega),htl,Nat.sub_self,jL (by omega),Nat.add_zero,hwa]
     ·have:=h.kl;omega
     ·show (mv.to++_).getD _ 0=_
      rw [eA (by omega),jL (by omega),htl];congr 1;omega
    ·have ho2:aY recs mk.list d'=some o':=by
      cases hx:aY recs mk.list d' with
      | some o2=>have:=gN hx [e];rw [show aY recs (mk.list++[e]) d'=some o' from ho'] at this;exact this.symm
      | none =>
       rw [cN] at hx
       have:aY recs (mk.list++[e]) d'=none:=by rw [cN];simp [hx,hq]
       rw [show aY recs (mk.list++[e]) d'=some o' from ho'] at this;cases this
     obtain ⟨c1,c2⟩:=h.con d' o' a' t' ho2 hp' hs'
     have hlt:=ii ho2
     have hz':=hm.size hp' hs'
     have htl:=h.tl
     refine ⟨?_,fun i hi=>?_⟩
     ·show (mv.to++_).getD _ 0=_
      rw [eW (by omega)];exact c1
     ·show (_->VN _ _ _ _ _ _ _ ((mv.to++_).getD _ 0))/\(_->(mv.to++_).getD _ 0=_)
      rw [eW (by omega)]
      exact ⟨fun hk=>((c2 i hi).1 hk).app _,(c2 i hi).2⟩
   ·refine .inr ⟨k0,d2,.inr ⟨e,tot recs mk.list,a,x,?_,hof,z,s⟩⟩
    show (mv.to.length:Int)+1=_
    rw [h.tl]
  ·have hin:e ∈ mk.list:=by
    rcases Classical.em (e ∈ mk.list) with q | q
    ·exact q
    ·rw [(cN _ _).2 q] at o1;cases o1
   rw [r1,if_pos (by omega)]
   have emk:mkV mk d=mk:=by
    unfold mkV;rw [hde,if_neg]
    rw [hsn];simp [hin]
   rw [emk]
   exact ⟨h,.inr ⟨k0,d2,.inr ⟨e,o,a,x,rfl,o1,z,s⟩⟩,⟨[],by simp⟩,⟨[],by simp⟩⟩
end
end Go.Proofs.Ytnfnbcbadakofaa
namespace Go.Proofs.Ytnfnbcbadakofaa
open Go.RowKit
theorem qY {P Q:Int->Int × Bool->Int->Prop} {ks:List Int} {ds:List (Int × Bool)} {vs:List Int} (h:VL P ks ds vs) (hm:∀ k d v,P k d v->Q k d v):VL Q ks ds vs:=h.mono hm
section
variable {ls:List (List Int)} {recs:List (List (Int × Bool))} {ws:List Int} {phi:Nat->Option Nat}
theorem VN.pre {L L':List Nat} (hL:∃ M,L'=L++M) {kind:Int} {d:Int × Bool} {v:Int} (h:VN ls recs ws phi L kind d v):VN ls recs ws phi L' kind d v:=by
 obtain ⟨M,rfl⟩:=hL;exact h.app M
theorem dN {L L' L'':List Nat} (h:∃ M,L'=L++M) (h':∃ M,L''=L'++M):∃ M,L''=L++M:=by
 obtain ⟨M,rfl⟩:=h;obtain ⟨M',rfl⟩:=h';exact ⟨M++M',by simp⟩
theorem gS (hm:Mm ls recs ws phi) {k:Nat} {ks:List Int} {ds:List (Int × Bool)} {vs:List Int} (hv:VL (VR ls ws phi) ks ds vs):∀ (pre post:List Int) {mk:Mk} {mv:Mv},Lk ls recs ws phi k mk mv ->
 Lk ls recs ws phi k (mkA mk ds) (mvL ls ws (pre++ks++post) pre.length vs mv).2/\VL (VN ls recs ws phi (mkA mk ds).list) ks ds (mvL ls ws (pre++ks++post) pre.length vs mv).1/\∃ M,(mkA mk ds).list=mk.list++M:=by
 induction hv with
 | nil=>intro pre post mk mv h;exact ⟨h,.nil,[],by simp [mkA]⟩
 | @cons kd d v ks ds vs hp hr ih =>
  intro pre post mk mv h
  have ek:aW (pre++kd::ks++post) (pre.length:Int)=kd:=by
   rw [cR (by omega) (by simp;omega)];simp
  obtain ⟨l1,l2,l3,_⟩:=jG hm h hp
  have hih:=ih (pre++[kd]) post l1
  have e1:pre++[kd]++ks++post=pre++kd::ks++post:=by simp
  have e2:(pre++[kd]).length=pre.length+1:=by simp
  rw [e1,e2] at hih
  simp only [mvL,ek]
  have e3:mkA mk (d::ds)=mkA (mkV mk d) ds:=rfl
  rw [e3]
  exact ⟨hih.1,.cons (l2.pre hih.2.2) hih.2.1,dN l3 hih.2.2⟩
variable {c:Cx}
structure FrT (c:Cx) (P:Int->Int × Bool->Int->Prop) (d:DFr) (g:Fr):Prop where
 loc:VL P (aq c.fs g.fn).locals d.locals g.locals
 stk:∃ S post,skP c.sps g.fn g.pc=S++post/\VL P S d.stack g.stack
theorem iX (hm:Mm c.ls recs ws phi) {k:Nat} {d:DFr} {g:Fr} (hf:FrT c (VR c.ls ws phi) d g) {mk:Mk} {mv:Mv} (h:Lk c.ls recs ws phi k mk mv) :
 Lk c.ls recs ws phi k (mkF mk d) (cK c ws g mv).2/\VL (VN c.ls recs ws phi (mkF mk d).list) (aq c.fs g.fn).locals d.locals (cK c ws g mv).1.locals/\(∀ S post,skP c.sps g.fn g.pc=S++post->VL (VR c.ls ws phi) S d.stack g.stack->VL (VN c.ls recs ws phi (mkF mk d).list) S d.stack (cK c ws g mv).1.stack)/\∃ M,(mkF mk d).list=mk.list++M:=by
 have h1:=gS hm hf.loc [] [] h
 simp only [List.nil_append,List.append_nil,List.length_nil] at h1
 obtain ⟨S,post,hS,hV⟩:=hf.stk
 have h2:=gS hm hV [] post h1.1
 simp only [List.nil_append,List.length_nil] at h2
 rw [<-hS] at h2
 refine ⟨h2.1,qY h1.2.1 (fun _ _ _ x=>x.pre h2.2.2),?_,dN h1.2.2 h2.2.2⟩
 intro S' post' hS' hV'
 have h3:=gS hm hV' [] post' h1.1
 simp only [List.nil_append,List.length_nil] at h3
 rw [<-hS'] at h3
 exact h3.2.1
theorem Wt.frt {P:Int->Int × Bool->Int->Prop} {f h:Int} {d:DFr} {g:Fr} (w:Wt c P f h d g):FrT c P d g:=by
 obtain ⟨S,hS,hV⟩:=w.stk
 exact ⟨by rw [w.fn];exact w.loc,S,aQ c.fs h,by unfold skP;rw [w.fn,hS];rfl,hV⟩
theorem Tp.frt {P:Int->Int × Bool->Int->Prop} {f:Int} {d:DFr} {g:Fr} (w:Tp c P f d g):FrT c P d g:=by
 obtain ⟨S,hS,hV⟩:=w.stk
 exact ⟨by rw [w.fn];exact w.loc,S,[],by unfold skP;rw [w.fn,hS];simp,hV⟩
theorem Wt.moved (hm:Mm c.ls recs ws phi) {k:Nat} {f h:Int} {d:DFr} {g:Fr} (w:Wt c (VR c.ls ws phi) f h d g) {mk:Mk} {mv:Mv} (hl:Lk c.ls recs ws phi k mk mv) :
 Lk c.ls recs ws phi k (mkF mk d) (cK c ws g mv).2/\Wt c (VN c.ls recs ws phi (mkF mk d).list) f h d (cK c ws g mv).1/\∃ M,(mkF mk d).list=mk.list++M:=by
 obtain ⟨a,b,e,x⟩:=iX hm w.frt hl
 obtain ⟨S,hS,hV⟩:=w.stk
 refine ⟨a,⟨w.fn,w.dfn,w.f0,w.fl,w.pc,w.p0,w.pl,w.op,w.tgt,?_,S,hS,?_⟩,x⟩
 ·rw [w.fn] at b;exact b
 ·exact e S (aQ c.fs h) (by unfold skP;rw [w.fn,hS];rfl) hV
theorem Tp.moved (hm:Mm c.ls recs ws phi) {k:Nat} {f:Int} {d:DFr} {g:Fr} (w:Tp c (VR c.ls ws phi) f d g) {mk:Mk} {mv:Mv} (hl:Lk c.ls recs ws phi k mk mv) :
 Lk c.ls recs ws phi k (mkF mk d) (cK c ws g mv).2/\Tp c (VN c.ls recs ws phi (mkF mk d).list) f d (cK c ws g mv).1/\∃ M,(mkF mk d).list=mk.list++M:=by
 obtain ⟨a,b,e,x⟩:=iX hm w.frt hl
 obtain ⟨S,hS,hV⟩:=w.stk
 refine ⟨a,⟨w.fn,w.dfn,w.f0,w.fl,w.pc,w.p0,w.pl,?_,S,hS,?_⟩,x⟩
 ·rw [w.fn] at b;exact b
 ·exact e S [] (by unfold skP;rw [w.fn,hS];simp) hV
theorem ml (frm:List Int) (gs gs':List Fr):∀ m,a8 c frm (gs++gs') m=((a8 c frm gs m).1++(a8 c frm gs' (a8 c frm gs m).2).1,(a8 c frm gs' (a8 c frm gs m).2).2):=by
 induction gs with
 | nil=>intro m;simp [a8]
 | cons g gs ih=>intro m;simp [a8,ih]
theorem m6 (frm:List Int) (gs:List Fr):∀ m,(a8 c frm gs m).1.length=gs.length:=by
 induction gs with
 | nil=>intro m;simp [a8]
 | cons g gs ih=>intro m;simp [a8,ih]
theorem Bel.moved (hm:Mm c.ls recs ws phi) {k:Nat} {ds:List DFr} {gs:List Fr} {f:Int} (hb:Bel c (VR c.ls ws phi) ds gs f) {mk:Mk} {mv:Mv} (hl:Lk c.ls recs ws phi k mk mv) :
 Lk c.ls recs ws phi k (cL mk ds) (a8 c ws gs mv).2/\Bel c (VN c.ls recs ws phi (cL mk ds).list) ds (a8 c ws gs mv).1 f/\∃ M,(cL mk ds).list=mk.list++M:=by
 induction hb with
 | nil=>exact ⟨hl,.nil,[],by simp [cL]⟩
 | @snoc ds gs f h d g hb hw ih =>
  obtain ⟨a,b,e⟩:=ih
  obtain ⟨a',b',e'⟩:=hw.moved hm a
  have e1:cL mk (ds++[d])=mkF (cL mk ds) d:=by simp [cL]
  have e2:a8 c ws (gs++[g]) mv=((a8 c ws gs mv).1++[(cK c ws g (a8 c ws gs mv).2).1],(cK c ws g (a8 c ws gs mv).2).2):=by
   rw [ml];simp [a8]
  rw [e1,e2]
  exact ⟨a',.snoc (b.mono (fun _ _ _ x=>x.pre e')) b',dN e e'⟩
theorem nI (hm:Mm ls recs ws phi) {d o a:Nat} {t:Int} (hp:phi d=some a) (hs:St ls ws a t) {j:Nat} (hj:j < (ax ls t).length) {mk:Mk} {mv:Mv} (h:Lk ls recs ws phi (o+1+j) mk mv) (ho:aY recs mk.list d=some o) :
 Lk ls recs ws phi (o+1+j+1) (mkV mk ((recs.getD d []).getD j (0,false)))
  ⟨(mv1 ls ws ((ax ls t).getD j 0) (mv.to.getD (o+1+j) 0) mv).2.to.set (o+1+j) (mv1 ls ws ((ax ls t).getD j 0) (mv.to.getD (o+1+j) 0) mv).1,(mv1 ls ws ((ax ls t).getD j 0) (mv.to.getD (o+1+j) 0) mv).2.refs⟩ /\
 aY recs (mkV mk ((recs.getD d []).getD j (0,false))).list d=some o/\∃ M,(mkV mk ((recs.getD d []).getD j (0,false))).list=mk.list++M:=by
 obtain ⟨_,t',s',hv⟩:=hm.dom d a hp
 have:=hs.uniq s'
 subst this
 have hvr:=hv.get (i:=j) hj
 rw [gP hj] at hvr
 have hold:=((h.con d o a t ho hp hs).2 j hj).2 (Nat.le_refl _)
 rw [<-hold] at hvr
 obtain ⟨l1,l2,l3,T,l4⟩:=jG hm h hvr
 have hol:=ii ho
 have hsz:=hm.size hp hs
 have htl:=h.tl
 generalize mv1 ls ws ((ax ls t).getD j 0) (mv.to.getD (o+1+j) 0) mv=r at *
 generalize hmk:mkV mk ((recs.getD d []).getD j (0,false))=mk' at *
 have hod:aY recs mk'.list d=some o:=by obtain ⟨M,e⟩:=l3;rw [e];exact gN ho M
 have hlt:o+1+j < r.2.to.length:=by rw [l4,List.length_append];omega
 refine ⟨⟨l1.sl,l1.seen,l1.sc,l1.dom,l1.nd,l1.rl,l1.refs,by simpa using l1.tl,by simpa using l1.ms,by simp;omega,?_⟩,hod,l3⟩
 intro d' o' a' t' ho' hp' hs'
 obtain ⟨c1,c2⟩:=l1.con d' o' a' t' ho' hp' hs'
 have hsz':=hm.size hp' hs'
 have hposn:∀ i,i < (ax ls t').length->o'+1+i=o+1+j->d'=d/\i=j:=by
  intro i hi he
  rcases Nat.decEq d' d with hne | hq
  ·rcases eJ ho' hod hne with q | q <;> omega
  ·subst hq
   rw [hod] at ho';simp at ho';exact ⟨rfl,by omega⟩
 have hpos0:o' ≠ o+1+j:=by
  intro he
  rcases Nat.decEq d' d with hne | hq
  ·rcases eJ ho' hod hne with q | q <;> omega
  ·subst hq
   rw [hod] at ho';simp at ho';omega
 refine ⟨?_,fun i hi=>⟨fun hk=>?_,fun hk=>?_⟩⟩
 ·show (r.2.to.set (o+1+j) r.1).getD o' 0=t'
  rw [eG (fun x=>hpos0 x.symm)];exact c1
 ·show VN _ _ _ _ _ _ _ ((r.2.to.set (o+1+j) r.1).getD (o'+1+i) 0)
  by_cases he:o'+1+i=o+1+j
  ·obtain ⟨q1,q2⟩:=hposn i hi he
   subst q1;subst q2
   rw [hp] at hp';simp at hp';subst hp'
   have:=hs.uniq hs'
   subst this
   rw [he,iE hlt]
   exact l2
  ·rw [eG (fun x=>he x.symm)]
   exact (c2 i hi).1 (by omega)
 ·show (r.2.to.set (o+1+j) r.1).getD (o'+1+i) 0=_
  rw [eG (by omega)]
  exact (c2 i hi).2 (by omega)
theorem iz {l:List Int} {i:Nat}:l.set i (l.getD i 0)=l:=by
 apply List.ext_getElem?
 intro j
 by_cases h:i=j
 ·subst h
  by_cases hi:i < l.length
  ·rw [List.getElem?_set_self hi,List.getD_eq_getElem?_getD,List.getElem?_eq_getElem hi];rfl
  ·rw [List.getElem?_eq_none (by simp;omega),List.getElem?_eq_none (by omega)]
 ·rw [List.getElem?_set_ne h]
theorem ry {n k:Nat} {kinds:List Int} {r:Nat} {mv:Mv} (hk:k < mv.to.length) {kind:Int} (hkd:aW kinds ((kinds.length:Int) - ((r+1:Nat):Int))=kind) :
 mvW ls ws (n+1) k kinds (r+1) mv=mvW ls ws n (k+1) kinds r ⟨(mv1 ls ws kind (mv.to.getD k 0) mv).2.to.set k (mv1 ls ws kind (mv.to.getD k 0) mv).1,(mv1 ls ws kind (mv.to.getD k 0) mv).2.refs⟩:=by
 rw [mvW]
 rw [if_pos hk,if_neg (by omega),hkd]
 unfold mv1
 by_cases h:kind ≠ 0
 ·rw [if_pos h,if_pos h];rfl
 ·rw [if_neg h,if_neg h];simp only [iz];rfl
theorem mW (hm:Mm ls recs ws phi) {d o a:Nat} {t:Int} (hp:phi d=some a) (hs:St ls ws a t):∀ (r j n:Nat) {mk:Mk} {mv:Mv},j+r=(ax ls t).length->Lk ls recs ws phi (o+1+j) mk mv->aY recs mk.list d=some o ->
 ∃ mv',mvW ls ws (n+r) (o+1+j) (ax ls t) r mv=mvW ls ws n (o+1+(ax ls t).length) (ax ls t) 0 mv'/\Lk ls recs ws phi (o+1+(ax ls t).length) (mkA mk ((recs.getD d []).drop j)) mv'/\∃ M,(mkA mk ((recs.getD d []).drop j)).list=mk.list++M:=by
 intro r
 induction r with
 | zero =>
  intro j n mk mv hj h ho
  have hdl:(recs.getD d []).drop j=[]:=by
   have:=hm.size hp hs
   unfold sz at this
   exact List.drop_eq_nil_of_le (by omega)
  rw [hdl]
  have:j=(ax ls t).length:=by omega
  subst this
  exact ⟨mv,rfl,h,[],by simp [mkA]⟩
 | succ r ih =>
  intro j n mk mv hj h ho
  have hjl:j < (ax ls t).length:=by omega
  have hsz:=hm.size hp hs
  have hol:=ii ho
  have htl:=h.tl
  have hkd:aW (ax ls t) (((ax ls t).length:Int) - ((r+1:Nat):Int))=(ax ls t).getD j 0:=by
   rw [cR (by omega) (by omega)];congr 1;omega
  obtain ⟨l1,l2,l3⟩:=nI hm hp hs hjl h ho
  have hdr:(recs.getD d []).drop j=(recs.getD d []).getD j (0,false)::(recs.getD d []).drop (j+1):=by
   have hlt:j < (recs.getD d []).length:=by unfold sz at hsz;omega
   generalize recs.getD d []=l at hlt
   rw [List.drop_eq_getElem_cons hlt,List.getD_eq_getElem?_getD,List.getElem?_eq_getElem hlt];rfl
  obtain ⟨mv',q1,q2,q3⟩:=ih (j+1) n (by omega) l1 l2
  refine ⟨mv',?_,?_,?_⟩
  ·rw [show n+(r+1)=n+r+1 by omega,ry (by omega) hkd];exact q1
  ·rw [hdr];exact q2
  ·rw [hdr];exact dN l3 q3
theorem mV (hm:Mm ls recs ws phi):∀ (kf i n:Nat) {mk:Mk} {mv:Mv} {kinds:List Int},i<=mk.list.length->recs.length<=kf+i->ws.length<=n+tot recs (mk.list.take i)->Lk ls recs ws phi (tot recs (mk.list.take i)) mk mv ->
 ∃ mkf,Lk ls recs ws phi (tot recs mkf.list) mkf (mvW ls ws n (tot recs (mk.list.take i)) kinds 0 mv)/\lvW recs kf i mk (tot recs (mk.list.take i))=tot recs mkf.list/\(∃ M,mkf.list=mk.list++M):=by
 intro kf
 induction kf with
 | zero =>
  intro i n mk mv kinds hi hk hn h
  have hc:mk.list.length<=recs.length:=by rw [<-h.sc,<-h.sl];exact List.countP_le_length
  have he:i=mk.list.length:=by omega
  subst he
  rw [List.take_length] at h ⊢
  have:mvW ls ws n (tot recs mk.list) kinds 0 mv=mv:=by
   cases n with
   | zero=>rfl
   | succ n=>rw [mvW,if_neg (by rw [h.tl];omega)]
  rw [this]
  exact ⟨mk,h,rfl,[],by simp⟩
 | succ kf ih =>
  intro i n mk mv kinds hi hk hn h
  have hc:mk.list.length<=recs.length:=by rw [<-h.sc,<-h.sl];exact List.countP_le_length
  by_cases hil:i < mk.list.length
  ·obtain ⟨d,hd⟩:∃ d,mk.list[i]=d:=⟨_,rfl⟩
   have hsplit:mk.list=mk.list.take i++d::mk.list.drop (i+1):=by
    conv=>lhs;rw [<-List.take_append_drop i mk.list,List.drop_eq_getElem_cons hil,hd]
   have hdn:d ∉ mk.list.take i:=by
    have hnd:=h.nd
    rw [hsplit] at hnd
    have:=(List.nodup_append.1 hnd).2.2
    intro hx
    exact this d hx d (by simp) rfl
   have ho:aY recs mk.list d=some (tot recs (mk.list.take i)):=by
    conv=>lhs;rw [hsplit]
    exact lS hdn _
   have hmem:d ∈ mk.list:=by rw [hsplit];simp
   obtain ⟨a,hp⟩:=h.dom d hmem
   obtain ⟨_,t,hs,hv⟩:=hm.dom d a hp
   have hsz:=hm.size hp hs
   have hol:=ii ho
   have htl:=h.tl
   have hle:=h.le hm
   obtain ⟨c1,c2⟩:=h.con d _ a t ho hp hs
   generalize hO:tot recs (mk.list.take i)=o at *
   obtain ⟨n',rfl⟩:∃ n',n=n'+(ax ls t).length+1:=⟨n - (ax ls t).length - 1,by omega⟩
   have hl1:Lk ls recs ws phi (o+1+0) mk mv:=by
    refine ⟨h.sl,h.seen,h.sc,h.dom,h.nd,h.rl,h.refs,h.tl,h.ms,by omega,?_⟩
    intro d' o' a' t' ho' hp' hs'
    obtain ⟨x1,x2⟩:=h.con d' o' a' t' ho' hp' hs'
    have hsz':=hm.size hp' hs'
    refine ⟨x1,fun j hj=>⟨fun hk=>?_,fun hk=>(x2 j hj).2 (by omega)⟩⟩
    refine (x2 j hj).1 ?_
    rcases Nat.lt_or_ge (o'+1+j) o with hlt | hge
    ·exact hlt
    ·exfalso
     have heq:o'+1+j=o:=by omega
     rcases Nat.decEq d' d with hne | hq
     ·rcases eJ ho' ho hne with q | q <;> omega
     ·subst hq;rw [ho] at ho';simp at ho';omega
   obtain ⟨mv',q1,q2,q3⟩:=mW hm hp hs (ax ls t).length 0 n' (by omega) hl1 ho
   simp only [List.drop_zero] at q1 q2 q3
   have e1:mvW ls ws (n'+(ax ls t).length+1) o kinds 0 mv=mvW ls ws (n'+(ax ls t).length) (o+1) (ax ls t) (ax ls t).length mv:=by
    rw [mvW,if_pos (by omega),if_pos rfl,c1]
   have hdg:mk.list.getD i 0=d:=by rw [List.getD_eq_getElem?_getD,List.getElem?_eq_getElem hil,hd];rfl
   have e2:lvW recs (kf+1) i mk o=lvW recs kf (i+1) (mkA mk (recs.getD d [])) (o+1+(recs.getD d []).length):=by
    rw [lvW,if_pos hil,hdg]
   obtain ⟨M,hM⟩:=q3
   have htk:tot recs ((mkA mk (recs.getD d [])).list.take (i+1))=o+1+(ax ls t).length:=by
    rw [hM,List.take_append_of_le_length (by omega),List.take_succ_eq_append_getElem hil,l9,hO,hd]
    simp [tot];omega
   have:=ih (i+1) n' (kinds:=ax ls t) (mk:=mkA mk (recs.getD d [])) (mv:=mv') (by rw [hM];simp;omega) (by omega) (by rw [htk];omega) (by rw [htk];exact q2)
   obtain ⟨mkf,z1,z2,z3⟩:=this
   refine ⟨mkf,?_,?_,dN ⟨M,hM⟩ z3⟩
   ·rw [e1,show o+1=o+1+0 by rfl,q1];rw [htk] at z1;exact z1
   ·rw [e2];rw [htk] at z2
    rw [show o+1+(recs.getD d []).length=o+1+(ax ls t).length by unfold sz at hsz;omega];exact z2
  ·have he:i=mk.list.length:=by omega
   subst he
   rw [List.take_length] at h ⊢
   have e1:mvW ls ws n (tot recs mk.list) kinds 0 mv=mv:=by
    cases n with
    | zero=>rfl
    | succ n=>rw [mvW,if_neg (by rw [h.tl];omega)]
   have e2:lvW recs (kf+1) mk.list.length mk (tot recs mk.list)=tot recs mk.list:=by rw [lvW,if_neg (by omega)]
   rw [e1,e2]
   exact ⟨mk,h,rfl,[],by simp⟩
end
end Go.Proofs.Ytnfnbcbadakofaa
namespace Go.Proofs.Ytnfnbcbadakofaa
open Go.RowKit
theorem tB {ls:List (List Int)} {recs:List (List (Int × Bool))} {ty:Nat->Int}:∀ {L:List Nat} {to:List Int},L.Nodup->to.length=tot recs L->(∀ d ∈ L,sz recs d=1+(ax ls (ty d)).length)->(∀ d o,aY recs L d=some o->to.getD o 0=ty d) ->
 bC ls 0 to=0/\∀ a t,St ls to a t ↔ ∃ d,aY recs L d=some a/\t=ty d:=by
 intro L
 induction L with
 | nil =>
  intro to _ hl _ _
  have:to=[]:=List.eq_nil_of_length_eq_zero (by simpa [tot] using hl)
  subst this
  exact ⟨rfl,fun a t=>by simp [St,bd,aY]⟩
 | cons e L ih =>
  intro to hnd hl hz hc
  have hze:=hz e (by simp)
  obtain ⟨hne,hnd'⟩:=List.nodup_cons.1 hnd
  simp only [tot] at hl
  have h0:=hc e 0 (by simp [aY])
  cases to with
  | nil=>simp at hl;omega
  | cons x to =>
   simp at h0
   subst h0
   simp only [List.length_cons] at hl
   have hsk:=fW ls (to.take (ax ls (ty e)).length) (ax ls (ty e)).length (by rw [List.length_take];omega)
   have htl:(to.take (ax ls (ty e)).length).length=(ax ls (ty e)).length:=by rw [List.length_take];omega
   rw [htl] at hsk
   have eto:to=to.take (ax ls (ty e)).length++to.drop (ax ls (ty e)).length:=(List.take_append_drop _ _).symm
   have hih:=ih (to:=to.drop (ax ls (ty e)).length) hnd' (by rw [List.length_drop];omega) (fun d hd=>hz d (by simp [hd])) (by
    intro d o ho
    have hde:e ≠ d:=fun q=>hne (by
     subst q
     rcases Classical.em (e ∈ L) with z | z
     ·exact z
     ·rw [(cN _ _).2 z] at ho;cases ho)
    have:=hc d (o+sz recs e) (by simp [aY,hde,ho])
    rw [hze] at this
    rw [List.getD_eq_getElem?_getD,List.getElem?_drop,<-List.getD_eq_getElem?_getD]
    rw [show o+(1+(ax ls (ty e)).length)=((ax ls (ty e)).length+o)+1 by omega] at this
    simpa using this)
   have er:bd ls 0 (ty e::to)=some (ty e)::(List.replicate (ax ls (ty e)).length none++bd ls 0 (to.drop (ax ls (ty e)).length)):=by
    rw [bd]
    congr 1
    conv=>lhs;rw [eto]
    rw [ie,hsk.1,hsk.2,Nat.sub_self]
   have ee:bC ls 0 (ty e::to)=bC ls 0 (to.drop (ax ls (ty e)).length):=by
    rw [bC]
    conv=>lhs;rw [eto]
    rw [ir,hsk.2,Nat.sub_self]
   refine ⟨by rw [ee];exact hih.1,fun a t=>?_⟩
   unfold St
   rw [er]
   rcases Nat.lt_trichotomy a 0 with h | h | h
   ·omega
   ·subst h
    constructor
    ·intro q;simp at q;exact ⟨e,by simp [aY],q.symm⟩
    ·rintro ⟨d,q1,q2⟩
     simp only [aY] at q1
     by_cases hd:e=d
     ·subst hd;simp [q2]
     ·rw [if_neg hd] at q1
      cases ho:aY recs L d with
      | none=>rw [ho] at q1;cases q1
      | some o=>rw [ho] at q1;simp at q1;omega
   ·obtain ⟨b,rfl⟩:∃ b,a=b+1:=⟨a - 1,by omega⟩
    rw [List.getElem?_cons_succ]
    rcases Nat.lt_or_ge b (ax ls (ty e)).length with hb | hb
    ·rw [List.getElem?_append_left (by simpa using hb),List.getElem?_replicate_of_lt hb]
     constructor
     ·intro q;simp at q
     ·rintro ⟨d,q1,q2⟩
      simp only [aY] at q1
      by_cases hd:e=d
      ·rw [if_pos hd] at q1;simp at q1
      ·rw [if_neg hd] at q1
       cases ho:aY recs L d with
       | none=>rw [ho] at q1;cases q1
       | some o=>rw [ho] at q1;simp at q1;omega
    ·rw [List.getElem?_append_right (by simpa using hb),List.length_replicate]
     have:=hih.2 (b - (ax ls (ty e)).length) t
     unfold St at this
     rw [this]
     constructor
     ·rintro ⟨d,q1,q2⟩
      refine ⟨d,?_,q2⟩
      have hde:e ≠ d:=fun q=>hne (by
       subst q
       rcases Classical.em (e ∈ L) with z | z
       ·exact z
       ·rw [(cN _ _).2 z] at q1;cases q1)
      simp only [aY]
      rw [if_neg hde,q1];simp;omega
     ·rintro ⟨d,q1,q2⟩
      refine ⟨d,?_,q2⟩
      simp only [aY] at q1
      by_cases hd:e=d
      ·rw [if_pos hd] at q1;simp at q1
      ·rw [if_neg hd] at q1
       cases ho:aY recs L d with
       | none=>rw [ho] at q1;cases q1
       | some o=>rw [ho] at q1;simp at q1;simp;omega
section
variable {ls:List (List Int)} {recs:List (List (Int × Bool))} {ws:List Int} {phi:Nat->Option Nat}
theorem tC {P:Int->Int × Bool->Int->Prop} {ks:List Int} {ds:List (Int × Bool)} {vs:List Int} (h1:ds.length=ks.length) (h2:vs.length=ks.length) (h:∀ i,i < ks.length->P (ks.getD i 0) (ds.getD i (0,false)) (vs.getD i 0)):VL P ks ds vs:=by
 induction ks generalizing ds vs with
 | nil =>
  have:ds=[]:=List.eq_nil_of_length_eq_zero h1
  have:vs=[]:=List.eq_nil_of_length_eq_zero h2
  subst_vars;exact .nil
 | cons k ks ih =>
  cases ds with
  | nil=>simp at h1
  | cons d ds =>
   cases vs with
   | nil=>simp at h2
   | cons v vs =>
    refine .cons (by simpa using h 0 (by simp)) (ih (by simpa using h1) (by simpa using h2) (fun i hi=>?_))
    simpa using h (i+1) (by simpa using hi)
theorem Lk.done (hm:Mm ls recs ws phi) {mk:Mk} {mv:Mv} (h:Lk ls recs ws phi (tot recs mk.list) mk mv) :
 Mm ls recs mv.to (aY recs mk.list)/\∀ k d v,VN ls recs ws phi mk.list k d v->VR ls mv.to (aY recs mk.list) k d v:=by
 have hty:∀ d a t,phi d=some a->St ls ws a t->ws.getD ((phi d).getD 0) 0=t:=by
  intro d a t hp hs
  rw [hp]
  have:=(hs.val hm.full).1
  rw [List.getD_eq_getElem?_getD];simp [this]
 have hmem:∀ d o,aY recs mk.list d=some o->d ∈ mk.list:=by
  intro d o ho
  rcases Classical.em (d ∈ mk.list) with z | z
  ·exact z
  ·rw [(cN _ _).2 z] at ho;cases ho
 have hall:∀ d o,aY recs mk.list d=some o->∃ a t,phi d=some a/\St ls ws a t/\d < recs.length/\sz recs d=1+(ax ls t).length:=by
  intro d o ho
  obtain ⟨a,hp⟩:=h.dom d (hmem d o ho)
  obtain ⟨hl,t,hs,_⟩:=hm.dom d a hp
  exact ⟨a,t,hp,hs,hl,hm.size hp hs⟩
 obtain ⟨r1,r2⟩:=tB (ls:=ls) (recs:=recs) (ty:=fun d=>ws.getD ((phi d).getD 0) 0) h.nd h.tl (by
  intro d hd
  obtain ⟨o,ho⟩:=qH (recs:=recs) hd
  obtain ⟨a,t,hp,hs,_,hz⟩:=hall d o ho
  rw [hty d a t hp hs];exact hz) (by
  intro d o ho
  obtain ⟨a,t,hp,hs,_,_⟩:=hall d o ho
  rw [hty d a t hp hs]
  exact (h.con d o a t ho hp hs).1)
 have hconv:∀ k d v,VN ls recs ws phi mk.list k d v->VR ls mv.to (aY recs mk.list) k d v:=by
  intro k d v hv
  rcases hv with hv | ⟨k0,d2,hv | ⟨e,o,a,x,y,z,p,s⟩⟩
  ·exact .inl hv
  ·exact .inr ⟨k0,d2,.inl hv⟩
  ·exact .inr ⟨k0,d2,.inr ⟨e,o,x,y,z,(r2 o k).2 ⟨e,z,(hty e a k p s).symm⟩⟩⟩
 refine ⟨⟨r1,?_,fun d d' a=>qO,?_,?_⟩,hconv⟩
 ·intro a t hs
  obtain ⟨d,ho,ht⟩:=(r2 a t).1 hs
  obtain ⟨a',t',hp,hs',_,_⟩:=hall d a ho
  rw [hty d a' t' hp hs'] at ht
  subst ht
  exact hm.typ _ _ hs'
 ·intro d o ho
  obtain ⟨a,t,hp,hs,hl,hz⟩:=hall d o ho
  refine ⟨hl,t,(r2 o t).2 ⟨d,ho,(hty d a t hp hs).symm⟩,?_⟩
  have hlt:=ii ho
  have htl:=h.tl
  unfold sz at hz hlt
  refine tC (by omega) ?_ (fun i hi=>?_)
  ·unfold seg;rw [List.length_take,List.length_drop];omega
  ·rw [gP hi]
   exact hconv _ _ _ (((h.con d o a t ho hp hs).2 i hi).1 (by omega))
 ·intro a t hs
  obtain ⟨d,ho,_⟩:=(r2 a t).1 hs
  exact ⟨d,ho⟩
theorem Lk.start:Lk ls recs ws phi 0 ⟨List.replicate recs.length false,[]⟩ ⟨[],List.replicate ws.length 0⟩:=by
 refine ⟨by simp,?_,?_,by simp,by simp,by simp,?_,rfl,?_,Nat.zero_le _,?_⟩
 ·intro d hd
  rw [List.getD_eq_getElem?_getD,List.getElem?_replicate_of_lt hd];simp
 ·simp [List.countP_replicate]
 ·intro d a _
  refine .inl ⟨?_,rfl⟩
  rw [List.getD_eq_getElem?_getD]
  by_cases h:a < ws.length
  ·rw [List.getElem?_replicate_of_lt h];rfl
  ·rw [List.getElem?_eq_none (by simp;omega)];rfl
 ·rw [nD];rfl
 ·intro d o a t ho;simp [aY] at ho
end
theorem gK {c:Cx} {D:Dn} {R:Rn} {phi:Nat->Option Nat} (h:Sm c D R phi) (hst:D.status=0 \/ D.status=2):(∃ phi',Sm c D (ce c R) phi')/\(bB D:Nat)=(ce c R).words.length/\(ce c R).words.length<=R.words.length/\(ce c R).below.length=R.below.length:=by
 obtain ⟨f,hb,ht⟩:=h.fr
 have l0:=Lk.start (ls:=c.ls) (recs:=D.recs) (ws:=R.words) (phi:=phi)
 obtain ⟨l1,b1,p1⟩:=hb.moved h.mem l0
 obtain ⟨l2,t2,p2⟩:=ht.moved h.mem l1
 have e1:mkF (cL ⟨List.replicate D.recs.length false,[]⟩ D.below) D.top=cL ⟨List.replicate D.recs.length false,[]⟩ (aB D):=by
  unfold aB;rw [if_pos hst];simp [cL]
 have e2:mvA c R=(((a8 c R.words R.below ⟨[],List.replicate R.words.length 0⟩).1,(cK c R.words R.top (a8 c R.words R.below ⟨[],List.replicate R.words.length 0⟩).2).1),mvW c.ls R.words (6 * R.words.length) 0 [] 0 (cK c R.words R.top (a8 c R.words R.below ⟨[],List.replicate R.words.length 0⟩).2).2):=rfl
 rw [e1] at l2 t2 p2
 obtain ⟨mkf,z1,z2,z3⟩:=mV h.mem (D.recs.length+1) 0 (6 * R.words.length) (kinds:=[]) (Nat.zero_le _) (by omega) (by simp [tot];omega) (by simpa [tot] using l2)
 simp only [List.take_zero,tot] at z1 z2
 obtain ⟨m1,m2⟩:=z1.done h.mem
 have hw:(ce c R).words=(mvW c.ls R.words (6 * R.words.length) 0 [] 0 (cK c R.words R.top (a8 c R.words R.below ⟨[],List.replicate R.words.length 0⟩).2).2).to:=rfl
 have hle:(ce c R).words.length<=R.words.length:=by rw [hw];exact z1.le h.mem
 have hbl:(ce c R).below.length=R.below.length:=m6 _ _ _
 refine ⟨⟨aY D.recs mkf.list,h.h0,h.h4,h.d1,h.d64,h.heap,h.depth,m1,?_,?_,f,?_,?_⟩,?_,hle,hbl⟩
 ·have:=h.len
  show ((ce c R).words.length:Int)<=R.heap
  omega
 ·show ((ce c R).below.length:Int)+1<=R.depth
  rw [hbl];exact h.bl
 ·exact b1.mono (fun k d v x=>m2 _ _ _ ((x.pre p2).pre z3))
 ·exact t2.mono (fun k d v x=>m2 _ _ _ (x.pre z3))
 ·unfold bB
  rw [z2,hw,z1.tl]
section
variable {c:Cx} {D:Dn} {R:Rn} {phi:Nat->Option Nat} {f:Int} {op A B:Int} {rest:List Int}
theorem jV (h:Cu c D R phi f (7,A,B) rest) (s0:D.status=0) (s0':R.status=0) (ho:D.out=R.out) (hu:D.used=R.used) {D':Dn} {R':Rn} (hd:D'=ao D) (hroom:(R.words.length:Int)+((ax c.ls A).length:Int)+1<=R.heap)
 (hR:R'=gH (dz c A R)):Nx c D R { D' with recs:=D'.recs++[D'.top.stack.drop (D'.top.stack.length - (ax c.ls A).length)],top:={ D'.top with stack:=D'.top.stack.take (D'.top.stack.length - (ax c.ls A).length)++[((D'.recs.length:Int)+1,true)] } } R':=by
 have hi:=h.iok
 simp only [cJ,bA] at hi
 have hA1:1<=A:=by have:=hi.2.1.1;simpa using this
 have hA2:A<=(c.ls.length:Int):=by have:=hi.2.1.2;simpa using this
 have e:ak c.ls c.fs (aq c.fs f) 7 A B=ax c.ls A:=by simp [ak]
 have hs:=h.stk
 simp only [e] at hs
 obtain ⟨h1,h2⟩:=hs.split
 have hl:=hs.len
 rw [List.length_append] at hl
 obtain ⟨q1,q2⟩:=lX (S:=R.top.stack) (n:=(ax c.ls A).length) (by omega)
 subst hd;subst hR
 have eR:dz c A R = { R with words:=R.words++A::R.top.stack.drop rest.length,top:={ R.top with stack:=R.top.stack.take rest.length++[(R.words.length:Int)+1] } }:=by
  unfold dz;rw [if_neg (by omega),q1,q2,show R.top.stack.length - (ax c.ls A).length=rest.length by omega]
 rw [eR]
 have ed:(ao D).top.stack.length - (ax c.ls A).length=rest.length:=by show D.top.stack.length - _=_;omega
 rw [ed]
 obtain ⟨r1,r2⟩:=nW h.sm.mem.full A (R.top.stack.drop rest.length) (by rw [List.length_drop];omega)
 have hrl:=fT c.ls R.words 0
 have st1:∀ a t,St c.ls R.words a t->St c.ls (R.words++A::R.top.stack.drop rest.length) a t:=by
  intro a t q;unfold St at q ⊢;rw [r1]
  have:a < (bd c.ls 0 R.words).length:=by
   rcases Nat.lt_or_ge a (bd c.ls 0 R.words).length with z | z
   ·exact z
   ·rw [List.getElem?_eq_none z] at q;cases q
  rw [List.getElem?_append_left this];exact q
 have st0:St c.ls (R.words++A::R.top.stack.drop rest.length) R.words.length A:=by
  unfold St;rw [r1,List.getElem?_append_right (by omega),hrl];simp
 have st2:∀ a t,St c.ls (R.words++A::R.top.stack.drop rest.length) a t->St c.ls R.words a t \/ (a=R.words.length/\t=A):=by
  intro a t q
  unfold St at q ⊢
  rw [r1] at q
  rcases Nat.lt_or_ge a R.words.length with z | z
  ·rw [List.getElem?_append_left (by omega)] at q;exact .inl q
  ·rw [List.getElem?_append_right (by omega),hrl] at q
   cases hx:a - R.words.length with
   | zero=>rw [hx] at q;simp at q;exact .inr ⟨by omega,q.symm⟩
   | succ n =>
    rw [hx,List.getElem?_cons_succ] at q
    rcases Nat.lt_or_ge n (R.top.stack.drop rest.length).length with y | y
    ·rw [List.getElem?_replicate_of_lt y] at q;simp at q
    ·rw [List.getElem?_eq_none (by rw [List.length_replicate];exact y)] at q;cases q
 have hphi:∀ d a,phi d=some a->d < D.recs.length/\a < R.words.length:=by
  intro d a hp
  obtain ⟨x,t,s,_⟩:=h.sm.mem.dom d a hp
  have:=(s.val h.sm.mem.full).2.1
  exact ⟨x,by omega⟩
 have hp':∀ d a,phi d=some a->(fun d=>if d=D.recs.length then some R.words.length else phi d) d=some a:=by
  intro d a hp
  have:=(hphi d a hp).1
  show (if d=D.recs.length then some R.words.length else phi d)=some a
  rw [if_neg (by omega)];exact hp
 have hmono:=Mm.vr_mono (ls:=c.ls) (phi:=phi) (phi':=fun d=>if d=D.recs.length then some R.words.length else phi d) st1 hp'
 have hmm:Mm c.ls (D.recs++[D.top.stack.drop rest.length]) (R.words++A::R.top.stack.drop rest.length) (fun d=>if d=D.recs.length then some R.words.length else phi d):=by
  refine ⟨r2,?_,?_,?_,?_⟩
  ·intro a t q
   rcases st2 a t q with q | ⟨_,rfl⟩
   ·exact h.sm.mem.typ a t q
   ·exact ⟨hA1,hA2⟩
  ·intro d d' a x y
   by_cases hd:d=D.recs.length <;> by_cases hd':d'=D.recs.length
   ·rw [hd,hd']
   ·rw [if_pos hd] at x;rw [if_neg hd'] at y
    simp at x;have:=(hphi _ _ y).2;omega
   ·rw [if_neg hd] at x;rw [if_pos hd'] at y
    simp at y;have:=(hphi _ _ x).2;omega
   ·rw [if_neg hd] at x;rw [if_neg hd'] at y
    exact h.sm.mem.inj _ _ _ x y
  ·intro d a x
   by_cases hd:d=D.recs.length
   ·rw [if_pos hd] at x
    simp at x;subst x;subst hd
    refine ⟨by simp,A,st0,?_⟩
    have ex:(D.recs++[D.top.stack.drop rest.length]).getD D.recs.length []=D.top.stack.drop rest.length:=by
     rw [List.getD_eq_getElem?_getD,List.getElem?_append_right (Nat.le_refl _)];simp
    have ey:seg (R.words++A::R.top.stack.drop rest.length) R.words.length (ax c.ls A).length=R.top.stack.drop rest.length:=by
     unfold seg
     rw [show R.words++A::R.top.stack.drop rest.length=(R.words++[A])++R.top.stack.drop rest.length by simp,List.drop_left' (by simp),List.take_of_length_le (by rw [List.length_drop];omega)]
    rw [ex,ey]
    exact h2.mono hmono
   ·rw [if_neg hd] at x
    obtain ⟨x1,t,s,hv⟩:=h.sm.mem.dom d a x
    have hw:=(s.val h.sm.mem.full).2.1
    refine ⟨by simp;omega,t,st1 _ _ s,?_⟩
    have ex:(D.recs++[D.top.stack.drop rest.length]).getD d []=D.recs.getD d []:=by
     rw [List.getD_eq_getElem?_getD,List.getElem?_append_left x1,List.getD_eq_getElem?_getD]
    have ey:seg (R.words++A::R.top.stack.drop rest.length) a (ax c.ls t).length=seg R.words a (ax c.ls t).length:=by
     apply List.ext_getElem?
     intro i
     unfold seg
     by_cases hi:i < (ax c.ls t).length
     ·rw [List.getElem?_take_of_lt hi,List.getElem?_take_of_lt hi,List.getElem?_drop,List.getElem?_drop,List.getElem?_append_left (by omega)]
     ·rw [List.getElem?_take_eq_none (by omega),List.getElem?_take_eq_none (by omega)]
    rw [ex,ey]
    exact hv.mono hmono
  ·intro a t q
   rcases st2 a t q with q | ⟨rfl,rfl⟩
   ·obtain ⟨d,hd⟩:=h.sm.mem.sur a t q
    exact ⟨d,hp' d a hd⟩
   ·exact ⟨D.recs.length,by simp⟩
 have hwy:=h.way _ (eM (op:=7) (A:=A) (i:=R.top.pc.toNat) (by decide) (by decide))
 rw [h.pc] at hwy
 have eb:ag c.ls c.fs (aq c.fs f) 7 A B=[A]:=by simp [ag]
 simp only [eb] at hwy
 refine ⟨?_,ho,hu,rfl,⟨rfl,rfl,rfl,rfl⟩,fun _=>⟨_,h.sm.h0,h.sm.h4,h.sm.d1,h.sm.d64,h.sm.heap,h.sm.depth,hmm,?_,h.sm.bl,f,h.bel.mono hmono,?_⟩,.inl s0'⟩
 ·show D.status=R.status
  rw [s0,s0']
 ·show (((R.words++A::R.top.stack.drop rest.length).length:Nat):Int)<=R.heap
  rw [List.length_append,List.length_cons,List.length_drop];omega
 ·refine ⟨h.tp.fn,h.tp.dfn,h.tp.f0,h.tp.fl,?_,hwy.1,hwy.2.1,h.tp.loc.mono hmono,_,hwy.2.2,?_⟩
  ·show D.top.pc+1=R.top.pc+1
   rw [h.tp.pc]
  ·refine VL.app (h1.mono hmono) (.one (.inr ⟨by omega,rfl,.inr ⟨D.recs.length,R.words.length,rfl,rfl,?_,st0⟩⟩))
   simp
theorem Sm.inc {c:Cx} {D:Dn} {R:Rn} {phi:Nat->Option Nat} {f:Int} {x:Int × Int × Int} {rest:List Int} (_h:Cu c D R phi f x rest) {R':Rn} {phi':Nat->Option Nat} (hs:Sm c D R' phi') (hfn:R'.top.fn=R.top.fn) (hpc:R'.top.pc=R.top.pc) (ok:bQ c):∃ rest',Cu c D R' phi' f x rest':=by
 obtain ⟨f',x',rest',hc,hx,_⟩:=hs.cu ok
 have e1:f'=f:=by rw [<-hc.tp.fn,hfn,_h.tp.fn]
 subst e1
 have e2:x'=x:=by rw [<-hc.ins,hpc,_h.ins]
 subst e2
 exact ⟨rest',hc⟩
theorem pM (ok:bQ c) (h:Cu c D R phi f (7,A,B) rest) (s0:D.status=0) (s0':R.status=0) (ho:D.out=R.out) (hu:D.used=R.used):Nx c D R (aO c R.inp (7,A,B) D) (doP c (7,A,B) R):=by
 obtain ⟨⟨phi',hs'⟩,hlv,hle,_⟩:=gK h.sm (.inl s0)
 have ed:aO c R.inp (7,A,B) D=(if (ao D).heap < (bB (ao D):Int)+1+((ax c.ls A).length:Int) then { ao D with status:=4 } else { ao D with recs:=(ao D).recs++[(ao D).top.stack.drop ((ao D).top.stack.length - (ax c.ls A).length)],top:={ (ao D).top with stack:=(ao D).top.stack.take ((ao D).top.stack.length - (ax c.ls A).length)++[(((ao D).recs.length:Int)+1,true)] } }):=rfl
 have er:doP c (7,A,B) R=gH (dz c A (if R.heap < (R.words.length:Int)+((ax c.ls A).length:Int)+1 then ce c R else R)):=rfl
 have elv:bB (ao D)=bB D:=by
  have hf:aB (ao D)=D.below++[(ao D).top]:=by unfold aB;rw [if_pos (.inl s0)];rfl
  have hf':aB D=D.below++[D.top]:=by unfold aB;rw [if_pos (.inl s0)]
  unfold bB
  rw [hf,hf']
  show lvW D.recs _ 0 (cL _ (D.below++[(ao D).top])) 0=_
  have:cL ⟨List.replicate D.recs.length false,[]⟩ (D.below++[(ao D).top])=cL ⟨List.replicate D.recs.length false,[]⟩ (D.below++[D.top]):=by
   unfold cL;rw [List.foldl_append,List.foldl_append];rfl
  show lvW D.recs (D.recs.length+1) 0 (cL ⟨List.replicate D.recs.length false,[]⟩ (D.below++[(ao D).top])) 0=_
  rw [this]
 have hh:(ao D).heap=R.heap:=h.sm.heap
 rw [ed,er,elv]
 by_cases hroom:R.heap < (R.words.length:Int)+((ax c.ls A).length:Int)+1
 ·rw [if_pos hroom]
  by_cases hfull:R.heap < ((ce c R).words.length:Int)+((ax c.ls A).length:Int)+1
  ·rw [if_pos (by rw [hh,hlv];omega)]
   have:dz c A (ce c R) = { ce c R with status:=4 }:=by unfold dz;exact if_pos hfull
   rw [this]
   exact h.end (s:=4) (by omega) rfl rfl ho hu rfl ⟨rfl,rfl,rfl,rfl⟩
  ·rw [if_neg (by rw [hh,hlv];omega)]
   obtain ⟨rest',hc⟩:=Sm.inc h hs' rfl rfl ok
   have:=jV (D':=ao D) (R':=gH (dz c A (ce c R))) hc s0 s0' ho hu rfl (by show _<=R.heap;omega) rfl
   exact ⟨this.st,this.out,this.used,this.inp,this.hp,this.go,this.ends⟩
 ·rw [if_neg hroom,if_neg (by rw [hh,hlv];omega)]
  exact jV h s0 s0' ho hu rfl (by omega) rfl
theorem gZ {x:Int × Int × Int} (ok:bQ c) (h:Cu c D R phi f x rest) (s0:D.status=0) (s0':R.status=0) (ho:D.out=R.out) (hu:D.used=R.used):Nx c D R (aO c R.inp x D) (doP c x R):=by
 obtain ⟨op,A,B⟩:=x
 have hop:=h.iok.1
 simp only at hop
 obtain ⟨n,rfl⟩:∃ n:Nat,op=(n:Int):=⟨op.toNat,by omega⟩
 have hn:n<=18:=by omega
 rcases n with _ | _ | _ | _ | _ | _ | _ | _ | _ | _ | _ | _ | _ | _ | _ | _ | _ | _ | _ | n
 ·exact mw h s0 s0' ho hu
 ·exact fR h (by simp) s0 s0' ho hu
 ·exact fR h (by simp) s0 s0' ho hu
 ·exact fR h (by simp) s0 s0' ho hu
 ·exact fR h (by simp) s0 s0' ho hu
 ·exact mB h s0 s0' ho hu
 ·exact kJ h s0 s0' ho hu
 ·exact pM ok h s0 s0' ho hu
 ·exact pn h s0 s0' ho hu
 ·exact oS h s0 s0' ho hu
 ·exact mC h s0 s0' ho hu
 ·exact qW h s0 s0' ho hu
 ·exact m9 h s0 s0' ho hu
 ·exact mn h s0 s0' ho hu
 ·exact mP h s0 s0' ho hu
 ·exact mQ ok h s0 s0' ho hu
 ·exact pr ok h s0 s0' ho hu
 ·exact kt h s0 s0' ho hu
 ·exact np h s0 s0' ho hu
 ·omega
end
end Go.Proofs.Ytnfnbcbadakofaa
namespace Go.Proofs.Ytnfnbcbadakofaa
open Go.RowKit
structure Rel (c:Cx) (D:Dn) (R:Rn):Prop where
 heap:D.heap=R.heap
 depth:D.depth=R.depth
 h0:0<=R.heap
 h4:R.heap<=4000
 d1:1<=R.depth
 d64:R.depth<=64
 st:(R.status=0/\(D.status=0 \/ D.status=2)/\∃ phi,Sm c D R phi) \/ ((R.status=1 \/ R.status=3 \/ R.status=4 \/ R.status=5)/\D.status=R.status)
theorem Sm.out {c:Cx} {D:Dn} {R:Rn} {phi:Nat->Option Nat} (h:Sm c D R phi) {D':Dn} {R':Rn} (e1:D'.heap=D.heap) (e2:D'.depth=D.depth) (e3:D'.below=D.below) (e4:D'.top=D.top) (e5:D'.recs=D.recs) (f1:R'.heap=R.heap) (f2:R'.depth=R.depth) (f3:R'.below=R.below) (f4:R'.top=R.top) (f5:R'.words=R.words):Sm c D' R' phi:=
 h.same ⟨f1,f2,e1,e2⟩ f5 e5 (by rw [f3];exact h.bl) (by rw [e3,e4,f3,f4];exact h.fr)
theorem qB {c:Cx} (ok:bQ c) (inp:List Int):∀ (n:Nat) {D:Dn} {R:Rn},R.inp=inp->D.out=R.out->D.used=R.used->D.status=R.status->Rel c D R ->
 Rel c (d9 c inp n D) (bu c n R).1/\(d9 c inp n D).out=(bu c n R).1.out/\(d9 c inp n D).used=(bu c n R).1.used/\(d9 c inp n D).status=(bu c n R).2/\(bu c n R).1.heap=R.heap/\(bu c n R).1.depth=R.depth/\(bu c n R).1.inp=inp:=by
 intro n
 induction n with
 | zero=>intro D R hi ho hu hs h;exact ⟨h,ho,hu,hs,rfl,rfl,hi⟩
 | succ n ih =>
  intro D R hi ho hu hs h
  unfold d9 bu
  by_cases h0:R.status=0
  ·have h0':D.status=0:=by rw [hs,h0]
   rw [if_neg (show ¬ (D.status ≠ 0) by rw [h0'];simp),if_neg (show ¬ (R.status ≠ 0) by rw [h0];simp)]
   rcases h.st with ⟨_,_,phi,sm⟩ | ⟨q,_⟩
   ·obtain ⟨f,x,rest,cu,e1,e2⟩:=sm.cu ok
    rw [e1,e2,hi]
    by_cases hr:x.1=18/\inp.length<=R.used
    ·rw [if_pos (show x.1=18/\inp.length<=D.used by rw [hu];exact hr),if_pos hr]
     exact ⟨⟨h.heap,h.depth,h.h0,h.h4,h.d1,h.d64,.inl ⟨h0,.inr rfl,phi,sm.out rfl rfl rfl rfl rfl rfl rfl rfl rfl rfl⟩⟩,ho,hu,rfl,rfl,rfl,hi⟩
    ·rw [if_neg (show ¬ (x.1=18/\inp.length<=D.used) by rw [hu];exact hr),if_neg hr]
     have nx:=gZ ok cu h0' h0 ho hu
     rw [hi] at nx
     have hh:=nx.hp
     have hrel:Rel c (aO c inp x D) (doP c x R):=by
      refine ⟨by rw [hh.2.2.1,hh.1];exact h.heap,by rw [hh.2.2.2,hh.2.1];exact h.depth,by rw [hh.1];exact h.h0,by rw [hh.1];exact h.h4,by rw [hh.2.1];exact h.d1,by rw [hh.2.1];exact h.d64,?_⟩
      rcases nx.ends with q | q
      ·exact .inl ⟨q,.inl (by rw [nx.st,q]),nx.go q⟩
      ·exact .inr ⟨q,nx.st⟩
     have:=ih (by rw [nx.inp];exact hi) nx.out nx.used nx.st hrel
     rw [hh.1,hh.2.1] at this
     exact this
   ·omega
  ·rw [if_pos (show D.status ≠ 0 by rw [hs];exact h0),if_pos h0]
   exact ⟨h,ho,hu,hs,rfl,rfl,hi⟩
theorem ti {c:Cx} (ok:bQ c) (inp:List Int) (n:Nat) {D:Dn} {R:Rn} (h:Rel c D R) (hu:R.used=0) (hout:R.out=[]) :
 Rel c (dGo c inp n D) (bu c n { R with inp:=inp }).1/\(dGo c inp n D).out=(bu c n { R with inp:=inp }).1.out/\(dGo c inp n D).used=(bu c n { R with inp:=inp }).1.used/\(dGo c inp n D).status=(bu c n { R with inp:=inp }).2/\(bu c n { R with inp:=inp }).1.heap=R.heap/\(bu c n { R with inp:=inp }).1.depth=R.depth/\(bu c n { R with inp:=inp }).1.inp=inp:=by
 unfold dGo
 refine qB ok inp n (R:={ R with inp:=inp }) rfl hout.symm hu.symm ?_ ?_
 ·show (if D.status=2 then 0 else D.status)=R.status
  rcases h.st with ⟨q,q' | q',_⟩ | ⟨q,q'⟩
  ·rw [if_neg (by omega),q,q']
  ·rw [if_pos q',q]
  ·rw [if_neg (by omega),q']
 ·refine ⟨h.heap,h.depth,h.h0,h.h4,h.d1,h.d64,?_⟩
  rcases h.st with ⟨q,q',phi,sm⟩ | ⟨q,q'⟩
  ·refine .inl ⟨q,.inl ?_,phi,sm.out rfl rfl rfl rfl rfl rfl rfl rfl rfl rfl⟩
   show (if D.status=2 then 0 else D.status)=0
   rcases q' with q' | q'
   ·rw [if_neg (by omega),q']
   ·rw [if_pos q']
  ·refine .inr ⟨q,?_⟩
   show (if D.status=2 then 0 else D.status)=R.status
   rw [if_neg (by omega),q']
def At (ns:List Int) (p:Nat) (X:List Int):Prop:=∃ pre post,ns=pre++X++post/\pre.length=p
theorem At.tk {ns:List Int} {p:Nat} {v:Int} {X:List Int} (h:At ns p (v::X)) {lo hi:Int} (h1:lo<=v) (h2:v<=hi):Go.Proofs.Ytnfnbcbadakofaa.tk ns lo hi (p,false)=(v,(p+1,false))/\At ns (p+1) X:=by
 obtain ⟨pre,post,rfl,rfl⟩:=h
 refine ⟨?_,pre++[v],post,by simp,by simp⟩
 have hg:(pre++v::X++post).getD pre.length 0=v:=by
  rw [List.getD_eq_getElem?_getD,List.append_assoc,List.getElem?_append_right (Nat.le_refl _)];simp
 unfold Go.Proofs.Ytnfnbcbadakofaa.tk
 simp only
 rw [if_neg (by simp),hg,if_neg (by omega)]
theorem At.split {ns:List Int} {p:Nat} {X Y:List Int} (h:At ns p (X++Y)):At ns (p+X.length) Y:=by
 obtain ⟨pre,post,rfl,rfl⟩:=h
 exact ⟨pre++X,post,by simp,by simp⟩
theorem At.tv {ns recs:List Int} {kinds vs:List Int} (hl:vs.length=kinds.length) (hv:∀ i,i < kinds.length->0<=vs.getD i 0/\vs.getD i 0<=65535/\dH recs (kinds.getD i 0) (vs.getD i 0)=false):∀ {p:Nat} {X:List Int},At ns p (vs++X)->tvP ns recs kinds (p,false)=(vs,(p+vs.length,false))/\At ns (p+vs.length) X:=by
 induction kinds generalizing vs with
 | nil =>
  have:vs=[]:=List.eq_nil_of_length_eq_zero hl
  subst this
  intro p X h;exact ⟨rfl,by simpa using h⟩
 | cons k ks ih =>
  cases vs with
  | nil=>simp at hl
  | cons v vs =>
   intro p X h
   obtain ⟨a,b,e⟩:=hv 0 (by simp)
   simp only [List.getD_cons_zero] at a b e
   obtain ⟨t1,t2⟩:=At.tk (X:=vs++X) h a b
   obtain ⟨i1,i2⟩:=ih (by simpa using hl) (fun i hi=>by simpa using hv (i+1) (by simpa using hi)) t2
   unfold tvP
   rw [t1]
   simp only
   rw [e,Bool.or_false,i1]
   refine ⟨?_,?_⟩
   ·simp;omega
   ·rw [List.length_cons,show p+(vs.length+1)=p+1+vs.length by omega];exact i2
theorem At.tl {ns:List Int} {hi:Int} {vs:List Int} (hv:∀ v ∈ vs,0<=v/\v<=hi) {p:Nat} {X:List Int} (h:At ns p (vs++X)):tkL ns hi vs.length (p,false)=(vs,(p+vs.length,false)):=by
 obtain ⟨n,hn⟩:∃ n,vs.length=n:=⟨_,rfl⟩
 induction n generalizing vs X with
 | zero=>have:vs=[]:=List.eq_nil_of_length_eq_zero hn;subst this;rfl
 | succ n ih =>
  have hne:vs ≠ []:=by intro q;subst q;simp at hn
  have e:vs=vs.dropLast++[vs.getLast hne]:=(List.dropLast_concat_getLast hne).symm
  have hdl:vs.dropLast.length=n:=by rw [List.length_dropLast];omega
  generalize hd:vs.dropLast=us at *
  generalize vs.getLast hne=u at *
  subst e
  have h':At ns p (us++(u::X)):=by simpa using h
  have i1:=ih (fun v hv'=>hv v (by simp [hv'])) h' hdl
  have hu:=hv u (by simp)
  obtain ⟨t1,_⟩:=(h'.split).tk (lo:=0) (hi:=hi) hu.1 hu.2
  rw [show (us++[u]).length=us.length+1 by simp,tkL,i1]
  simp only
  rw [t1]
  simp;omega
theorem VR.fine {c:Cx} {D:Dn} {R:Rn} {phi:Nat->Option Nat} (h:Sm c D R phi) {k:Int} {d:Int × Bool} {v:Int} (hv:VR c.ls R.words phi k d v):0<=v/\v<=65535/\dH (cF c.ls 0 R.words) k v=false:=by
 rcases hv with ⟨k0,_,_,a,b⟩ | ⟨k0,_,⟨_,v0⟩ | ⟨e,a,_,y,_,s⟩⟩
 ·refine ⟨a,by omega,?_⟩
  unfold dH;simp [k0]
 ·refine ⟨by omega,by omega,?_⟩
  unfold dH;simp [v0]
 ·have hw:=(s.val h.mem.full).2.1
  have:=h.len
  have:=h.h4
  refine ⟨by omega,by omega,?_⟩
  have hl:=fT c.ls R.words 0
  have:aW (cF c.ls 0 R.words) (v - 1)=k:=by
   rw [cR (by omega) (by unfold cF;rw [List.length_map,hl];omega),show (v - 1).toNat=a by omega]
   unfold cF
   unfold St at s
   rw [List.getD_eq_getElem?_getD,List.getElem?_map,s];rfl
  unfold dH
  simp [this]
theorem VL.fine {c:Cx} {D:Dn} {R:Rn} {phi:Nat->Option Nat} (h:Sm c D R phi) {ks:List Int} {ds:List (Int × Bool)} {vs:List Int} (hv:VL (VR c.ls R.words phi) ks ds vs):vs.length=ks.length/\∀ i,i < ks.length->0<=vs.getD i 0/\vs.getD i 0<=65535/\dH (cF c.ls 0 R.words) (ks.getD i 0) (vs.getD i 0)=false:=
 ⟨hv.len.2,fun _ hi=>(hv.get hi).fine h⟩
def Bd (ls:List (List Int)) (ws:List Int) (p:Nat):Prop:=p<=ws.length/\bC ls 0 (ws.take p)=0
theorem Bd.next {ls:List (List Int)} {ws:List Int} {p:Nat} (h:Bd ls ws p) (hp:p < ws.length):St ls ws p (ws.getD p 0)/\(bC ls 0 ws=0->Bd ls ws (p+1+(ax ls (ws.getD p 0)).length)):=by
 have hd:ws.drop p=ws.getD p 0::ws.drop (p+1):=by
  rw [List.drop_eq_getElem_cons hp,List.getD_eq_getElem?_getD,List.getElem?_eq_getElem hp];rfl
 have hw:ws=ws.take p++ws.drop p:=(List.take_append_drop _ _).symm
 have hs:St ls ws p (ws.getD p 0):=by
  unfold St
  conv=>lhs;rw [hw,ie,h.2,hd]
  rw [List.getElem?_append_right (by rw [fT,List.length_take];omega),fT,List.length_take,show p - min p ws.length=0 by omega,bd];rfl
 refine ⟨hs,fun he=>?_⟩
 have hv:=(hs.val he).2.1
 refine ⟨hv,?_⟩
 have e:ws.take (p+1+(ax ls (ws.getD p 0)).length)=ws.take p++(ws.getD p 0::(ws.drop (p+1)).take (ax ls (ws.getD p 0)).length):=by
  generalize (ax ls (ws.getD p 0)).length=F at *
  conv=>lhs;rw [hw]
  rw [List.take_append,List.take_of_length_le (by rw [List.length_take];omega),List.length_take,show p+1+F - min p ws.length=F+1 by omega,hd,List.take_succ_cons]
 rw [e,ir,h.2,bC,(fW ls _ _ (by rw [List.length_take];omega)).2,List.length_take,List.length_drop]
 omega
theorem qV {ws:List Int} {p:Nat} (hp:p<=ws.length):At ws p (ws.drop p):=⟨ws.take p,[],by simp,by rw [List.length_take];omega⟩
theorem vj {c:Cx} {D:Dn} {R:Rn} {phi:Nat->Option Nat} (h:Sm c D R phi):∀ (n p:Nat),Bd c.ls R.words p->R.words.length<=n+p->twP c.ls R.words (cF c.ls 0 R.words) n (p,false)=(R.words.length,false):=by
 intro n
 induction n with
 | zero=>intro p hb hn;have:=hb.1;unfold twP;rw [show p=R.words.length by omega]
 | succ n ih =>
  intro p hb hn
  unfold twP
  simp only
  by_cases hp:p < R.words.length
  ·rw [if_pos ⟨hp,trivial⟩]
   obtain ⟨s,hb'⟩:=hb.next hp
   have hb':=hb' h.mem.full
   obtain ⟨d,hd⟩:=h.mem.sur _ _ s
   obtain ⟨_,t,s',hv⟩:=h.mem.dom _ _ hd
   have:=s.uniq s'
   have ht:=h.mem.typ _ _ s
   have hdr:R.words.drop p=R.words.getD p 0::R.words.drop (p+1):=by
    rw [List.drop_eq_getElem_cons hp,List.getD_eq_getElem?_getD,List.getElem?_eq_getElem hp];rfl
   have ha:=qV (ws:=R.words) (p:=p) (by omega)
   rw [hdr] at ha
   obtain ⟨t1,t2⟩:=ha.tk (lo:=1) (hi:=c.ls.length) ht.1 ht.2
   rw [t1]
   simp only
   have hsg:R.words.drop (p+1)=seg R.words p (ax c.ls (R.words.getD p 0)).length++R.words.drop (p+1+(ax c.ls (R.words.getD p 0)).length):=by
    unfold seg
    conv=>lhs;rw [<-List.take_append_drop (ax c.ls (R.words.getD p 0)).length (R.words.drop (p+1))]
    rw [List.drop_drop]
   rw [hsg] at t2
   rw [<-this] at hv
   obtain ⟨q1,q2⟩:=hv.fine h
   obtain ⟨v1,_⟩:=At.tv (recs:=cF c.ls 0 R.words) q1 q2 t2
   rw [v1]
   simp only
   rw [q1]
   exact ih _ hb' (by omega)
  ·rw [if_neg (by omega)]
   have:=hb.1
   rw [show p=R.words.length by omega]
end Go.Proofs.Ytnfnbcbadakofaa
namespace Go.Proofs.Ytnfnbcbadakofaa
open Go.RowKit
section
variable {c:Cx} {D:Dn} {R:Rn} {phi:Nat->Option Nat}
theorem lW (h:Sm c D R phi) {ns:List Int} {p:Nat} {X:List Int} {f:Int} {waits:Bool} {g:Fr} {S:List Int} {post:List Int} {dl ds:List (Int × Bool)} (hfn:g.fn=f) (p0:0<=g.pc) (pl:g.pc < ((aq c.fs f).code.length:Int)) (hS:spP c.sps f g.pc=some (S++post))
 (hpost:(waits=false/\post=[]) \/ (waits=true/\(aV (aq c.fs f) g.pc).1=15/\post=aQ c.fs (aV (aq c.fs f) g.pc).2.1)) (hl:VL (VR c.ls R.words phi) (aq c.fs f).locals dl g.locals) (hk:VL (VR c.ls R.words phi) S ds g.stack) (ha:At ns p (aX g++X)) :
 tfP c ns (cF c.ls 0 R.words) f waits (p,false)=(g,(p+(aX g).length,false)):=by
 have ha':At ns p (g.pc::(g.locals++(g.stack++X))):=by simpa [aX] using ha
 obtain ⟨t1,t2⟩:=ha'.tk (lo:=0) (hi:=((aq c.fs f).code.length:Int) - 1) p0 (by omega)
 obtain ⟨l1,l2⟩:=hl.fine h
 obtain ⟨k1,k2⟩:=hk.fine h
 obtain ⟨v1,v2⟩:=At.tv (recs:=cF c.ls 0 R.words) l1 l2 t2
 obtain ⟨v3,_⟩:=At.tv (recs:=cF c.ls 0 R.words) k1 k2 v2
 have hks:(if waits=true then bU (S++post) (((S++post).length:Int) - ((ak c.ls c.fs (aq c.fs f) (aV (aq c.fs f) g.pc).1 (aV (aq c.fs f) g.pc).2.1 (aV (aq c.fs f) g.pc).2.2).length:Int)) else S++post)=S:=by
  rcases hpost with ⟨rfl,rfl⟩ | ⟨rfl,h15,rfl⟩
  ·simp
  ·rw [if_pos rfl,h15]
   have:ak c.ls c.fs (aq c.fs f) 15 (aV (aq c.fs f) g.pc).2.1 (aV (aq c.fs f) g.pc).2.2=aQ c.fs (aV (aq c.fs f) g.pc).2.1:=by simp [ak]
   rw [this]
   unfold bU
   rw [if_neg (by rw [List.length_append];omega),List.length_append,show (((S.length+(aQ c.fs (aV (aq c.fs f) g.pc).2.1).length:Nat):Int) - ((aQ c.fs (aV (aq c.fs f) g.pc).2.1).length:Int)).toNat=S.length by omega]
   simp
 have hbad:(!(some (S++post)).isSome || (waits && decide ((aV (aq c.fs f) g.pc).1 ≠ 15)))=false:=by
  rcases hpost with ⟨rfl,_⟩ | ⟨rfl,h15,_⟩
  ·simp
  ·simp [h15]
 unfold tfP
 simp only
 rw [t1]
 simp only
 rw [hS]
 simp only [Option.getD_some]
 rw [hks,hbad,Bool.or_false,v1]
 simp only
 rw [v3]
 refine Prod.ext ?_ (Prod.ext ?_ rfl)
 ·show (⟨f,g.pc,g.locals,g.stack⟩:Fr)=g
  rw [<-hfn]
 ·show p+1+g.locals.length+g.stack.length=p+(aX g).length
  unfold aX;rw [List.length_cons,List.length_append];omega
theorem qM (h:Sm c D R phi) {ns:List Int} {p:Nat} {X:List Int} {f e:Int} {d:DFr} {g:Fr} (w:Wt c (VR c.ls R.words phi) f e d g) (ha:At ns p (aX g++X)):tfP c ns (cF c.ls 0 R.words) f true (p,false)=(g,(p+(aX g).length,false)):=by
 obtain ⟨S,hS,hV⟩:=w.stk
 exact lW h w.fn w.p0 w.pl hS (.inr ⟨rfl,w.op,by rw [w.tgt]⟩) w.loc hV ha
theorem td (h:Sm c D R phi) {ns:List Int} {p:Nat} {X:List Int} {f:Int} {d:DFr} {g:Fr} (w:Tp c (VR c.ls R.words phi) f d g) (ha:At ns p (aX g++X)):tfP c ns (cF c.ls 0 R.words) f false (p,false)=(g,(p+(aX g).length,false)):=by
 obtain ⟨S,hS,hV⟩:=w.stk
 exact lW (post:=[]) h w.fn w.p0 w.pl (by simpa using hS) (.inl ⟨rfl,rfl⟩) w.loc hV ha
theorem oL (ns recs:List Int):∀ (n:Nat) (f:Int) (s:Nat × Bool),de c ns recs (n+1) f s =
 ((de c ns recs n f s).1++[(tfP c ns recs (de c ns recs n f s).2.1 true (de c ns recs n f s).2.2).1],
  (aV (aq c.fs (de c ns recs n f s).2.1) (tfP c ns recs (de c ns recs n f s).2.1 true (de c ns recs n f s).2.2).1.pc).2.1,(tfP c ns recs (de c ns recs n f s).2.1 true (de c ns recs n f s).2.2).2):=by
 intro n
 induction n with
 | zero=>intro f s;simp [de]
 | succ n ih =>
  intro f s
  rw [de,ih]
  conv=>rhs;rw [de]
  simp
theorem tj (h:Sm c D R phi) {ds:List DFr} {gs:List Fr} {f:Int} (hb:Bel c (VR c.ls R.words phi) ds gs f) {ns:List Int} {p:Nat}:∀ {X:List Int},At ns p (gs.flatMap aX++X)->de c ns (cF c.ls 0 R.words) gs.length 0 (p,false)=(gs,f,(p+(gs.flatMap aX).length,false)):=by
 induction hb with
 | nil=>intro X _;rfl
 | @snoc ds gs f e d g hb w ih =>
  intro X ha
  have ha':At ns p (gs.flatMap aX++(aX g++X)):=by simpa using ha
  have i1:=ih ha'
  have t1:=qM h w ha'.split
  rw [List.length_append,List.length_singleton,oL,i1]
  simp only
  rw [t1]
  refine Prod.ext rfl (Prod.ext w.tgt (Prod.ext ?_ rfl))
  show p+(gs.flatMap aX).length+(aX g).length=p+((gs++[g]).flatMap aX).length
  rw [List.flatMap_append,List.length_append];simp;omega
end
theorem oH {ls:List (List Int)} {ws:List Int} (he:bC ls 0 ws=0) {i:Nat} (hi:i < ws.length):∀ (n p:Nat),Bd ls ws p->p<=i->i < p+n->∃ a t,St ls ws a t/\(i=a \/ ∃ j,j < (ax ls t).length/\i=a+1+j):=by
 intro n
 induction n with
 | zero=>intro p _ h1 h2;omega
 | succ n ih =>
  intro p hb h1 h2
  obtain ⟨s,hb'⟩:=hb.next (by omega)
  rcases Nat.lt_or_ge i (p+1+(ax ls (ws.getD p 0)).length) with q | q
  ·refine ⟨p,_,s,?_⟩
   rcases Nat.lt_or_ge p i with z | z
   ·exact .inr ⟨i - p - 1,by omega,by omega⟩
   ·exact .inl (by omega)
  ·exact ih _ (hb' he) q (by omega)
theorem Sm.word {c:Cx} {D:Dn} {R:Rn} {phi:Nat->Option Nat} (h:Sm c D R phi) {i:Nat} (hi:i < R.words.length) (ht:c.ls.length<=6):0<=R.words.getD i 0/\R.words.getD i 0<=65535:=by
 obtain ⟨a,t,s,q⟩:=oH h.mem.full hi R.words.length 0 ⟨Nat.zero_le _,rfl⟩ (Nat.zero_le _) (by omega)
 rcases q with rfl | ⟨j,hj,rfl⟩
 ·have:=(s.val h.mem.full).1
  rw [List.getD_eq_getElem?_getD,this]
  have:=h.mem.typ _ _ s
  simp;omega
 ·obtain ⟨d,hd⟩:=h.mem.sur _ _ s
  obtain ⟨_,t',s',hv⟩:=h.mem.dom _ _ hd
  have:=s.uniq s'
  subst this
  have hv:=hv.get hj
  rw [gP hj] at hv
  have:=hv.fine h
  exact ⟨this.1,this.2.1⟩
theorem so {ms ns:List Int}:∀ {p:Nat} {X:List Int},At ns p (ms++X)->ms.foldl (fun s m=>(tk ns m m s).2) (p,false)=(p+ms.length,false):=by
 induction ms with
 | nil=>intro p X _;rfl
 | cons m ms ih =>
  intro p X h
  obtain ⟨t1,t2⟩:=At.tk (X:=ms++X) h (Int.le_refl m) (Int.le_refl m)
  rw [List.foldl_cons,t1]
  have:=ih t2
  simp only at this ⊢
  rw [this,List.length_cons]
  congr 1;omega
def bP (R:Rn):Rn:=if R.status=0 then { R with inp:=[],used:=0,out:=[] } else ⟨R.heap,R.depth,R.status,[],[],⟨0,0,[],[]⟩,[],0,[]⟩
def aN (ms:List Int) (R:Rn):List Int:=gG ms R.heap R.depth R.status R.words R.below R.top
theorem pF (ns:List Int):At ns 0 ns:=⟨[],[],by simp,rfl⟩
theorem ig {c:Cx} (ok:bQ c) {D:Dn} {R:Rn} (ms:List Int) (h:Rel c D R):tuP c ms (aN ms R)=some (bP R):=by
 rcases h.st with ⟨s0,_,phi,sm⟩ | ⟨s1,_⟩
 ·have e:aN ms R=ms++(R.heap::R.depth::0::(R.words.length:Int)::(R.words++(((R.below.length:Int)+1)::(R.below.flatMap aX++(aX R.top++[]))))):=by
   unfold aN gG;rw [s0];simp
  obtain ⟨f,hb,ht⟩:=sm.fr
  have ha:=pF (aN ms R)
  conv at ha=>arg 3;rw [e]
  generalize hns:aN ms R=ns at *
  have a1:=ha.split
  have m1:=so ha
  simp only [Nat.zero_add] at a1 m1
  obtain ⟨t1,a2⟩:=a1.tk (lo:=0) (hi:=4000) h.h0 h.h4
  obtain ⟨t2,a3⟩:=a2.tk (lo:=1) (hi:=64) h.d1 h.d64
  obtain ⟨t3,a4⟩:=a3.tk (lo:=0) (hi:=5) (by decide) (by decide)
  obtain ⟨t4,a5⟩:=a4.tk (lo:=0) (hi:=R.heap) (by omega) sm.len
  have a6:=a5.split
  have hwv:∀ v ∈ R.words,0<=v/\v<=65535:=by
   intro v hv
   obtain ⟨i,hi,rfl⟩:=List.mem_iff_getElem.1 hv
   have:=sm.word hi ok.pg.t6
   rw [List.getD_eq_getElem?_getD,List.getElem?_eq_getElem hi] at this
   exact this
  have t5:=At.tl (hi:=65535) hwv a5
  obtain ⟨t6,a7⟩:=a6.tk (lo:=1) (hi:=R.depth) (by omega) sm.bl
  have t7:=tj sm hb a7
  have t8:=td sm ht a7.split
  have tw:=vj sm R.words.length 0 ⟨Nat.zero_le _,rfl⟩ (by omega)
  have hth:thP ms ns (0,false)=((R.heap,R.depth,0),(ms.length+1+1+1,false)):=by
   unfold thP;simp only;rw [m1,t1];simp only;rw [t2];simp only;rw [t3];simp
  have htw:jg c ns R.heap (ms.length+1+1+1,false)=(R.words,(ms.length+1+1+1+1+R.words.length,false)):=by
   unfold jg;simp only;rw [t4];simp only [Int.toNat_natCast];rw [t5];simp only;rw [tw];simp
  have htf:jq c ns (cF c.ls 0 R.words) R.depth (ms.length+1+1+1+1+R.words.length,false)=((R.below,R.top),(ms.length+1+1+1+1+R.words.length+1+(R.below.flatMap aX).length+(aX R.top).length,false)):=by
   unfold jq;simp only;rw [t6];simp only
   rw [show ((R.below.length:Int)+1 - 1).toNat=R.below.length by omega,t7];simp only;rw [t8]
  have htu:tuR c ms ns=(⟨R.heap,R.depth,0,R.words,R.below,R.top,[],0,[]⟩,(ms.length+1+1+1+1+R.words.length+1+(R.below.flatMap aX).length+(aX R.top).length,false)):=by
   unfold tuR;simp only;rw [hth];simp only;rw [if_pos (by trivial),htw];simp only;rw [htf]
  have hl:ns.length=ms.length+1+1+1+1+R.words.length+1+(R.below.flatMap aX).length+(aX R.top).length:=by
   rw [e];simp;omega
  unfold tuP
  rw [htu,if_neg (by rw [hl];simp)]
  unfold bP
  rw [if_pos s0]
  simp only [Option.some.injEq]
  rw [<-s0]
 ·have e:aN ms R=ms++(R.heap::R.depth::R.status::[]):=by
   unfold aN gG;rw [if_pos (by omega)]
  have ha:=pF (aN ms R)
  conv at ha=>arg 3;rw [e]
  generalize hns:aN ms R=ns at *
  have a1:=ha.split
  have m1:=so ha
  simp only [Nat.zero_add] at a1 m1
  obtain ⟨t1,a2⟩:=a1.tk (lo:=0) (hi:=4000) h.h0 h.h4
  obtain ⟨t2,a3⟩:=a2.tk (lo:=1) (hi:=64) h.d1 h.d64
  obtain ⟨t3,a4⟩:=a3.tk (lo:=0) (hi:=5) (by omega) (by omega)
  have hth:thP ms ns (0,false)=((R.heap,R.depth,R.status),(ms.length+1+1+1,false)):=by
   unfold thP;simp only;rw [m1,t1];simp only;rw [t2];simp only;rw [t3]
   have:decide (R.status=2)=false:=by simp;omega
   simp [this]
  have htu:tuR c ms ns=(⟨R.heap,R.depth,R.status,[],[],⟨0,0,[],[]⟩,[],0,[]⟩,(ms.length+1+1+1,false)):=by
   unfold tuR;simp only;rw [hth];simp only;rw [if_neg (by omega)]
  unfold tuP
  rw [htu,if_neg (by rw [e];simp)]
  unfold bP
  rw [if_neg (by omega)]
theorem Rel.bare {c:Cx} {D:Dn} {R:Rn} (h:Rel c D R):Rel c D (bP R):=by
 unfold Go.Proofs.Ytnfnbcbadakofaa.bP
 rcases h.st with ⟨s0,s2,phi,sm⟩ | ⟨s1,s2⟩
 ·rw [if_pos s0]
  exact ⟨h.heap,h.depth,h.h0,h.h4,h.d1,h.d64,.inl ⟨s0,s2,phi,sm.out rfl rfl rfl rfl rfl rfl rfl rfl rfl rfl⟩⟩
 ·rw [if_neg (by omega)]
  exact ⟨h.heap,h.depth,h.h0,h.h4,h.d1,h.d64,.inr ⟨s1,s2⟩⟩
end Go.Proofs.Ytnfnbcbadakofaa
