import Derived.Test.YtnfnbcbadakofaaRows
import Derived.WalkKit
import Derived.WalkSpells
import Derived.WalkLawsBesides
import Derived.BigQuiet
import Derived.Deep.AppendLies
namespace Go.Proofs.Ytnfnbcbadakofaa
open Go.RowKit
instance : Coe Unit (Nat->Prop):=⟨fun _ _=>False⟩
inductive Oz:Type where
 | o
def oO:Oz:=.o
instance : Coe Int Value:=⟨.int .i64⟩
instance : Coe Nat Value:=⟨fun n=>.int .i64 (n:Int)⟩
instance : Coe Unit Value:=⟨fun _=>.slice none 0 0⟩
instance : Coe Oz Value:=⟨fun _=>.int .i64 0⟩
theorem hid {p:Prop} (h:p):Hid p:=h
structure Chg (S:Nat->Prop) (w w':World):Prop where
 os:w'.os=w.os
 tape:w'.tape=w.tape
 output:w'.output=w.output
 size:w.heap.size<=w'.heap.size
 block:∀ k,k < w.heap.size->¬ S k->w'.heap[k]?=w.heap[k]?
theorem Chg.refl (S:Nat->Prop) (w:World):Chg S w w:=⟨rfl,rfl,rfl,Nat.le_refl _,fun _ _ _=>rfl⟩
theorem Chg.trans {S:Nat->Prop} {a b c:World} (h:Chg S a b) (k:Chg S b c):Chg S a c:=
 ⟨k.os.trans h.os,k.tape.trans h.tape,k.output.trans h.output,Nat.le_trans h.size k.size,fun i hi hs=>(k.block i (Nat.lt_of_lt_of_le hi h.size) hs).trans (h.block i hi hs)⟩
theorem Chg.trans' {S T:Nat->Prop} {a b c:World} (h:Chg S a b) (k:Chg T b c) (hT:∀ i,i < a.heap.size->T i->S i):Chg S a c:=
 ⟨k.os.trans h.os,k.tape.trans h.tape,k.output.trans h.output,Nat.le_trans h.size k.size,fun i hi hs=>(k.block i (Nat.lt_of_lt_of_le hi h.size) (fun e=>hs (hT i hi e))).trans (h.block i hi hs)⟩
theorem Chg.mono {S T:Nat->Prop} {a b:World} (h:Chg S a b) (hT:∀ i,i < a.heap.size->S i->T i):Chg T a b:=
 ⟨h.os,h.tape,h.output,h.size,fun i hi hs=>h.block i hi (fun e=>hs (hT i hi e))⟩
theorem Chg.drew {S:Nat->Prop} {a w:World} (h:Chg S a w):Chg S a w.drew:=⟨h.os,h.tape,h.output,h.size,h.block⟩
theorem Chg.drewN {S:Nat->Prop} {a w:World} (h:Chg S a w) (n:Nat):Chg S a (w.drewN n):=⟨h.os,h.tape,h.output,h.size,h.block⟩
theorem Chg.alloc {S:Nat->Prop} {a w:World} (h:Chg S a w) (o:Obj):Chg S a (w.alloc o):=
 ⟨h.os,h.tape,h.output,Nat.le_trans h.size (by simp),fun k hk hs=>(Below.heap_alloc _ _ _ (Nat.lt_of_lt_of_le hk h.size)).trans (h.block k hk hs)⟩
theorem Chg.setCell {S:Nat->Prop} {a w:World} (h:Chg S a w) (p:Addr) (v:Value) (hp:S p.block \/ a.heap.size<=p.block):Chg S a (w.setCell p v):=
 ⟨h.os,h.tape,h.output,Nat.le_trans h.size (by simp [World.setCell]),fun k hk hs=>(Below.heap_setCell _ _ _ _ (fun e=>by subst e;rcases hp with hp | hp;exact hs hp;omega)).trans (h.block k hk hs)⟩
theorem Chg.grown {S:Nat->Prop} {a w w':World} {row:Option Nat} (h:Chg S a w) (hg:w.grownBy w' row) (hr:∀ k,row=some k->S k \/ a.heap.size<=k):Chg S a w':=
 ⟨hg.os.trans h.os,hg.tape.trans h.tape,hg.output.trans h.output,Nat.le_trans h.size hg.size,fun k hk hs=>(hg.block k (Nat.lt_of_lt_of_le hk h.size) (fun e=>by rcases hr k e.symm with h | h;exact hs h;omega)).trans (h.block k hk hs)⟩
theorem Chg.below {w w':World} (h:Chg () w w'):Below w.heap.size w w':=⟨h.os,h.tape,h.output,h.size,fun k hk=>h.block k hk (fun e=>e)⟩
instance : Coe Nat (Option Addr):=⟨fun g=>some ⟨g,0,none⟩⟩
def Blk (w:World) (b:Nat) (cs:Array Value) (e:TypeId):Prop:=w.heap[b]?=some (.cells cs e (0,0))
theorem Blk.lt {w:World} {b:Nat} {cs:Array Value} {e:TypeId} (h:Blk w b cs e):b < w.heap.size:=(Array.getElem?_eq_some_iff.1 h).1
theorem Blk.cell {w:World} {b:Nat} {cs:Array Value} {e:TypeId} (h:Blk w b cs e) (i:Nat):w.cell? ⟨b,i,none⟩=cs[i]?:=by
 unfold Blk at h;simp [World.cell?,h]
theorem Blk.frozen {w:World} {b:Nat} {cs:Array Value} {e:TypeId} (h:Blk w b cs e) (i:Nat):w.frozen? ⟨b,i,none⟩=false:=by
 unfold Blk at h;simp [World.frozen?,h]
theorem Blk.chg {S:Nat->Prop} {w w':World} {b:Nat} {cs:Array Value} {e:TypeId} (h:Blk w b cs e) (k:Chg S w w') (hs:¬ S b):Blk w' b cs e:=(k.block b h.lt hs).trans h
theorem Blk.drew {w:World} {b:Nat} {cs:Array Value} {e:TypeId} (h:Blk w b cs e):Blk w.drew b cs e:=h
theorem Blk.drewN {w:World} {b:Nat} {cs:Array Value} {e:TypeId} (h:Blk w b cs e) (n:Nat):Blk (w.drewN n) b cs e:=h
theorem Blk.alloc {w:World} {b:Nat} {cs:Array Value} {e:TypeId} (h:Blk w b cs e) (o:Obj):Blk (w.alloc o) b cs e:=(Below.heap_alloc _ _ _ h.lt).trans h
theorem Blk.new (w:World) (cs:Array Value) (e:TypeId):Blk (w.alloc (.cells cs e)) w.heap.size cs e:=heap_alloc_new w _
theorem Blk.set {w:World} {b:Nat} {cs:Array Value} {e:TypeId} (h:Blk w b cs e) (i:Nat) (v:Value):Blk (w.setCell ⟨b,i,none⟩ v) b (cs.setIfInBounds i v) e:=by
 unfold Blk at *;simp [World.setCell,Array.getElem?_modify,h]
theorem Blk.setOther {w:World} {b:Nat} {cs:Array Value} {e:TypeId} (h:Blk w b cs e) (p:Addr) (v:Value) (hp:b ≠ p.block):Blk (w.setCell p v) b cs e:=(Below.heap_setCell _ _ _ _ hp).trans h
theorem Blk.grown {w w':World} {b:Nat} {cs:Array Value} {e:TypeId} {row:Option Nat} (h:Blk w b cs e) (k:w.grownBy w' row) (hs:some b ≠ row):Blk w' b cs e:=(k.block b h.lt hs).trans h
theorem Blk.ne {w:World} {b b':Nat} {cs cs':Array Value} {e e':TypeId} (h:Blk w b cs e) (k:Blk w b' cs' e') (he:e ≠ e'):b ≠ b':=by
 intro hb;subst hb;unfold Blk at h k;rw [h] at k;simp at k;exact he k.2
section
variable {w w':World} {base:Nat} {e:TypeId} {size:Nat} {v:Value} {n:Nat} {xs:List Value}
theorem az (h:w.ownsRow base e size v n xs) {g:Nat} (hg:v.ownBlock=some g):∃ cs,Blk w g cs e:=by
 rcases h.2 with ⟨rfl,_⟩ | ⟨g',cap,cur,rfl,_,hgg,_⟩
 ·simp [Value.ownBlock] at hg
 ·simp [Value.ownBlock] at hg;subst hg;exact ⟨cur,hgg⟩
theorem am (h:w.ownsRow base e size v n xs) {b:Nat} {cs:Array Value} {e':TypeId} (k:Blk w b cs e') (he:e ≠ e'):v.ownBlock ≠ some b:=by
 intro hg;obtain ⟨cs',h'⟩:=az h hg;exact h'.ne k he rfl
theorem af {S:Nat->Prop} (h:w.ownsRow base e size v n xs) (k:Chg S w w') (hs:∀ g,v.ownBlock=some g->¬ S g):w'.ownsRow base e size v n xs:=by
 refine ⟨h.1,?_⟩
 rcases h.2 with hn | ⟨g,cap,cur,rfl,hb,hgg,rest⟩
 ·exact .inl hn
 ·exact .inr ⟨g,cap,cur,rfl,hb,(k.block g (Array.getElem?_eq_some_iff.1 hgg).1 (hs g rfl)).trans hgg,rest⟩
theorem aI (h:w.ownsRow base e size v n xs) (p:Addr) (u:Value) (hp:v.ownBlock ≠ some p.block):(w.setCell p u).ownsRow base e size v n xs:=by
 refine ⟨h.1,?_⟩
 rcases h.2 with hn | ⟨g,cap,cur,rfl,hb,hgg,rest⟩
 ·exact .inl hn
 ·exact .inr ⟨g,cap,cur,rfl,hb,(Below.heap_setCell _ _ _ _ (fun e=>hp (by simp [Value.ownBlock,e]))).trans hgg,rest⟩
theorem aJ (h:w.ownsRow base e size v n xs) (m:Nat):(w.drewN m).ownsRow base e size v n xs:=h
theorem aA (h:w.ownsRow base e size v n xs):w.drew.ownsRow base e size v n xs:=h
theorem ap (h:w.ownsRow base e size v n xs) {base':Nat} (hb:base'<=base):w.ownsRow base' e size v n xs:=by
 refine ⟨h.1,?_⟩
 rcases h.2 with hn | ⟨g,cap,cur,rfl,hb',rest⟩
 ·exact .inl hn
 ·exact .inr ⟨g,cap,cur,rfl,Nat.le_trans hb hb',rest⟩
end
abbrev aF (l:List Int):List Value:=l.map (Value.int .i64)
def ad (w:World) (base:Nat) (v:Value) (l:List Int):Prop:=w.ownsRow base 3 1 v l.length (aF l)
theorem ad.form {w:World} {base:Nat} {v:Value} {l:List Int} (h:ad w base v l) (hl:0 < l.length) :
 ∃ g cap,v=.slice (some ⟨g,0,none⟩) l.length cap/\base<=g/\l.length<=cap/\cap<=maxLen/\(∀ j,j < l.length->w.cell? ⟨g,j,none⟩=some (.int .i64 (l.getD j 0))):=by
 have hc:=fun g=>World.ownsRow.cells (g:=g) h
 rcases h.2 with ⟨_,h0⟩ | ⟨g,cap,cur,rfl,hb,hgg,hle,hcap,_⟩
 ·omega
 ·refine ⟨g,cap,rfl,hb,hle,hcap,fun j hj=>?_⟩
  have:=hc g rfl j (.int .i64 (l.getD j 0)) (by simp [aF,hj])
  have hadd:(⟨g,0,none⟩:Addr).add j=⟨g,j,none⟩:=by unfold Addr.add;split <;> simp_all
  rwa [hadd] at this
def Rd (w:World) (rb:Nat) (nv:Value) (s:Nat × Bool):Prop:=Blk w rb #[nv,.int .i64 s.1,.bool s.2] 149
def RS (w:World) (rb:Nat) (nv:Value) (ns:List Int) (s:Nat × Bool):Prop:=Rd w rb nv s/\ad w 0 nv ns
theorem RS.lt {w:World} {rb:Nat} {nv:Value} {ns:List Int} {s:Nat × Bool} (h:RS w rb nv ns s):rb < w.heap.size:=Blk.lt h.1
theorem aM {w1 w2:World} {row:Option Nat} (h:w1.grownBy w2 row):Chg (fun k=>some k=row) w1 w2:=
 ⟨h.os,h.tape,h.output,h.size,fun k hk hs=>h.block k hk hs⟩
theorem ad.rs {w w':World} {rb:Nat} {nv:Value} {s:Nat × Bool} {base:Nat} {v:Value} {l:List Int} (h:ad w base v l) (hr:Rd w rb nv s) (k:Chg (fun k=>k=rb) w w'):ad w' base v l:=
 af h k (fun g hg e=>am h hr (by decide) (by rw [hg,e]))
def tk (ns:List Int) (lo hi:Int) (s:Nat × Bool):Int × (Nat × Bool):=
 if s.2=true \/ ns.length<=s.1 then (0,(s.1,true)) else
 if ns.getD s.1 0 < lo \/ hi < ns.getD s.1 0 then (0,(s.1,true)) else (ns.getD s.1 0,(s.1+1,false))
end Go.Proofs.Ytnfnbcbadakofaa
namespace Go.Proofs.Ytnfnbcbadakofaa
open Go.RowKit
set_option maxHeartbeats 400000
theorem eP {w:World} {rb:Nat} {nv:Value} {s:Nat × Bool} (hr:Rd w rb nv s) (n:Nat) :
 Rd ((w.drewN n).setCell ⟨rb,2,none⟩ (.bool true)) rb nv (s.1,true)/\Chg (fun k=>k=rb) w ((w.drewN n).setCell ⟨rb,2,none⟩ (.bool true)):=
 ⟨(Blk.set (Blk.drewN hr n) 2 (.bool true)),Chg.setCell (S:=fun k=>k=rb) ((Chg.refl _ w).drewN n) _ _ (.inl rfl)⟩
theorem pf {w:World} {rb:Nat} {nv:Value} {p:Nat} {b:Bool} (hr:Rd w rb nv (p,b)) (n:Nat) :
 Rd ((w.drewN n).setCell ⟨rb,1,none⟩ ((p:Int)+1:Int)) rb nv (p+1,b)/\Chg (fun k=>k=rb) w ((w.drewN n).setCell ⟨rb,1,none⟩ ((p:Int)+1:Int)):=
 ⟨(Blk.set (Blk.drewN hr n) 1 (.int .i64 ((p:Int)+1))),Chg.setCell (S:=fun k=>k=rb) ((Chg.refl _ w).drewN n) _ _ (.inl rfl)⟩
theorem s9 (rb:Nat) (nv:Value) (p:Nat) (lo hi:Int) (w:World) (hr:Rd w rb nv (p,true)) :
 Calls Try.prog 92 #[.pointer rb,lo,hi] w fun e w'=>e=.returned (.int .i64 0)/\Rd w' rb nv (p,true)/\Chg (fun k=>k=rb) w w':=by
 have h0:w.cell? ⟨rb,0,none⟩=some nv:=Blk.cell hr 0
 have h1:w.cell? ⟨rb,1,none⟩=some (.int .i64 p):=Blk.cell hr 1
 have h2:w.cell? ⟨rb,2,none⟩=some (.bool true):=Blk.cell hr 2
 have hf:w.frozen? ⟨rb,2,none⟩=false:=Blk.frozen hr 2
 go_enter Try.func92,Try.ntmps92
 go_wp2
 go_quiet (fail)
 go_wp2
 go_ret
 exact ⟨rfl,eP hr nq⟩
theorem tG (rb:Nat) (nv:Value) (len cap p:Nat) (a:Option Addr) (hnv:nv=.slice a len cap) (lo hi:Int) (w:World) (hr:Rd w rb nv (p,false)) (hp:len<=p) :
 Calls Try.prog 92 #[.pointer rb,lo,hi] w fun e w'=>e=.returned (.int .i64 0)/\Rd w' rb nv (p,true)/\Chg (fun k=>k=rb) w w':=by
 have h0:w.cell? ⟨rb,0,none⟩=some (.slice a len cap):=by rw [<-hnv];exact Blk.cell hr 0
 have h1:w.cell? ⟨rb,1,none⟩=some (.int .i64 p):=Blk.cell hr 1
 have h2:w.cell? ⟨rb,2,none⟩=some (.bool false):=Blk.cell hr 2
 have hf:w.frozen? ⟨rb,2,none⟩=false:=Blk.frozen hr 2
 have hp':(len:Int)<=(p:Int):=by omega
 clear hnv
 go_enter Try.func92,Try.ntmps92
 go_wp2
 go_quiet (fail)
 go_wp2
 go_ret
 exact ⟨rfl,eP hr nq⟩
theorem sR (rb:Nat) (nv:Value) (len cap p g:Nat) (n:Int) (hnv:nv=.slice g len cap) (lo hi:Int) (w:World) (hr:Rd w rb nv (p,false)) (hp:p < len) (_hl:len<=10000)
 (hc:w.cell? ⟨g,p,none⟩=some (.int .i64 n)) (hlo:lo<=n) (hhi:n<=hi) :
  Calls Try.prog 92 #[.pointer rb,lo,hi] w fun e w'=>e=.returned (.int .i64 n)/\Rd w' rb nv (p+1,false)/\Chg (fun k=>k=rb) w w':=by
 have h0:w.cell? ⟨rb,0,none⟩=some (.slice g len cap):=by rw [<-hnv];exact Blk.cell hr 0
 have h1:w.cell? ⟨rb,1,none⟩=some (.int .i64 p):=Blk.cell hr 1
 have h2:w.cell? ⟨rb,2,none⟩=some (.bool false):=Blk.cell hr 2
 have hf:w.frozen? ⟨rb,1,none⟩=false:=Blk.frozen hr 1
 have hp':(p:Int) < (len:Int):=by omega
 clear hnv
 go_enter Try.func92,Try.ntmps92
 go_wp2
 go_quiet (fail)
 go_wp2
 go_quiet (fail)
 go_wp2
 go_ret
 exact ⟨rfl,pf hr _⟩
theorem s7 (rb:Nat) (nv:Value) (len cap p g:Nat) (n:Int) (hnv:nv=.slice g len cap) (lo hi:Int) (w:World) (hr:Rd w rb nv (p,false)) (hp:p < len)
 (hc:w.cell? ⟨g,p,none⟩=some (.int .i64 n)) (hlo:n < lo \/ hi < n) :
  Calls Try.prog 92 #[.pointer rb,lo,hi] w fun e w'=>e=.returned (.int .i64 0)/\Rd w' rb nv (p,true)/\Chg (fun k=>k=rb) w w':=by
 have h0:w.cell? ⟨rb,0,none⟩=some (.slice g len cap):=by rw [<-hnv];exact Blk.cell hr 0
 have h1:w.cell? ⟨rb,1,none⟩=some (.int .i64 p):=Blk.cell hr 1
 have h2:w.cell? ⟨rb,2,none⟩=some (.bool false):=Blk.cell hr 2
 have hf:w.frozen? ⟨rb,2,none⟩=false:=Blk.frozen hr 2
 have hp':(p:Int) < (len:Int):=by omega
 clear hnv
 by_cases hlo':n < lo
 ·clear hlo
  go_enter Try.func92,Try.ntmps92
  go_wp2
  go_quiet (fail)
  go_wp2
  go_quiet (fail)
  go_wp2
  go_ret
  exact ⟨rfl,eP hr _⟩
 ·have hhi:hi < n:=by rcases hlo with h | h;exact absurd h hlo';exact h
  clear hlo
  go_enter Try.func92,Try.ntmps92
  go_wp2
  go_quiet (fail)
  go_wp2
  go_quiet (fail)
  go_wp2
  go_ret
  exact ⟨rfl,eP hr _⟩
theorem cd (rb:Nat) (nv:Value) (ns:List Int) (s:Nat × Bool) (lo hi:Int) (w:World) (h:RS w rb nv ns s) (hl:ns.length<=10000) :
 Calls Try.prog 92 #[.pointer rb,lo,hi] w fun e w'=>e=.returned (.int .i64 (tk ns lo hi s).1)/\RS w' rb nv ns (tk ns lo hi s).2/\Chg (fun k=>k=rb) w w':=by
 obtain ⟨hr,hn⟩:=h
 obtain ⟨p,st⟩:=s
 have keep:∀ w',Chg (fun k=>k=rb) w w'->ad w' 0 nv ns:=fun w' k=>af hn k (fun g hg e=>am hn hr (by decide) (by rw [hg,e]))
 cases st with
 | true =>
  refine (s9 rb nv p lo hi w hr).mono ?_
  rintro e w' ⟨rfl,h1,h2⟩
  exact ⟨by simp [tk],⟨by simpa [tk] using h1,keep w' h2⟩,h2⟩
 | false =>
  by_cases hp:ns.length<=p
  ·have hnv:∃ a cap,nv=.slice a ns.length cap:=by
    rcases hn.2 with ⟨h1,h2⟩ | ⟨g,cap,cur,rfl,_⟩
    ·exact ⟨none,0,by rw [h1,h2]⟩
    ·exact ⟨_,_,rfl⟩
   obtain ⟨a,cap,hnv⟩:=hnv
   refine (tG rb nv ns.length cap p a hnv lo hi w hr hp).mono ?_
   rintro e w' ⟨rfl,h1,h2⟩
   exact ⟨by simp [tk,hp],⟨by simpa [tk,hp] using h1,keep w' h2⟩,h2⟩
  ·have hp':p < ns.length:=by omega
   obtain ⟨g,cap,hnv,_,_,_,hc⟩:=hn.form (by omega)
   have hc:=hc p hp'
   by_cases hb:ns.getD p 0 < lo \/ hi < ns.getD p 0
   ·refine (s7 rb nv ns.length cap p g _ hnv lo hi w hr hp' hc hb).mono ?_
    rintro e w' ⟨rfl,h1,h2⟩
    have e1:tk ns lo hi (p,false)=(0,(p,true)):=by unfold tk;rw [if_neg (by simpa using hp'),if_pos hb]
    rw [e1]
    exact ⟨rfl,⟨h1,keep w' h2⟩,h2⟩
   ·refine (sR rb nv ns.length cap p g _ hnv lo hi w hr hp' hl hc (by omega) (by omega)).mono ?_
    rintro e w' ⟨rfl,h1,h2⟩
    have e1:tk ns lo hi (p,false)=(ns.getD p 0,(p+1,false)):=by unfold tk;rw [if_neg (by simpa using hp'),if_neg hb]
    rw [e1]
    exact ⟨rfl,⟨h1,keep w' h2⟩,h2⟩
end Go.Proofs.Ytnfnbcbadakofaa
namespace Go.Proofs.Ytnfnbcbadakofaa
open Go.RowKit
def tkL (ns:List Int) (hi:Int):Nat->Nat × Bool->List Int × (Nat × Bool)
 | 0,s=>([],s)
 | k+1,s=>((tkL ns hi k s).1++[(tk ns 0 hi (tkL ns hi k s).2).1],(tk ns 0 hi (tkL ns hi k s).2).2)
theorem dj (ns:List Int) (hi:Int) (k:Nat) (s:Nat × Bool):(tkL ns hi k s).1.length=k:=by
 induction k with
 | zero=>rfl
 | succ k ih=>simp [tkL,ih]
theorem cQ {P:Program} {t:TypeId} {z:Value} {s b:Nat} (h:(P.info? t).map (fun i=>(i.zero,i.size,i.bytes))=some (some z,s,b)) :
 ∃ i:TypeInfo,P.info? t=some i/\i.zero=some z/\i.size=s/\i.bytes=b:=by
 cases hi:P.info? t with
 | none=>rw [hi] at h;cases h
 | some i=>rw [hi] at h;simp at h;exact ⟨i,rfl,h.1,h.2.1,h.2.2⟩
theorem dQ:∃ i:TypeInfo,Try.prog.info? 3=some i/\i.zero=some (.int .i64 0)/\i.size=1/\i.bytes=8:=cQ (by kernel_rfl)
set_option maxHeartbeats 400000 in
set_option maxRecDepth 100000 in
theorem eV (rb:Nat) (nv:Value) (ns:List Int) (s:Nat × Bool) (c hi:Int) (w:World) (h:RS w rb nv ns s) (hl:ns.length<=10000) (hc:c<=10000) :
 Calls Try.prog 93 #[.pointer rb,c,hi] w fun e w'=>∃ v,e=.returned v/\ad w' w.heap.size v (tkL ns hi c.toNat s).1/\RS w' rb nv ns (tkL ns hi c.toNat s).2/\Chg (fun k=>k=rb) w w':=by
 obtain ⟨i,hi1,hi2,hi3,hi4⟩:=dQ
 have Hi1:=hid hi1
 have Hi2:=hid hi2
 have Hi3:=hid hi3
 have Hi4:=hid hi4
 clear hi1 hi2 hi3 hi4
 go_enter Try.func93,Try.ntmps93
 go_wp2
 go_loopw [7,8] (fun v i wr=>∃ k:Nat,k<=c.toNat/\i=.int .i64 k/\ad wr w.heap.size v (tkL ns hi k s).1/\RS wr rb nv ns (tkL ns hi k s).2/\Chg (fun k=>k=rb) w wr) (fun _ i _=>c.toNat - (intOf i).toNat)
 case atStart=>exact ⟨0,Nat.zero_le _,rfl,World.ownsRow_nil _ _ _ _,h,Chg.refl _ _⟩
 case round =>
  obtain ⟨k,hk,rfl,hown,hrs,hch⟩:=hrel
  by_cases hlt:(k:Int) < c
  ·go_wp2_with fail
   refine (cd rb nv ns _ 0 hi _ hrs hl).mono ?_
   rintro e w1 ⟨rfl,hrs1,hch1⟩
   have hown1:ad w1 w.heap.size u7 (tkL ns hi k s).1:=hown.rs hrs.1 hch1
   have hsz:w.heap.size<=w1.heap.size:=Nat.le_trans hch.size hch1.size
   generalize hX:(tk ns 0 hi (tkL ns hi k s).2).1=X
   have HX:=hid hX
   clear hX
   go_wp2_with (at_builtin;refine wpList_append_lies _ rfl _ _ 47 rfl w.heap.size 3 i (.int .i64 0) 1 8 Try.underlying47 Hi1.out Hi2.out Hi3.out Hi4.out rfl (by decide) _ _ _ rfl (World.ownsRow.alloc hown1 _) ⟨w1.heap.size,0,none⟩ 1 1 [.int .i64 X] rfl rfl ?c1 ?c2 (by decide) ?c3 ?c4 ?c5 _ rfl ?_)
   case c1=>exact cell_one_new _ _ _
   case c2=>intro u hu;simp at hu;subst hu;rfl
   case c3=>rw [dj];unfold maxLen;omega
   case c4=>rw [dj];omega
   case c5=>simp;omega
   ·intro g cap w2 hown2 hgrow hat hlt2
    go_wp2
    have hch2:Chg (fun k=>k=rb) w w2:=(((hch.trans hch1).alloc _).grown hgrow (fun k hk=>.inr (hown1.lt k hk).1))
    have hrd2:Rd w2 rb nv (tk ns 0 hi (tkL ns hi k s).2).2:=(hrs1.1.alloc _).grown hgrow (fun e=>by have:=(hown1.lt rb e.symm).1;have:=h.lt;omega)
    refine ⟨⟨k+1,by omega,rfl,?_,⟨hrd2,h.2.rs h.1 hch2⟩,hch2⟩,by simp [intOf];omega⟩
    rw [<-HX.out,dj] at hown2
    have e3:=dj ns hi k s
    unfold ad
    simp only [tkL,aF,List.map_append,List.length_append,List.map_cons,List.map_nil,List.length_cons,List.length_nil,e3] at hown2 ⊢
    exact hown2
  ·go_wp2
   go_ret
   have e1:c.toNat=k:=by omega
   rw [e1]
   exact ⟨u7,rfl,hown,hrs,hch⟩
end Go.Proofs.Ytnfnbcbadakofaa
namespace Go.Proofs.Ytnfnbcbadakofaa
open Go.RowKit
def bA (nT fu lo co op:Int):Int × Int:=
 if op=0 then (0,255) else if op=5 \/ op=6 then (0,lo - 1) else if 7<=op/\op<=12 then (1,nT)
 else if op=13 \/ op=14 then (0,co - 1) else if op=15 then (0,fu - 1) else (0,0)
theorem ad.slice {w:World} {base:Nat} {v:Value} {l:List Int} (h:ad w base v l):∃ a cap,v=.slice a l.length cap:=by
 rcases h.2 with ⟨h1,h2⟩ | ⟨g,cap,cur,rfl,_⟩
 ·exact ⟨none,0,by rw [h1,h2]⟩
 ·exact ⟨_,_,rfl⟩
theorem lT {w:World} (o:Obj) (n:Nat):Chg () w ((w.alloc o).drewN n):=((Chg.refl _ w).alloc o).drewN n
theorem bi {w:World} (o:Obj):Chg () w (w.alloc o):=((Chg.refl _ w).alloc o)
set_option maxHeartbeats 1000000 in
set_option maxRecDepth 100000 in
theorem kq (a:Option Addr) (nT cap:Nat) (fu lo co op:Int) (w:World) (h1:0<=op) (h2:op<=18) (_hn:nT<=10000) (hlo:0<=lo) (hlo2:lo<=10000) (hco:0<=co) (hco2:co<=10000) (hfu:0<=fu) (hfu2:fu<=10000) :
 Calls Try.prog 135 #[.agg #[.slice a nT cap,fu,lo,co],op] w fun e w' =>
  e=.returned (.tuple #[.int .i64 (bA nT fu lo co op).1,.int .i64 (bA nT fu lo co op).2])/\Chg () w w':=by
 have hop:op=0 \/ op=1 \/ op=2 \/ op=3 \/ op=4 \/ op=5 \/ op=6 \/ op=7 \/ op=8 \/ op=9 \/ op=10 \/ op=11 \/ op=12 \/ op=13 \/ op=14 \/ op=15 \/ op=16 \/ op=17 \/ op=18:=by omega
 clear h1 h2
 rcases hop with rfl | rfl | rfl | rfl | rfl | rfl | rfl | rfl | rfl | rfl | rfl | rfl | rfl | rfl | rfl | rfl | rfl | rfl | rfl
 all_goals
  go_enter Try.func135,Try.ntmps135
  go_wp2
  first
   | (go_ret2;exact ⟨rfl,bi _⟩)
   | (go_quiet (fail)
      go_wp2
      go_ret2
      exact ⟨rfl,lT _ _⟩)
end Go.Proofs.Ytnfnbcbadakofaa
namespace Go.Proofs.Ytnfnbcbadakofaa
open Go.RowKit
set_option maxHeartbeats 400000
set_option maxRecDepth 100000
def ai (w:World) (base:Nat) (v:Value) (ls:List (List Int)):Prop:=
 ∃ vs:List Value,w.ownsRow base 47 1 v ls.length vs/\∀ j u,vs[j]?=some u->ad w base u (ls.getD j [])
theorem ai.slice {w:World} {base:Nat} {v:Value} {ls:List (List Int)} (h:ai w base v ls):∃ a cap,v=.slice a ls.length cap:=by
 obtain ⟨vs,h,_⟩:=h
 rcases h.2 with ⟨h1,h2⟩ | ⟨g,cap,cur,rfl,_⟩
 ·exact ⟨none,0,by rw [h1,h2]⟩
 ·exact ⟨_,_,rfl⟩
theorem ai.mono {w:World} {base base':Nat} {v:Value} {ls:List (List Int)} (h:ai w base v ls) (hb:base'<=base):ai w base' v ls:=by
 obtain ⟨vs,h,k⟩:=h
 exact ⟨vs,ap h hb,fun j u hj=>ap (k j u hj) hb⟩
theorem ai.chg {S:Nat->Prop} {w w':World} {base:Nat} {v:Value} {ls:List (List Int)} (h:ai w base v ls) (k:Chg S w w') (h3:∀ g cs,Blk w g cs 3->¬ S g) (h47:∀ g cs,Blk w g cs 47->¬ S g):ai w' base v ls:=by
 obtain ⟨vs,h,hk⟩:=h
 exact ⟨vs,af h k (fun g hg=>by obtain ⟨cs,hb⟩:=az h hg;exact h47 g cs hb),fun j u hj=>af (hk j u hj) k (fun g hg=>by obtain ⟨cs,hb⟩:=az (hk j u hj) hg;exact h3 g cs hb)⟩
theorem ai.cell {w:World} {base:Nat} {v:Value} {ls:List (List Int)} (h:ai w base v ls) (j:Nat) (hj:j < ls.length) :
 ∃ g cap u,v=.slice (some ⟨g,0,none⟩) ls.length cap/\ls.length<=cap/\w.cell? ⟨g,j,none⟩=some u/\ad w base u (ls.getD j []):=by
 obtain ⟨vs,h,hk⟩:=h
 have hc:=fun g=>World.ownsRow.cells (g:=g) h
 have hlen:vs.length=ls.length:=by have:=h.1;omega
 rcases h.2 with ⟨_,h0⟩ | ⟨g,cap,cur,rfl,hb,hgg,hle,hcap,_⟩
 ·omega
 ·obtain ⟨u,hu⟩:∃ u,vs[j]?=some u:=⟨vs[j],by simp⟩
  refine ⟨g,cap,u,rfl,hle,?_,hk j u hu⟩
  have:=hc g rfl j u hu
  have hadd:(⟨g,0,none⟩:Addr).add j=⟨g,j,none⟩:=by unfold Addr.add;split <;> simp_all
  rwa [hadd] at this
def ax (ls:List (List Int)) (a:Int):List Int:=if a < 1 \/ (ls.length:Int) < a then [] else ls.getD (a - 1).toNat []
theorem eH (a:Option Addr) (n cap:Nat) (t:Int) (w:World) (h:t < 1 \/ (n:Int) < t) :
 Calls Try.prog 105 #[.slice a n cap,t] w fun e w'=>e=.returned (.slice none 0 0)/\w'=w:=by
 by_cases h1:t < 1
 ·clear h
  go_enter Try.func105,Try.ntmps105
  go_wp2
  go_ret
  exact ⟨rfl,rfl⟩
 ·have h2:(n:Int) < t:=by omega
  clear h
  go_enter Try.func105,Try.ntmps105
  go_wp2
  go_ret
  exact ⟨rfl,rfl⟩
theorem dV (g n cap j:Nat) (u:Value) (w:World) (h:j < n) (hn:n<=10000) (hc:w.cell? ⟨g,j,none⟩=some u) (hu:∃ a m c,u=.slice a m c) :
 Calls Try.prog 105 #[.slice g n cap,((j:Int)+1:Int)] w fun e w'=>e=.returned u/\w'=w:=by
 obtain ⟨a,m,c,rfl⟩:=hu
 have h':(j:Int) < n:=by omega
 go_enter Try.func105,Try.ntmps105
 go_wp2
 go_ret
 exact ⟨rfl,rfl⟩
theorem bM (tv:Value) (ls:List (List Int)) (t:Int) (w:World) (base:Nat) (h:ai w base tv ls) (hn:ls.length<=10000) :
 Calls Try.prog 105 #[tv,t] w fun e w'=>∃ u,e=.returned u/\ad w base u (ax ls t)/\w'=w:=by
 by_cases ht:t < 1 \/ (ls.length:Int) < t
 ·obtain ⟨a,cap,rfl⟩:=h.slice
  refine (eH a _ cap t w ht).mono ?_
  rintro e w' ⟨rfl,rfl⟩
  refine ⟨_,rfl,?_,rfl⟩
  unfold ax;rw [if_pos ht]
  exact World.ownsRow_nil _ _ _ _
 ·obtain ⟨j,rfl⟩:∃ j:Nat,t=(j:Int)+1:=⟨(t - 1).toNat,by omega⟩
  obtain ⟨g,cap,u,rfl,hle,hc,hu⟩:=h.cell j (by omega)
  obtain ⟨a,c,hs⟩:=hu.slice
  refine (dV g _ cap j u w (by omega) hn hc ⟨a,_,c,hs⟩).mono ?_
  rintro e w' ⟨rfl,rfl⟩
  refine ⟨_,rfl,?_,rfl⟩
  unfold ax;rw [if_neg ht]
  have e1:((j:Int)+1 - 1).toNat=j:=by omega
  rw [e1]
  exact hu
def gB (ls:List (List Int)) (op a:Int):Int:=if op ≠ 8/\op ≠ 9 then 0 else ((ax ls a).length:Int) - 1
theorem iA (tv:Value) (ls:List (List Int)) (fu lo co op a:Int) (w:World) (base:Nat) (h:ai w base tv ls) (hn:ls.length<=10000) (hf:(ax ls a).length<=10000) :
 Calls Try.prog 136 #[.agg #[tv,fu,lo,co],op,a] w fun e w'=>e=.returned (.int .i64 (gB ls op a))/\Chg () w w':=by
 by_cases h8:op=8
 ·subst h8
  go_enter Try.func136,Try.ntmps136
  go_wp2_with fail
  refine (bM tv ls a _ base (h.chg (bi _) (fun _ _ _ e=>e) (fun _ _ _ e=>e)) hn).mono ?_
  rintro e w1 ⟨u,rfl,hu,rfl⟩
  obtain ⟨x,c,rfl⟩:=hu.slice
  go_wp2
  go_ret
  exact ⟨rfl,bi _⟩
 ·by_cases h9:op=9
  ·subst h9
   go_enter Try.func136,Try.ntmps136
   go_wp2_with fail
   refine (bM tv ls a _ base (h.chg (bi _) (fun _ _ _ e=>e) (fun _ _ _ e=>e)) hn).mono ?_
   rintro e w1 ⟨u,rfl,hu,rfl⟩
   obtain ⟨x,c,rfl⟩:=hu.slice
   go_wp2
   go_ret
   exact ⟨rfl,bi _⟩
  ·have h8':(op != 8)=true:=by simp [h8]
   have h9':(op != 9)=true:=by simp [h9]
   have e1:gB ls op a=0:=by simp [gB,h8,h9]
   rw [e1]
   clear e1 h8 h9
   go_enter Try.func136,Try.ntmps136
   go_wp2
   go_ret
   exact ⟨rfl,bi _⟩
end Go.Proofs.Ytnfnbcbadakofaa
namespace Go.Proofs.Ytnfnbcbadakofaa
open Go.RowKit
theorem Blk.new' {w:World} {b:Nat} (h:w.heap.size=b) (cs:Array Value) (e:TypeId):Blk (w.alloc (.cells cs e)) b cs e:=by subst h;exact Blk.new w cs e
theorem gV (w:World) (b:Nat) (x y z:Value):Chg (fun k=>k=b) w (((w.setCell ⟨b,0,none⟩ x).setCell ⟨b,1,none⟩ y).setCell ⟨b,2,none⟩ z):=by
 have h0:Chg (fun k=>k=b) w w:=Chg.refl _ w
 have h1:=h0.setCell ⟨b,0,none⟩ x (Or.inl rfl)
 have h2:=h1.setCell ⟨b,1,none⟩ y (Or.inl rfl)
 exact h2.setCell ⟨b,2,none⟩ z (Or.inl rfl)
theorem RS.chg {S:Nat->Prop} {w w':World} {rb:Nat} {nv:Value} {ns:List Int} {s:Nat × Bool} (h:RS w rb nv ns s) (k:Chg S w w') (h1:¬ S rb) (h2:∀ g cs,Blk w g cs 3->¬ S g):RS w' rb nv ns s:=
 ⟨h.1.chg k h1,af h.2 k (fun g hg=>by obtain ⟨cs,hb⟩:=az h.2 hg;exact h2 g cs hb)⟩
theorem RS.new {w w':World} {rb:Nat} {nv:Value} {ns:List Int} {s:Nat × Bool} (h:RS w rb nv ns s) (k:Chg () w w'):RS w' rb nv ns s:=h.chg k (fun e=>e) (fun _ _ _ e=>e)
theorem ai.new {w w':World} {base:Nat} {v:Value} {ls:List (List Int)} (h:ai w base v ls) (k:Chg () w w'):ai w' base v ls:=h.chg k (fun _ _ _ e=>e) (fun _ _ _ e=>e)
theorem ai.rs {w w':World} {rb:Nat} {nv:Value} {s:Nat × Bool} {base:Nat} {v:Value} {ls:List (List Int)} (h:ai w base v ls) (hr:Rd w rb nv s) (k:Chg (fun k=>k=rb) w w'):ai w' base v ls:=
 h.chg k (fun _ _ hb e=>(hb.ne hr (by decide)) e) (fun _ _ hb e=>(hb.ne hr (by decide)) e)
theorem Chg.ofNew {S:Nat->Prop} {w w':World} (h:Chg () w w'):Chg S w w':=h.mono (fun _ _ e=>e.elim)
theorem tk0 (ns:List Int) (hi:Int) (s:Nat × Bool) (h:0<=hi):0<=(tk ns 0 hi s).1/\(tk ns 0 hi s).1<=hi:=by
 unfold tk;repeat' split
 ·exact ⟨Int.le_refl _,h⟩
 ·exact ⟨Int.le_refl _,h⟩
 ·constructor <;> simp_all <;> omega
def tkI (ns:List Int) (ls:List (List Int)) (fu lo co:Int) (s:Nat × Bool):(Int × Int × Int) × (Nat × Bool):=
 let r1:=tk ns 0 18 s
 let r2:=tk ns (bA ls.length fu lo co r1.1).1 (bA ls.length fu lo co r1.1).2 r1.2
 let r3:=tk ns 0 (gB ls r1.1 r2.1) r2.2
 ((r1.1,r2.1,r3.1),r3.2)
theorem px {ls:List (List Int)} (h:∀ j,(ls.getD j []).length<=10000) (a:Int):(ax ls a).length<=10000:=by
 unfold ax;split
 ·simp
 ·exact h _
set_option maxHeartbeats 1000000 in
set_option maxRecDepth 100000 in
theorem jt (rb:Nat) (nv:Value) (ns:List Int) (s:Nat × Bool) (a:Option Addr) (cap:Nat) (ls:List (List Int)) (fu lo co:Int) (w:World) (base:Nat) (h:RS w rb nv ns s) (hl:ns.length<=10000) (ht:ai w base (.slice a ls.length cap) ls)
 (hn:ls.length<=10000) (hls:∀ j,(ls.getD j []).length<=10000) (hlo:0<=lo) (hlo2:lo<=10000) (hco:0<=co) (hco2:co<=10000) (hfu:0<=fu) (hfu2:fu<=10000)
 (r1 r2 r3:Int × (Nat × Bool)) (bb:Int × Int) (gg:Int) (H1:Hid (tk ns 0 18 s=r1)) (HB:Hid (bA ls.length fu lo co r1.1=bb)) (H2:Hid (tk ns bb.1 bb.2 r1.2=r2)) (HG:Hid (gB ls r1.1 r2.1=gg)) (H3:Hid (tk ns 0 gg r2.2=r3))
 (ho:0<=r1.1/\r1.1<=18) :
 Calls Try.prog 121 #[.pointer rb,.agg #[.slice a ls.length cap,fu,lo,co]] w fun e w' =>
  e=.returned (.agg #[r1.1,r2.1,r3.1])/\RS w' rb nv ns r3.2/\Chg (fun k=>k=rb) w w':=by
 have hrlt:=h.lt
 have hfl:=px hls r2.1
 clear hls
 go_enter Try.func121,Try.ntmps121
 go_wp2_with fail
 have k0:Chg () w ((w.alloc (Obj.cells #[.slice a ls.length cap,fu,lo,co] 177)).alloc (Obj.cells #[oO,oO,oO] 98)):=((Chg.refl _ w).alloc _).alloc _
 have b1:Blk _ w.heap.size _ 177:=(Blk.new w #[.slice a ls.length cap,.int .i64 fu,.int .i64 lo,.int .i64 co] 177).alloc (Obj.cells #[oO,oO,oO] 98)
 have b2:Blk _ (w.heap.size+1) _ 98:=Blk.new' (w:=w.alloc (Obj.cells #[.slice a ls.length cap,fu,lo,co] 177)) (by simp) #[oO,oO,oO] 98
 have hrs:=h.new k0
 have ht0:=ht.new k0
 generalize ((w.alloc (Obj.cells #[.slice a ls.length cap,fu,lo,co] 177)).alloc (Obj.cells #[oO,oO,oO] 98))=w0 at *
 refine (cd rb nv ns _ 0 18 _ hrs hl).mono ?_
 rw [H1.out]
 rintro e w1 ⟨rfl,hrs1,hch1⟩
 have ht1:=ht0.rs hrs.1 hch1
 have b1':=b1.chg hch1 (by omega)
 have b2':=b2.chg hch1 (by omega)
 have k1:=(Chg.ofNew (S:=fun k=>k=rb) k0).trans hch1
 clear b1 b2 k0 hrs ht0 hch1
 have c0:w1.cell? ⟨w.heap.size,0,none⟩=some (.slice a ls.length cap):=b1'.cell 0
 have c1:w1.cell? ⟨w.heap.size,1,none⟩=some (.int .i64 fu):=b1'.cell 1
 have c2:w1.cell? ⟨w.heap.size,2,none⟩=some (.int .i64 lo):=b1'.cell 2
 have c3:w1.cell? ⟨w.heap.size,3,none⟩=some (.int .i64 co):=b1'.cell 3
 go_wp2_with fail
 refine (kq a ls.length cap fu lo co _ _ ho.1 ho.2 hn hlo hlo2 hco hco2 hfu hfu2).mono ?_
 rw [HB.out]
 rintro e w2 ⟨rfl,hch2⟩
 clear c0 c1 c2 c3
 have ht2:=ht1.new hch2
 have b1:=b1'.chg hch2 (fun e=>e)
 have b2:=b2'.chg hch2 (fun e=>e)
 have hrs2:=hrs1.new hch2
 have k2:=k1.trans (Chg.ofNew hch2)
 clear b1' b2' hrs1 ht1 hch2 k1
 go_wp2_with fail
 refine (cd rb nv ns _ _ _ _ hrs2 hl).mono ?_
 rw [H2.out]
 rintro e w3 ⟨rfl,hrs3,hch3⟩
 have ht3:=ht2.rs hrs2.1 hch3
 have b1':=b1.chg hch3 (by omega)
 have b2':=b2.chg hch3 (by omega)
 have k3:=k2.trans hch3
 clear b1 b2 hrs2 ht2 hch3 k2
 have c0:w3.cell? ⟨w.heap.size,0,none⟩=some (.slice a ls.length cap):=b1'.cell 0
 have c1:w3.cell? ⟨w.heap.size,1,none⟩=some (.int .i64 fu):=b1'.cell 1
 have c2:w3.cell? ⟨w.heap.size,2,none⟩=some (.int .i64 lo):=b1'.cell 2
 have c3:w3.cell? ⟨w.heap.size,3,none⟩=some (.int .i64 co):=b1'.cell 3
 go_wp2_with fail
 refine (iA _ ls fu lo co _ _ _ base ht3 hn hfl).mono ?_
 rw [HG.out]
 rintro e w4 ⟨rfl,hch4⟩
 clear c0 c1 c2 c3
 have b2:=b2'.chg hch4 (fun e=>e)
 have hrs4:=hrs3.new hch4
 have k4:=k3.trans (Chg.ofNew hch4)
 clear b1' b2' hrs3 ht3 hch4 k3
 go_wp2_with fail
 refine (cd rb nv ns _ _ _ _ hrs4 hl).mono ?_
 rw [H3.out]
 rintro e w5 ⟨rfl,hrs5,hch5⟩
 have b2':=b2.chg hch5 (by omega)
 have k5:=k4.trans hch5
 clear b2 hrs4 hch5 k4
 have d0:w5.cell? ⟨w.heap.size+1,0,none⟩=some (.int .i64 0):=b2'.cell 0
 have d1:w5.cell? ⟨w.heap.size+1,1,none⟩=some (.int .i64 0):=b2'.cell 1
 have d2:w5.cell? ⟨w.heap.size+1,2,none⟩=some (.int .i64 0):=b2'.cell 2
 have f0:=b2'.frozen 0
 have f1:=b2'.frozen 1
 have f2:=b2'.frozen 2
 go_wp2
 have b3:=((b2'.set 0 (.int .i64 r1.1)).set 1 (.int .i64 r2.1)).set 2 (.int .i64 r3.1)
 have hfin:RS (((w5.setCell ⟨w.heap.size+1,0,none⟩ r1.1).setCell ⟨w.heap.size+1,1,none⟩ r2.1).setCell ⟨w.heap.size+1,2,none⟩ r3.1) rb nv ns r3.2:=
  hrs5.chg (gV w5 (w.heap.size+1) _ _ _) (by omega) (fun g cs hb e=>hb.ne b2' (by decide) e)
 have hk:Chg (fun k=>k=rb) w (((w5.setCell ⟨w.heap.size+1,0,none⟩ r1.1).setCell ⟨w.heap.size+1,1,none⟩ r2.1).setCell ⟨w.heap.size+1,2,none⟩ r3.1):=
  k5.trans' (gV w5 (w.heap.size+1) _ _ _) (fun i hi e=>by omega)
 generalize (((w5.setCell ⟨w.heap.size+1,0,none⟩ r1.1).setCell ⟨w.heap.size+1,1,none⟩ r2.1).setCell ⟨w.heap.size+1,2,none⟩ r3.1)=wf at *
 have q0:wf.cell? ⟨w.heap.size+1,0,none⟩=some (.int .i64 r1.1):=b3.cell 0
 have q1:wf.cell? ⟨w.heap.size+1,1,none⟩=some (.int .i64 r2.1):=b3.cell 1
 have q2:wf.cell? ⟨w.heap.size+1,2,none⟩=some (.int .i64 r3.1):=b3.cell 2
 exact bodyPost_ret (v:=.agg #[r1.1,r2.1,r3.1]) (by simp [results,Try.results121,go_sem,q0,q1,q2]) rfl ⟨rfl,hfin,hk⟩
theorem jQ (rb:Nat) (nv:Value) (ns:List Int) (s:Nat × Bool) (tv:Value) (ls:List (List Int)) (fu lo co:Int) (w:World) (base:Nat) (h:RS w rb nv ns s) (hl:ns.length<=10000) (ht:ai w base tv ls)
 (hn:ls.length<=10000) (hls:∀ j,(ls.getD j []).length<=10000) (hlo:0<=lo) (hlo2:lo<=10000) (hco:0<=co) (hco2:co<=10000) (hfu:0<=fu) (hfu2:fu<=10000) :
 Calls Try.prog 121 #[.pointer rb,.agg #[tv,fu,lo,co]] w fun e w' =>
  e=.returned (.agg #[.int .i64 (tkI ns ls fu lo co s).1.1,.int .i64 (tkI ns ls fu lo co s).1.2.1,.int .i64 (tkI ns ls fu lo co s).1.2.2])/\RS w' rb nv ns (tkI ns ls fu lo co s).2/\Chg (fun k=>k=rb) w w':=by
 obtain ⟨a,cap,rfl⟩:=ht.slice
 exact jt rb nv ns s a cap ls fu lo co w base h hl ht hn hls hlo hlo2 hco hco2 hfu hfu2 _ _ _ _ _ rfl rfl rfl rfl rfl (tk0 ns 18 s (by decide))
end Go.Proofs.Ytnfnbcbadakofaa
