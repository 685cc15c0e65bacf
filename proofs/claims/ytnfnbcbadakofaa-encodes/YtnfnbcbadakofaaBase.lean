import Derived.Test.YtnfnbcbadakofaaRows
import Derived.WalkKit
import Derived.WalkSpells
import Derived.WalkLawsBesides
import Derived.BigQuiet
import Derived.Deep.AppendLies
namespace Go.Proofs.Ytnfnbcbadakofaa
open Go.RowKit
instance : Coe Unit (Nat->Prop):=⟨fun _ _=>False⟩
inductive Oz:Type where
 | o
def oO:Oz:=.o
instance : Coe Int Value:=⟨.int .i64⟩
instance : Coe Nat Value:=⟨fun n=>.int .i64 (n : Int)⟩
instance : Coe Unit Value:=⟨fun _=>.slice none 0 0⟩
instance : Coe Oz Value:=⟨fun _=>.int .i64 0⟩
theorem hid {p:Prop} (h:p):Hid p:=h
structure Chg (S:Nat->Prop) (w w':World):Prop where
 os:w'.os=w.os
 tape:w'.tape=w.tape
 output:w'.output=w.output
 size:w.heap.size<=w'.heap.size
 block:∀ k,k < w.heap.size->¬ S k->w'.heap[k]?=w.heap[k]?
theorem Chg.refl (S:Nat->Prop) (w:World):Chg S w w:=⟨rfl,rfl,rfl,Nat.le_refl _,fun _ _ _=>rfl⟩
theorem Chg.trans {S:Nat->Prop} {a b c:World} (h:Chg S a b) (k:Chg S b c):Chg S a c:=
 ⟨k.os.trans h.os,k.tape.trans h.tape,k.output.trans h.output,Nat.le_trans h.size k.size,fun i hi hs=>(k.block i (Nat.lt_of_lt_of_le hi h.size) hs).trans (h.block i hi hs)⟩
theorem Chg.trans' {S T:Nat->Prop} {a b c:World} (h:Chg S a b) (k:Chg T b c) (hT:∀ i,i < a.heap.size->T i->S i):Chg S a c:=
 ⟨k.os.trans h.os,k.tape.trans h.tape,k.output.trans h.output,Nat.le_trans h.size k.size,fun i hi hs=>(k.block i (Nat.lt_of_lt_of_le hi h.size) (fun e=>hs (hT i hi e))).trans (h.block i hi hs)⟩
theorem Chg.mono {S T:Nat->Prop} {a b:World} (h:Chg S a b) (hT:∀ i,i < a.heap.size->S i->T i):Chg T a b:=
 ⟨h.os,h.tape,h.output,h.size,fun i hi hs=>h.block i hi (fun e=>hs (hT i hi e))⟩
theorem Chg.drew {S:Nat->Prop} {a w:World} (h:Chg S a w):Chg S a w.drew:=⟨h.os,h.tape,h.output,h.size,h.block⟩
theorem Chg.drewN {S:Nat->Prop} {a w:World} (h:Chg S a w) (n:Nat):Chg S a (w.drewN n):=⟨h.os,h.tape,h.output,h.size,h.block⟩
theorem Chg.alloc {S:Nat->Prop} {a w:World} (h:Chg S a w) (o:Obj):Chg S a (w.alloc o):=
 ⟨h.os,h.tape,h.output,Nat.le_trans h.size (by simp),fun k hk hs=>(Below.heap_alloc _ _ _ (Nat.lt_of_lt_of_le hk h.size)).trans (h.block k hk hs)⟩
theorem Chg.setCell {S:Nat->Prop} {a w:World} (h:Chg S a w) (p:Addr) (v:Value) (hp:S p.block \/ a.heap.size<=p.block):Chg S a (w.setCell p v):=
 ⟨h.os,h.tape,h.output,Nat.le_trans h.size (by simp [World.setCell]),fun k hk hs=>(Below.heap_setCell _ _ _ _ (fun e=>by subst e;rcases hp with hp | hp;exact hs hp;omega)).trans (h.block k hk hs)⟩
theorem Chg.grown {S:Nat->Prop} {a w w':World} {row:Option Nat} (h:Chg S a w) (hg:w.grownBy w' row) (hr:∀ k,row=some k->S k \/ a.heap.size<=k):Chg S a w':=
 ⟨hg.os.trans h.os,hg.tape.trans h.tape,hg.output.trans h.output,Nat.le_trans h.size hg.size,fun k hk hs=>(hg.block k (Nat.lt_of_lt_of_le hk h.size) (fun e=>by rcases hr k e.symm with h | h;exact hs h;omega)).trans (h.block k hk hs)⟩
theorem Chg.below {w w':World} (h:Chg () w w'):Below w.heap.size w w':=⟨h.os,h.tape,h.output,h.size,fun k hk=>h.block k hk (fun e=>e)⟩
instance : Coe Nat (Option Addr):=⟨fun g=>some ⟨g,0,none⟩⟩
def Blk (w:World) (b:Nat) (cs:Array Value) (e:TypeId):Prop:=w.heap[b]?=some (.cells cs e (0,0))
theorem Blk.lt {w:World} {b:Nat} {cs:Array Value} {e:TypeId} (h:Blk w b cs e):b < w.heap.size:=(Array.getElem?_eq_some_iff.1 h).1
theorem Blk.cell {w:World} {b:Nat} {cs:Array Value} {e:TypeId} (h:Blk w b cs e) (i:Nat):w.cell? ⟨b,i,none⟩=cs[i]?:=by
 unfold Blk at h;simp [World.cell?,h]
theorem Blk.frozen {w:World} {b:Nat} {cs:Array Value} {e:TypeId} (h:Blk w b cs e) (i:Nat):w.frozen? ⟨b,i,none⟩=false:=by
 unfold Blk at h;simp [World.frozen?,h]
theorem Blk.chg {S:Nat->Prop} {w w':World} {b:Nat} {cs:Array Value} {e:TypeId} (h:Blk w b cs e) (k:Chg S w w') (hs:¬ S b):Blk w' b cs e:=(k.block b h.lt hs).trans h
theorem Blk.drewN {w:World} {b:Nat} {cs:Array Value} {e:TypeId} (h:Blk w b cs e) (n:Nat):Blk (w.drewN n) b cs e:=h
theorem Blk.alloc {w:World} {b:Nat} {cs:Array Value} {e:TypeId} (h:Blk w b cs e) (o:Obj):Blk (w.alloc o) b cs e:=(Below.heap_alloc _ _ _ h.lt).trans h
theorem Blk.new (w:World) (cs:Array Value) (e:TypeId):Blk (w.alloc (.cells cs e)) w.heap.size cs e:=heap_alloc_new w _
theorem Blk.set {w:World} {b:Nat} {cs:Array Value} {e:TypeId} (h:Blk w b cs e) (i:Nat) (v:Value):Blk (w.setCell ⟨b,i,none⟩ v) b (cs.setIfInBounds i v) e:=by
 unfold Blk at *;simp [World.setCell,Array.getElem?_modify,h]
theorem Blk.setOther {w:World} {b:Nat} {cs:Array Value} {e:TypeId} (h:Blk w b cs e) (p:Addr) (v:Value) (hp:b ≠ p.block):Blk (w.setCell p v) b cs e:=(Below.heap_setCell _ _ _ _ hp).trans h
theorem Blk.grown {w w':World} {b:Nat} {cs:Array Value} {e:TypeId} {row:Option Nat} (h:Blk w b cs e) (k:w.grownBy w' row) (hs:some b ≠ row):Blk w' b cs e:=(k.block b h.lt hs).trans h
theorem Blk.ne {w:World} {b b':Nat} {cs cs':Array Value} {e e':TypeId} (h:Blk w b cs e) (k:Blk w b' cs' e') (he:e ≠ e'):b ≠ b':=by
 intro hb;subst hb;unfold Blk at h k;rw [h] at k;simp at k;exact he k.2
section
variable {w w':World} {base:Nat} {e:TypeId} {size:Nat} {v:Value} {n:Nat} {xs:List Value}
theorem own_blk (h:w.ownsRow base e size v n xs) {g:Nat} (hg:v.ownBlock=some g):∃ cs,Blk w g cs e:=by
 rcases h.2 with ⟨rfl,_⟩ | ⟨g',cap,cur,rfl,_,hgg,_⟩
 ·simp [Value.ownBlock] at hg
 ·simp [Value.ownBlock] at hg;subst hg;exact ⟨cur,hgg⟩
theorem own_ne (h:w.ownsRow base e size v n xs) {b:Nat} {cs:Array Value} {e':TypeId} (k:Blk w b cs e') (he:e ≠ e'):v.ownBlock ≠ some b:=by
 intro hg;obtain ⟨cs',h'⟩:=own_blk h hg;exact h'.ne k he rfl
theorem own_chg {S:Nat->Prop} (h:w.ownsRow base e size v n xs) (k:Chg S w w') (hs:∀ g,v.ownBlock=some g->¬ S g):w'.ownsRow base e size v n xs:=by
 refine ⟨h.1,?_⟩
 rcases h.2 with hn | ⟨g,cap,cur,rfl,hb,hgg,rest⟩
 ·exact .inl hn
 ·exact .inr ⟨g,cap,cur,rfl,hb,(k.block g (Array.getElem?_eq_some_iff.1 hgg).1 (hs g rfl)).trans hgg,rest⟩
theorem own_set (h:w.ownsRow base e size v n xs) (p:Addr) (u:Value) (hp:v.ownBlock ≠ some p.block):(w.setCell p u).ownsRow base e size v n xs:=by
 refine ⟨h.1,?_⟩
 rcases h.2 with hn | ⟨g,cap,cur,rfl,hb,hgg,rest⟩
 ·exact .inl hn
 ·exact .inr ⟨g,cap,cur,rfl,hb,(Below.heap_setCell _ _ _ _ (fun e=>hp (by simp [Value.ownBlock,e]))).trans hgg,rest⟩
theorem own_mono (h:w.ownsRow base e size v n xs) {base':Nat} (hb:base'<=base):w.ownsRow base' e size v n xs:=by
 refine ⟨h.1,?_⟩
 rcases h.2 with hn | ⟨g,cap,cur,rfl,hb',rest⟩
 ·exact .inl hn
 ·exact .inr ⟨g,cap,cur,rfl,Nat.le_trans hb hb',rest⟩
end
abbrev ints (l:List Int):List Value:=l.map (Value.int .i64)
def IntsV (w:World) (base:Nat) (v:Value) (l:List Int):Prop:=w.ownsRow base 3 1 v l.length (ints l)
theorem IntsV.form {w:World} {base:Nat} {v:Value} {l:List Int} (h:IntsV w base v l) (hl:0 < l.length) :
 ∃ g cap,v=.slice (some ⟨g,0,none⟩) l.length cap/\base<=g/\l.length<=cap/\cap<=maxLen/\(∀ j,j < l.length->w.cell? ⟨g,j,none⟩=some (.int .i64 (l.getD j 0))):=by
 have hc:=fun g=>World.ownsRow.cells (g:=g) h
 rcases h.2 with ⟨_,h0⟩ | ⟨g,cap,cur,rfl,hb,hgg,hle,hcap,_⟩
 ·omega
 ·refine ⟨g,cap,rfl,hb,hle,hcap,fun j hj=>?_⟩
  have:=hc g rfl j (.int .i64 (l.getD j 0)) (by simp [ints,hj])
  have hadd:(⟨g,0,none⟩:Addr).add j=⟨g,j,none⟩:=by unfold Addr.add;split <;> simp_all
  rwa [hadd] at this
def Rd (w:World) (rb:Nat) (nv:Value) (s:Nat × Bool):Prop:=Blk w rb #[nv,.int .i64 s.1,.bool s.2] 149
def RS (w:World) (rb:Nat) (nv:Value) (ns:List Int) (s:Nat × Bool):Prop:=Rd w rb nv s/\IntsV w 0 nv ns
theorem RS.lt {w:World} {rb:Nat} {nv:Value} {ns:List Int} {s:Nat × Bool} (h:RS w rb nv ns s):rb < w.heap.size:=Blk.lt h.1
theorem chg_of_grown {w1 w2:World} {row:Option Nat} (h:w1.grownBy w2 row):Chg (fun k=>some k=row) w1 w2:=
 ⟨h.os,h.tape,h.output,h.size,fun k hk hs=>h.block k hk hs⟩
theorem IntsV.rs {w w':World} {rb:Nat} {nv:Value} {s:Nat × Bool} {base:Nat} {v:Value} {l:List Int} (h:IntsV w base v l) (hr:Rd w rb nv s) (k:Chg (fun k=>k=rb) w w'):IntsV w' base v l:=
 own_chg h k (fun g hg e=>own_ne h hr (by decide) (by rw [hg,e]))
def tk (ns:List Int) (lo hi:Int) (s:Nat × Bool):Int × (Nat × Bool):=
 if s.2=true \/ ns.length<=s.1 then (0,(s.1,true)) else
 if ns.getD s.1 0 < lo \/ hi < ns.getD s.1 0 then (0,(s.1,true)) else (ns.getD s.1 0,(s.1+1,false))
end Go.Proofs.Ytnfnbcbadakofaa
