import Derived.Test.YtnfnbcbadakofabChk3
namespace Go.Proofs.Ytnfnbcbadakofab
open Go.RowKit
set_option maxHeartbeats 400000
set_option maxRecDepth 100000
theorem own_setIn {w:World} {base:Nat} {e:TypeId} {size g n cap:Nat} {xs:List Value} (h:w.ownsRow base e size (.slice g n cap) n xs) (k:Nat) (_hk:k < n * size) (u:Value) :
 (w.setCell ⟨g,k,none⟩ u).ownsRow base e size (.slice g n cap) n (xs.set k u):=by
 refine ⟨by rw [List.length_set];exact h.1,?_⟩
 rcases h.2 with ⟨hv,_⟩ | ⟨g',cap',cur,hv,hb,hgg,hle,hcap,hcs,htk⟩
 ·cases hv
 ·simp only [Value.slice.injEq,Option.some.injEq,Addr.mk.injEq] at hv
  obtain ⟨⟨rfl,_,_⟩,_,rfl⟩:=hv
  have hb2:Blk (w.setCell ⟨g,k,none⟩ u) g (cur.setIfInBounds k u) e:=Blk.set hgg k u
  refine .inr ⟨g,cap,_,rfl,hb,hb2,hle,hcap,by simpa using hcs,?_⟩
  rw [<-htk]
  simp [List.take_set]
def spC (xs:List (Option (List Int) × Value)):List Value:=xs.flatMap fun x=>[.bool x.1.isSome,x.2]
theorem spC_len (xs:List (Option (List Int) × Value)):(spC xs).length=xs.length * 2:=by
 induction xs with
 | nil=>rfl
 | cons x c ih=>simp [spC] at ih ⊢;omega
theorem spC_get (xs:List (Option (List Int) × Value)) (j:Nat) (hj:j < xs.length):(spC xs)[j * 2]?=some (.bool xs[j].1.isSome)/\(spC xs)[j * 2+1]?=some xs[j].2:=by
 induction xs generalizing j with
 | nil=>simp at hj
 | cons x c ih =>
  have e:spC (x::c)=.bool x.1.isSome::x.2::spC c:=by simp [spC]
  rcases j with _ | j
  ·rw [e];simp
  ·have:=ih j (by simpa using hj)
   rw [e,show (j+1) * 2=j * 2+2 by omega]
   simpa using this
theorem spC_set (xs:List (Option (List Int) × Value)) (j:Nat) (hj:j < xs.length) (l:List Int) (u:Value):((spC xs).set (j * 2) (.bool true)).set (j * 2+1) u=spC (xs.set j (some l,u)):=by
 induction xs generalizing j with
 | nil=>simp at hj
 | cons x c ih =>
  have e:spC (x::c)=.bool x.1.isSome::x.2::spC c:=by simp [spC]
  rcases j with _ | j
  ·rw [e];simp [spC]
  ·have:=ih j (by simpa using hj)
   rw [e,show (j+1) * 2=j * 2+2 by omega]
   simp only [List.set_cons_succ]
   rw [this];simp [spC]
def NB (u qv:Value):Prop:=∀ g,u.ownBlock=some g->qv.ownBlock ≠ some g
structure TS (w0 w:World) (tb:Nat) (st:Array Value) (sv qv:Value) (xs:List (Option (List Int) × Value)) (q:List Int) (wr:Bool):Prop where
 box:Blk w tb (st++#[sv,qv,.bool wr]) 81
 six:st.size=6
 sp:w.ownsRow w0.heap.size 125 2 sv xs.length (spC xs)
 stk:∀ x,x ∈ xs->∀ l,x.1.getD []=l->IntsV w w0.heap.size x.2 l/\NB x.2 qv
 q:IntsV w w0.heap.size qv q
 ch:Chg () w0 w
 tb:w0.heap.size<=tb
def Sk (w0 w:World) (qv u:Value) (l:List Int):Prop:=IntsV w w0.heap.size u l/\NB u qv
theorem Sk.nil (w0 w:World) (qv:Value):Sk w0 w qv (.slice none 0 0) []:=⟨World.ownsRow_nil _ _ _ _,fun g h=>by cases h⟩
theorem TS.wrong {w0 w:World} {tb:Nat} {st:Array Value} {sv qv:Value} {xs:List (Option (List Int) × Value)} {q:List Int} {wr:Bool} (h:TS w0 w tb st sv qv xs q wr) (n:Nat) :
 TS w0 ((w.drewN n).setCell ⟨tb,8,none⟩ (.bool true)) tb st sv qv xs q true:=by
 have hb:Blk ((w.drewN n).setCell ⟨tb,8,none⟩ (.bool true)) tb ((st++#[sv,qv,.bool wr]).setIfInBounds 8 (.bool true)) 81:=Blk.set (Blk.drewN h.box n) 8 _
 have e:(st++#[sv,qv,.bool wr]).setIfInBounds 8 (.bool true)=st++#[sv,qv,.bool true]:=by
  have h6:=h.six
  apply Array.ext_getElem?
  intro i
  rw [Array.getElem?_setIfInBounds]
  split
  ·subst_vars;simp [h6]
  ·by_cases hi:i < 6
   ·simp [Array.getElem?_append,h6,hi]
   ·rcases Nat.lt_or_ge i 9 with h9 | h9
    ·have:i=6 \/ i=7:=by omega
     rcases this with rfl | rfl <;> simp [h6]
    ·rw [Array.getElem?_eq_none (by simp [h6];omega),Array.getElem?_eq_none (by simp [h6];omega)]
 rw [e] at hb
 have hbox:=h.box
 exact ⟨hb,h.six,own_set (own_drewN h.sp n) _ _ (own_ne h.sp hbox (by decide)),fun x m l hl=>⟨own_set (own_drewN (h.stk x m l hl).1 n) _ _ (own_ne (h.stk x m l hl).1 hbox (by decide)),(h.stk x m l hl).2⟩,
  own_set (own_drewN h.q n) _ _ (own_ne h.q hbox (by decide)),(h.ch.drewN n).setCell _ _ (.inr h.tb),h.tb⟩
theorem Sk.wrong {w0 w:World} {tb:Nat} {st:Array Value} {sv qv:Value} {xs:List (Option (List Int) × Value)} {q:List Int} {wr:Bool} (h:TS w0 w tb st sv qv xs q wr) {u:Value} {l:List Int} (hu:Sk w0 w qv u l) (n:Nat) (x:Value) :
 Sk w0 ((w.drewN n).setCell ⟨tb,8,none⟩ x) qv u l:=⟨own_set (own_drewN hu.1 n) _ _ (own_ne hu.1 h.box (by decide)),hu.2⟩
theorem TS.drewN {w0 w:World} {tb:Nat} {st:Array Value} {sv qv:Value} {xs:List (Option (List Int) × Value)} {q:List Int} {wr:Bool} (h:TS w0 w tb st sv qv xs q wr) (n:Nat):TS w0 (w.drewN n) tb st sv qv xs q wr:=
 ⟨h.box,h.six,h.sp,h.stk,h.q,h.ch.drewN n,h.tb⟩
def KB (w w':World):Prop:=∀ b cs e,Blk w b cs e->e ≠ 81->e ≠ 125->e ≠ 3->Blk w' b cs e
theorem KB.wrong {w:World} {tb:Nat} {cs:Array Value} (h:Blk w tb cs 81) (n i:Nat) (v:Value):KB w ((w.drewN n).setCell ⟨tb,i,none⟩ v):=fun _b _cs' _e hb h1 _ _=>(Blk.drewN hb n).setOther _ _ (hb.ne h h1)
theorem KB.drewN (w:World) (n:Nat):KB w (w.drewN n):=fun _ _ _ hb _ _ _=>hb
def goP (sp:List (Option (List Int))) (q:List Int) (wr:Bool) (i:Int) (l:List Int):List (Option (List Int)) × List Int × Bool:=
 if i < 0 \/ (sp.length:Int)<=i then (sp,q,true) else
 match sp.getD i.toNat none with
 | none=>(sp.set i.toNat (some l),q++[i],wr)
 | some s=>if s == l then (sp,q,wr) else (sp,q,true)
def GoPost (w0 w:World) (tb:Nat) (st:Array Value) (sv qv:Value) (R:List (Option (List Int)) × List Int × Bool) (w':World):Prop:=
 ∃ qv' xs',xs'.map (·.1)=R.1/\TS w0 w' tb st sv qv' xs' R.2.1 R.2.2/\KB w w'/\∀ u l,Sk w0 w qv u l->Sk w0 w' qv' u l
theorem goOn_out (w0 w:World) (tb:Nat) (st:Array Value) (sa:Option Addr) (scap:Nat) (qv:Value) (xs:List (Option (List Int) × Value)) (q:List Int) (wr:Bool) (i:Int) (u:Value) (h:TS w0 w tb st (.slice sa xs.length scap) qv xs q wr) (hi:i < 0 \/ (xs.length:Int)<=i) :
 Calls Try.prog 49 #[.pointer tb,i,u] w fun e w'=>e=.returned (.tuple #[])/\∃ n,w'=(w.drewN n).setCell ⟨tb,8,none⟩ (.bool true):=by
 have h6:=h.six
 have c6:w.cell? ⟨tb,6,none⟩=some (.slice sa xs.length scap):=by rw [h.box.cell 6];simp [h6]
 have c8:w.cell? ⟨tb,8,none⟩=some (.bool wr):=by rw [h.box.cell 8];simp [h6]
 have z8:=h.box.frozen 8
 clear h6
 by_cases h1:i < 0
 ·clear hi
  go_enter Try.func49,Try.ntmps49
  go_wp2
  exact bodyPost_ret (v:=.tuple #[]) (by simp [results,Try.results49]) rfl ⟨rfl,0,rfl⟩
 ·have h2:(xs.length:Int)<=i:=by omega
  clear hi
  go_enter Try.func49,Try.ntmps49
  go_wp2
  exact bodyPost_ret (v:=.tuple #[]) (by simp [results,Try.results49]) rfl ⟨rfl,0,rfl⟩
theorem own_frozen {w:World} {base:Nat} {e:TypeId} {size g n cap:Nat} {xs:List Value} (h:w.ownsRow base e size (.slice g n cap) n xs):∃ cs,Blk w g cs e:=own_blk h rfl
theorem TS.mark {w0 w:World} {tb:Nat} {st:Array Value} {g scap:Nat} {qv:Value} {xs:List (Option (List Int) × Value)} {q:List Int} {wr:Bool} (h:TS w0 w tb st (.slice g xs.length scap) qv xs q wr) (k:Nat) (hk:k < xs.length) (u:Value) (l:List Int) (hu:Sk w0 w qv u l) :
 TS w0 ((w.setCell ⟨g,k * 2,none⟩ (.bool true)).setCell ⟨g,k * 2+1,none⟩ u) tb st (.slice g xs.length scap) qv (xs.set k (some l,u)) q wr /\
 ∀ u' l',Sk w0 w qv u' l'->Sk w0 ((w.setCell ⟨g,k * 2,none⟩ (.bool true)).setCell ⟨g,k * 2+1,none⟩ u) qv u' l':=by
 obtain ⟨cs,hg⟩:=own_frozen h.sp
 have hg1:=hg.set (k * 2) (.bool true)
 have keep:∀ u' l',IntsV w w0.heap.size u' l'->IntsV ((w.setCell ⟨g,k * 2,none⟩ (.bool true)).setCell ⟨g,k * 2+1,none⟩ u) w0.heap.size u' l':=fun u' l' h' =>
  (h'.set hg (by decide) (k * 2) (.bool true)).set hg1 (by decide) (k * 2+1) u
 have hgN:w0.heap.size<=g:=(h.sp.lt g rfl).1
 have s1:=own_setIn h.sp (k * 2) (by omega) (.bool true)
 have s2:=own_setIn s1 (k * 2+1) (by omega) u
 rw [spC_set xs k hk l u] at s2
 refine ⟨⟨(h.box.setOther _ _ (h.box.ne hg (by decide))).setOther _ _ (h.box.ne hg (by decide)),h.six,by rw [List.length_set];exact s2,?_,keep _ _ h.q,(h.ch.setCell _ _ (.inr hgN)).setCell _ _ (.inr hgN),h.tb⟩,fun u' l' h'=>⟨keep _ _ h'.1,h'.2⟩⟩
 intro x m l' hl'
 rcases List.mem_or_eq_of_mem_set m with m | rfl
 ·exact ⟨keep _ _ (h.stk x m l' hl').1,(h.stk x m l' hl').2⟩
 ·cases hl'
  exact ⟨keep _ _ hu.1,hu.2⟩
theorem box_set7 {st:Array Value} (h6:st.size=6) (sv qv qv' x:Value):(st++#[sv,qv,x]).setIfInBounds 7 qv'=st++#[sv,qv',x]:=by
 apply Array.ext_getElem?
 intro i
 rw [Array.getElem?_setIfInBounds]
 split
 ·subst_vars;simp [h6]
 ·by_cases hi:i < 6
  ·simp [Array.getElem?_append,h6,hi]
  ·rcases Nat.lt_or_ge i 9 with h9 | h9
   ·have:i=6 \/ i=8:=by omega
    rcases this with rfl | rfl <;> simp [h6]
   ·rw [Array.getElem?_eq_none (by simp [h6];omega),Array.getElem?_eq_none (by simp [h6];omega)]
theorem TS.push {w0 w w4:World} {tb:Nat} {st:Array Value} {sv qv:Value} {xs:List (Option (List Int) × Value)} {q:List Int} {wr:Bool} (h:TS w0 w tb st sv qv xs q wr) (g cap:Nat) (i:Int) (o:Obj)
 (hown:w4.ownsRow w0.heap.size 3 1 (.slice g (q.length+1) cap) (q.length+1) (ints q++[.int .i64 i])) (hgrow:(w.alloc o).grownBy w4 qv.ownBlock) (hat:qv.ownBlock=some g \/ g=w.heap.size+1) :
 TS w0 (w4.setCell ⟨tb,7,none⟩ (.slice g (q.length+1) cap)) tb st sv (.slice g (q.length+1) cap) xs (q++[i]) wr /\
 ∀ u l,Sk w0 w qv u l->Sk w0 (w4.setCell ⟨tb,7,none⟩ (.slice g (q.length+1) cap)) (.slice g (q.length+1) cap) u l:=by
 have kW:Chg (fun j=>some j=qv.ownBlock) w w4:=(((Chg.refl _ w).alloc _).grown hgrow (fun j hj=>.inl hj.symm))
 have neT:∀ b cs e,Blk w b cs e->e ≠ 3->¬ some b=qv.ownBlock:=fun b cs e hb he hg=>by
  obtain ⟨cs',hb'⟩:=own_blk h.q hg.symm
  exact hb.ne hb' he rfl
 have box4:=h.box.chg kW (neT _ _ _ h.box (by decide))
 have keep:∀ u l,Sk w0 w qv u l->Sk w0 (w4.setCell ⟨tb,7,none⟩ (.slice g (q.length+1) cap)) (.slice g (q.length+1) cap) u l:=fun u l hu=>by
  have h1:IntsV w4 w0.heap.size u l:=own_chg hu.1 kW (fun b hb e=>hu.2 b hb e.symm)
  refine ⟨own_set h1 _ _ (own_ne h1 box4 (by decide)),fun b hb e=>?_⟩
  simp [Value.ownBlock] at e
  subst e
  rcases hat with hat | hat
  ·exact hu.2 _ hb hat
  ·have:=(hu.1.lt _ hb).2;omega
 have hb7:=box4.set 7 (.slice g (q.length+1) cap)
 rw [box_set7 h.six] at hb7
 have sp4:w4.ownsRow w0.heap.size 125 2 sv xs.length (spC xs):=own_chg h.sp kW (fun b hb=>by obtain ⟨cs,hB⟩:=own_blk h.sp hb;exact neT _ _ _ hB (by decide))
 refine ⟨⟨hb7,h.six,own_set sp4 _ _ (own_ne sp4 box4 (by decide)),fun x m l hl=>keep _ _ (h.stk x m l hl),?_,?_,h.tb⟩,keep⟩
 ·unfold IntsV
  have e:ints (q++[i])=ints q++[.int .i64 i]:=by simp [ints]
  rw [e,List.length_append]
  exact own_set hown _ _ (own_ne hown box4 (by decide))
 ·exact (h.ch.trans' kW (fun j hj e=>by have:=(h.q.lt j e.symm).1;omega)).setCell _ _ (.inr h.tb)
theorem goOn_new (w0 w:World) (tb:Nat) (st:Array Value) (g scap:Nat) (qv:Value) (xs:List (Option (List Int) × Value)) (q:List Int) (wr:Bool) (k:Nat) (ua:Option Addr) (uc:Nat) (l:List Int) (h:TS w0 w tb st (.slice g xs.length scap) qv xs q wr)
 (hk:k < xs.length) (hn:xs[k].1=none) (hu:Sk w0 w qv (.slice ua l.length uc) l) (hq:q.length<=10000) (_hxl:xs.length<=10000) :
 Calls Try.prog 49 #[.pointer tb,k,.slice ua l.length uc] w fun e w'=>e=.returned (.tuple #[]) /\
  ∃ qv',TS w0 w' tb st (.slice g xs.length scap) qv' (xs.set k (some l,.slice ua l.length uc)) (q++[(k:Int)]) wr/\KB w w'/\∀ u l',Sk w0 w qv u l'->Sk w0 w' qv' u l':=by
 obtain ⟨i,hi1,hi2,hi3,hi4⟩:=info3
 have Hi1:=hid hi1
 have Hi2:=hid hi2
 have Hi3:=hid hi3
 have Hi4:=hid hi4
 clear hi1 hi2 hi3 hi4
 have h6:=h.six
 have c6:w.cell? ⟨tb,6,none⟩=some (.slice g xs.length scap):=by rw [h.box.cell 6];simp [h6]
 have c7:w.cell? ⟨tb,7,none⟩=some qv:=by rw [h.box.cell 7];simp [h6]
 have z7:=h.box.frozen 7
 obtain ⟨cs,hg⟩:=own_frozen h.sp
 have hcells:=fun j u=>World.ownsRow.cells (g:=g) h.sp rfl j u
 have hadd:∀ j,(⟨g,0,none⟩:Addr).add j=⟨g,j,none⟩:=by intro j;unfold Addr.add;split <;> simp_all
 obtain ⟨s0,s1⟩:=spC_get xs k hk
 have d0:=hcells _ _ s0
 have d1:=hcells _ _ s1
 rw [hadd] at d0 d1
 rw [hn] at d0
 have d0:w.cell? ⟨g,k * 2,none⟩=some (.bool false):=d0
 have zg0:=hg.frozen (k * 2)
 have zg1:=hg.frozen (k * 2+1)
 have hne:tb ≠ g:=h.box.ne hg (by decide)
 have hne':g ≠ tb:=hne.symm
 obtain ⟨hM,hMs⟩:=h.mark k hk _ l hu
 have hlt':(k:Int) < (xs.length:Int):=by omega
 obtain ⟨qa,qc,rfl⟩:=h.q.slice
 have hgl:=hg.lt
 have htl:=h.box.lt
 have hs0:=h.ch.size
 clear hcells hadd s0 s1 h6
 generalize xs[k].2=xold at *
 go_enter Try.func49,Try.ntmps49
 go_wp2_with (at_builtin;refine wpList_append_lies _ rfl _ _ 24 rfl w0.heap.size 3 i (.int .i64 0) 1 8 Try.underlying24 Hi1.out Hi2.out Hi3.out Hi4.out rfl (by decide) _ _ _ rfl (World.ownsRow.alloc hM.q _) ⟨w.heap.size,0,none⟩ 1 1 [.int .i64 (k:Int)] rfl rfl ?c1 ?c2 (by decide) ?c3 ?c4 ?c5 _ rfl ?_)
 case c1=>exact World.news_of_block (B:=w.heap.size) (cs:=#[.int .i64 (k:Int)]) (Blk.new' (by simp) _ 3)
 case c2=>intro u hu;simp at hu;subst hu;rfl
 case c3=>unfold maxLen;omega
 case c4=>omega
 case c5=>simp;omega
 ·intro g2 cap2 w4 hown hgrow hat hlt4
  obtain ⟨hP,hPs⟩:=hM.push g2 cap2 (k:Int) _ hown hgrow (by simpa using hat)
  have kW:Chg (fun j=>some j=(Value.slice qa q.length qc).ownBlock) _ w4:=(((Chg.refl _ ((w.setCell ⟨g,k * 2,none⟩ (.bool true)).setCell ⟨g,k * 2+1,none⟩ (.slice ua l.length uc))).alloc _).grown hgrow (fun j hj=>.inl hj.symm))
  have box4:=hM.box.chg kW (fun hgq=>by obtain ⟨cs',hb'⟩:=own_blk hM.q hgq.symm;exact hM.box.ne hb' (by decide) rfl)
  have HKB:Hid (KB w (w4.setCell ⟨tb,7,none⟩ (.slice g2 (q.length+1) cap2))):=by
   intro b cs' e hb h1 h2 h3
   have b1:=(hb.setOther ⟨g,k * 2,none⟩ (.bool true) (hb.ne hg h2)).setOther ⟨g,k * 2+1,none⟩ (.slice ua l.length uc) (hb.ne hg h2)
   have b2:=b1.chg kW (fun hgq=>by obtain ⟨cs9,hb'⟩:=own_blk hM.q hgq.symm;exact b1.ne hb' h3 rfl)
   exact b2.setOther _ _ (b2.ne box4 h1)
  clear c6 c7 z7 d0 d1 zg0 zg1 hgrow kW
  have h6:=h.six
  have y7:w4.cell? ⟨tb,7,none⟩=some (.slice qa q.length qc):=by rw [box4.cell 7];simp [h6]
  have z7:=box4.frozen 7
  go_wp2
  exact bodyPost_ret (v:=.tuple #[]) (by simp [results,Try.results49]) rfl ⟨rfl,_,hP,HKB.out,fun u l' hs=>hPs _ _ (hMs _ _ hs)⟩
theorem goOn_old (w0 w:World) (tb:Nat) (st:Array Value) (g scap:Nat) (qv:Value) (xs:List (Option (List Int) × Value)) (q:List Int) (wr:Bool) (k:Nat) (u:Value) (l s:List Int) (h:TS w0 w tb st (.slice g xs.length scap) qv xs q wr)
 (hk:k < xs.length) (hn:xs[k].1=some s) (hu:Sk w0 w qv u l) (hs:s.length<=10000) (_hxl:xs.length<=10000) (wr':Bool) (HW:Hid (wr'=if s == l then wr else true)) :
 Calls Try.prog 49 #[.pointer tb,k,u] w fun e w'=>e=.returned (.tuple #[]) /\
  TS w0 w' tb st (.slice g xs.length scap) qv xs q wr'/\KB w w'/\∀ u l',Sk w0 w qv u l'->Sk w0 w' qv u l':=by
 have h6:=h.six
 have c6:w.cell? ⟨tb,6,none⟩=some (.slice g xs.length scap):=by rw [h.box.cell 6];simp [h6]
 have c8:w.cell? ⟨tb,8,none⟩=some (.bool wr):=by rw [h.box.cell 8];simp [h6]
 have z8:=h.box.frozen 8
 have hcells:=fun j u=>World.ownsRow.cells (g:=g) h.sp rfl j u
 have hadd:∀ j,(⟨g,0,none⟩:Addr).add j=⟨g,j,none⟩:=by intro j;unfold Addr.add;split <;> simp_all
 obtain ⟨s0,s1⟩:=spC_get xs k hk
 have d0:=hcells _ _ s0
 have d1:=hcells _ _ s1
 rw [hadd] at d0 d1
 rw [hn] at d0
 have d0:w.cell? ⟨g,k * 2,none⟩=some (.bool true):=d0
 have hst:=(h.stk xs[k] (List.getElem_mem hk) s (by rw [hn];rfl)).1
 have hlt':(k:Int) < (xs.length:Int):=by omega
 clear hcells hadd s0 s1 h6
 generalize xs[k].2=xold at *
 obtain ⟨xa,xc,rfl⟩:=hst.slice
 have hsame:=fun n:Nat=>sameList_any (.slice xa s.length xc) u s l (w.drewN n) hs (IntsV.rdI (own_drewN hst n)) (IntsV.rdI (own_drewN hu.1 n))
 obtain ⟨ua,uc,rfl⟩:=hu.1.slice
 cases hb:(s == l) with
 | true =>
  rw [hb] at hsame
  have HSAME:Hid _:=hsame
  have HW2:Hid (wr'=wr):=by have:=HW.out;rw [hb] at this;simpa [Hid] using this
  clear hsame hb HW
  go_enter Try.func49,Try.ntmps49
  go_wp2_with fail
  refine (HSAME.out 0).mono ?_
  rintro e w1 ⟨rfl,n,rfl⟩
  go_wp2
  go_end0
  exact ⟨rfl,by rw [HW2.out];exact h.drewN n,KB.drewN w n,fun u' l' h'=>⟨own_drewN h'.1 n,h'.2⟩⟩
 | false =>
  rw [hb] at hsame
  have HSAME:Hid _:=hsame
  have HW2:Hid (wr'=true):=by have:=HW.out;rw [hb] at this;simpa [Hid] using this
  clear hsame hb HW
  go_enter Try.func49,Try.ntmps49
  go_wp2_with fail
  refine (HSAME.out 0).mono ?_
  rintro e w1 ⟨rfl,n,rfl⟩
  go_wp2
  go_end0
  exact ⟨rfl,by rw [HW2.out];exact h.wrong n,KB.wrong h.box n 8 _,fun u' l' h'=>Sk.wrong h h' n _⟩
theorem goOn_any (w0 w:World) (tb:Nat) (st:Array Value) (sv qv:Value) (xs:List (Option (List Int) × Value)) (q:List Int) (wr:Bool) (i:Int) (u:Value) (l:List Int) (h:TS w0 w tb st sv qv xs q wr) (hu:Sk w0 w qv u l) (hq:q.length<=10000) (hxl:xs.length<=10000) (hs:∀ x ∈ xs,∀ s,x.1=some s->s.length<=10000) :
 Calls Try.prog 49 #[.pointer tb,i,u] w fun e w'=>e=.returned (.tuple #[])/\GoPost w0 w tb st sv qv (goP (xs.map (·.1)) q wr i l) w':=by
 have hsv:∃ sa sc,sv=.slice sa xs.length sc:=by
  rcases h.sp.2 with ⟨h1,h2⟩ | ⟨g,cap,cur,rfl,_⟩
  ·exact ⟨none,0,by rw [h1,h2]⟩
  ·exact ⟨_,_,rfl⟩
 by_cases hi:i < 0 \/ (xs.length:Int)<=i
 ·obtain ⟨sa,sc,rfl⟩:=hsv
  refine (goOn_out w0 w tb st sa sc qv xs q wr i u h hi).mono ?_
  rintro e w' ⟨rfl,n,rfl⟩
  have e1:goP (xs.map (·.1)) q wr i l=(xs.map (·.1),q,true):=by unfold goP;rw [if_pos (by simpa using hi)]
  rw [e1]
  exact ⟨rfl,qv,xs,rfl,h.wrong n,KB.wrong h.box n 8 _,fun u' l' h'=>Sk.wrong h h' n _⟩
 ·obtain ⟨k,rfl⟩:∃ k:Nat,i=(k:Int):=⟨i.toNat,by omega⟩
  have hk:k < xs.length:=by omega
  have hsv2:∃ g sc,sv=.slice (some ⟨g,0,none⟩) xs.length sc:=by
   rcases h.sp.2 with ⟨h1,h2⟩ | ⟨g,cap,cur,rfl,_⟩
   ·omega
   ·exact ⟨_,_,rfl⟩
  obtain ⟨g,sc,rfl⟩:=hsv2
  have e0:(xs.map (·.1)).getD (k:Int).toNat none=xs[k].1:=by
   rw [Int.toNat_natCast,List.getD_eq_getElem?_getD,List.getElem?_map,List.getElem?_eq_getElem hk];rfl
  cases hx:xs[k].1 with
  | none =>
   obtain ⟨ua,uc,rfl⟩:=hu.1.slice
   refine (goOn_new w0 w tb st g sc qv xs q wr k ua uc l h hk hx hu hq hxl).mono ?_
   rintro e w' ⟨rfl,qv',hT,hK,hS⟩
   have e1:goP (xs.map (·.1)) q wr (k:Int) l=((xs.map (·.1)).set k (some l),q++[(k:Int)],wr):=by
    unfold goP;rw [if_neg (by simpa using hi),e0,hx];simp
   rw [e1]
   exact ⟨rfl,qv',xs.set k (some l,.slice ua l.length uc),by rw [List.map_set],hT,hK,hS⟩
  | some s =>
   refine (goOn_old w0 w tb st g sc qv xs q wr k u l s h hk hx hu (hs _ (List.getElem_mem hk) s hx) hxl _ rfl).mono ?_
   rintro e w' ⟨rfl,hT,hK,hS⟩
   refine ⟨rfl,qv,xs,?_,?_,hK,hS⟩
   ·unfold goP;rw [if_neg (by simpa using hi),e0,hx];simp only [];split <;> rfl
   ·have e1:(goP (xs.map (·.1)) q wr (k:Int) l).2=(q,if s == l then wr else true):=by
     unfold goP;rw [if_neg (by simpa using hi),e0,hx];simp only [];split <;> simp_all
    rw [e1];exact hT
theorem goP_ok {sp:List (Option (List Int))} {q:List Int} {wr:Bool} {i:Int} {l:List Int} {M:Nat} (h:∀ o ∈ sp,∀ s,o=some s->s.length<=M) (hl:l.length<=M) :
 (∀ o ∈ (goP sp q wr i l).1,∀ s,o=some s->s.length<=M)/\(goP sp q wr i l).2.1.length<=q.length+1/\(goP sp q wr i l).1.length=sp.length:=by
 unfold goP
 split
 ·exact ⟨h,by simp,rfl⟩
 ·split
  ·refine ⟨fun o ho s hs=>?_,by simp,by simp⟩
   rcases List.mem_or_eq_of_mem_set ho with ho | rfl
   ·exact h o ho s hs
   ·cases hs;exact hl
  ·split
   ·exact ⟨h,by simp,rfl⟩
   ·exact ⟨h,by simp,rfl⟩
end Go.Proofs.Ytnfnbcbadakofab
