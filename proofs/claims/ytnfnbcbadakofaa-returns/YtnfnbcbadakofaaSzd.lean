import Derived.Test.YtnfnbcbadakofaaLate
import Derived.ProofKit
import Derived.OpenShut
import Derived.JoinedCond
import Derived.SizedLaws
namespace Go.Proofs.Ytnfnbcbadakofaa
open Go.RowKit Go.ChangeShapes Go.Deep Go.Joins
section
variable {H:Type} {enc:TypeId × Value->H} {W:World}
def Sz (t:TypeId) (d:DataW H):Prop:=∀ n ∈ d.weights Try.prog t,n<=reachBytes
theorem wAll_mem {e:TypeId} {d:DataW H} {l:List (DataW H)} (h:d ∈ l) {n:Nat} (hn:n ∈ d.weights Try.prog e):n ∈ DataW.weightsAll Try.prog e l:=by
 induction l with
 | nil=>cases h
 | cons x r ih =>
  simp only [DataW.weightsAll,List.mem_append]
  cases List.mem_cons.1 h with
  | inl q=>subst q;exact .inl hn
  | inr q=>exact .inr (ih q)
theorem Sz.slice {t e:TypeId} {elems spare:List (DataW H)} (h:Sz t (.slice elems spare)) (hu:Try.prog.underlying t=some (.slice e)):elems.length * Try.prog.bytesOf e<=reachBytes/\∀ d ∈ elems,Sz e d:=by
 have h':∀ n ∈ (elems.length+spare.length) * Try.prog.bytesOf e::(DataW.weightsAll Try.prog e elems++DataW.weightsAll Try.prog e spare),n<=reachBytes:=by
  intro n hn
  refine h n ?_
  simp only [DataW.weights,hu]
  exact hn
 refine ⟨?_,fun d hd n hn=>h' n (List.mem_cons_of_mem _ (List.mem_append_left _ (wAll_mem hd hn)))⟩
 have:=h' _ (List.mem_cons_self ..)
 exact Nat.le_trans (Nat.mul_le_mul_right _ (Nat.le_add_right _ _)) this
theorem Sz.part {t u:TypeId} {fs:Array Field} {parts:List (DataW H)} {d:DataW H} {j:Nat} (h:Sz t (.agg parts)) (hu:Try.prog.underlying t=some (.struct fs)) (ht:(fs.toList.map (·.type))[j]?=some u) (hd:parts[j]?=some d):Sz u d:=by
 intro n hn
 refine h n ?_
 simp only [DataW.weights,hu]
 exact DataW.weights_mem_each ht hd n hn
theorem Sz.top {ts:List TypeId} {ds:List (DataW H)} {t:TypeId} {d:DataW H} {j:Nat} (h:(DataW.weightsEach Try.prog ts ds).all (· <= reachBytes)=true) (ht:ts[j]?=some t) (hd:ds[j]?=some d):Sz t d:=fun n hn=>by
 have:=List.all_eq_true.1 h n (DataW.weights_mem_each ht hd n hn)
 simpa using this
theorem opz_ints {n:Nat} {cs:List Value} {x:DataW H × List MemPlace} (h:DataW.trod enc Try.prog W 0 (fun _=>true) true n 47 cs=some x) (hs:Sz 47 x.1):∃ v l,cs=[v]/\RdA W v l/\l.length<=17592186044416:=by
 rcases open_ints Try.underlying47 Try.underlying3 (by kernel_rfl) h with ⟨rfl,rfl⟩ | ⟨a,len,cap,zs,rfl,_,hle,hcap,hz,rfl,hc,_⟩
 ·exact ⟨_,[],rfl,.inl ⟨rfl,rfl⟩,by simp⟩
 ·simp only [if_true] at hz
  have hlt:(zs.take len).length=len:=by rw [List.length_take];omega
  have h8:Try.prog.bytesOf 3=8:=by kernel_rfl
  have hw:=(Sz.slice hs Try.underlying47).1
  rw [h8] at hw
  simp only [reachBytes,lits,List.length_map] at hw
  refine ⟨_,zs.take len,rfl,.inr ⟨a,cap,by rw [hlt],by rw [hlt];exact hle,hcap,fun j hj=>?_⟩,by omega⟩
  rw [hlt] at hj
  rw [hc j (by omega),List.getD_eq_getElem?_getD,List.getD_eq_getElem?_getD,List.getElem?_take_of_lt hj]
theorem opz_types {n:Nat} {cs:List Value} {x:DataW H × List MemPlace} (h:DataW.trod enc Try.prog W 0 (fun _=>true) true n 25 cs=some x) (hs:Sz 25 x.1) :
 ∃ v ls,cs=[v]/\RdTs W v ls/\ls.length<=5864062014805/\∀ j,(ls.getD j []).length<=17592186044416:=by
 rcases open_slice1 Try.underlying25 (by kernel_rfl) h with ⟨rfl,rfl⟩ | ⟨a,len,cap,m,n',V,D,Pl,rfl,_,hle,hcap,hm,rfl,hx⟩
 ·exact ⟨_,[],rfl,.inl ⟨rfl,rfl⟩,by simp,fun j=>by simp⟩
 ·simp only [if_true] at hm
  subst hm
  obtain ⟨hw,hD⟩:=Sz.slice hs Try.underlying25
  have h24:Try.prog.bytesOf 47=24:=by kernel_rfl
  rw [h24,List.length_map,List.length_range] at hw
  simp only [reachBytes] at hw
  obtain ⟨ls,hl,hp⟩:=pick (P:=fun i (l:List Int)=>W.cell? (a.add i)=some (V i)/\RdA W (V i) l/\l.length<=17592186044416) len (fun i hi=>by
   obtain ⟨h1,h2⟩:=hx i (by omega)
   obtain ⟨v,l,e,h3,h4⟩:=opz_ints h2 (hD _ (List.mem_map.2 ⟨i,List.mem_range.2 hi,rfl⟩))
   simp only [List.cons.injEq,and_true] at e
   subst e
   exact ⟨l,h1,h3,h4⟩)
  refine ⟨_,ls,rfl,.inr ⟨a,m,by rw [hl],by rw [hl];exact hle,hcap,fun j hj=>?_⟩,by omega,fun j=>?_⟩
  ·obtain ⟨q1,q2,_⟩:=hp j hj
   refine ⟨V j,q1,?_⟩
   rw [List.getD_eq_getElem?_getD,List.getElem?_eq_getElem hj];exact q2
  ·rw [List.getD_eq_getElem?_getD]
   by_cases hj:j < ls.length
   ·rw [List.getElem?_eq_getElem hj]
    exact (hp j hj).2.2
   ·rw [List.getElem?_eq_none (by omega)];simp
theorem opz_code {n:Nat} {cs:List Value} {x:DataW H × List MemPlace} (h:DataW.trod enc Try.prog W 0 (fun _=>true) true n 90 cs=some x) (hs:Sz 90 x.1) :
 ∃ v k,cs=[v]/\RdIs W v k/\k.length<=5864062014805:=by
 rcases open_slice Try.underlying90 h with ⟨rfl,rfl⟩ | ⟨a,len,cap,m,n',D,Pl,rfl,_,hle,hcap,hm,rfl,hx⟩
 ·exact ⟨_,[],rfl,.inl ⟨rfl,rfl⟩,by simp⟩
 ·simp only [if_true] at hm
  subst hm
  have hw:=(Sz.slice hs Try.underlying90).1
  have h24:Try.prog.bytesOf 99=24:=by kernel_rfl
  rw [h24,List.length_map,List.length_range] at hw
  simp only [reachBytes] at hw
  obtain ⟨v,k,e,hR,_⟩:=opn_code h
  obtain ⟨b,c,hv⟩:=hR.slice
  subst hv
  simp only [List.cons.injEq,and_true,Value.slice.injEq] at e
  exact ⟨_,k,by rw [e.1,e.2.1,e.2.2],hR,by omega⟩
theorem opz_funcs {n:Nat} {cs:List Value} {x:DataW H × List MemPlace} (h:DataW.trod enc Try.prog W 0 (fun _=>true) true n 26 cs=some x) (hs:Sz 26 x.1) :
 ∃ v fs,cs=[v]/\RdFs W v fs/\fs.length<=2199023255552/\∀ j (hj:j < fs.length),fs[j].locals.length<=17592186044416/\fs[j].code.length<=5864062014805:=by
 rcases open_slice Try.underlying26 h with ⟨rfl,rfl⟩ | ⟨a,len,cap,m,n',D,Pl,rfl,_,hle,hcap,hm,rfl,hx⟩
 ·exact ⟨_,[],rfl,.inl ⟨rfl,rfl⟩,by simp,fun j hj=>by simp at hj⟩
 ·simp only [if_true] at hm
  subst hm
  obtain ⟨hw,hD⟩:=Sz.slice hs Try.underlying26
  have h64:Try.prog.bytesOf 92=64:=by kernel_rfl
  rw [h64,List.length_map,List.length_range] at hw
  simp only [reachBytes] at hw
  have hc4:Try.prog.cellsOf 92=4:=by kernel_rfl
  have hc1:Try.prog.cellsOf 3=1:=by kernel_rfl
  have hc2:Try.prog.cellsOf 47=1:=by kernel_rfl
  have hc3:Try.prog.cellsOf 90=1:=by kernel_rfl
  rw [hc4] at hx
  obtain ⟨fs,hl,hp⟩:=pick (P:=fun i (f:Fn)=>(∃ lv cv,W.cell? (a.add (i * 4))=some (.int .i64 f.args)/\W.cell? ⟨(a.add (i * 4)).block,(a.add (i * 4)).off+1,none⟩=some lv/\W.cell? ⟨(a.add (i * 4)).block,(a.add (i * 4)).off+2,none⟩=some (.int .i64 f.result)/\W.cell? ⟨(a.add (i * 4)).block,(a.add (i * 4)).off+3,none⟩=some cv/\RdA W lv f.locals/\RdIs W cv f.code)/\f.locals.length<=17592186044416/\f.code.length<=5864062014805) len (fun i hi=>by
   obtain ⟨cs',h1,h2⟩:=hx i (by omega)
   obtain ⟨hl4,hcell⟩:=cells_n h1
   obtain ⟨y0,y1,y2,y3,n2,ey,_,t0,t1,t2,t3⟩:=trod_struct4 Try.underlying92 h2
   have hDi:D i=.agg [y0.1,y1.1,y2.1,y3.1]:=by
    have:=congrArg Prod.fst ey
    exact this
   have hSi:Sz 92 (.agg [y0.1,y1.1,y2.1,y3.1]):=by rw [<-hDi];exact hD _ (List.mem_map.2 ⟨i,List.mem_range.2 hi,rfl⟩)
   simp only [hc1,hc2,hc3] at t0 t1 t2 t3
   obtain ⟨z0,e0⟩:=opn_int t0
   obtain ⟨lv,ll,e1,r1,b1⟩:=opz_ints t1 (hSi.part Try.underlying92 (j:=1) rfl rfl)
   obtain ⟨z2,e2⟩:=opn_int t2
   obtain ⟨cv,kk,e3,r3,b3⟩:=opz_code t3 (hSi.part Try.underlying92 (j:=3) rfl rfl)
   match cs',hl4 with
   | [c0,c1,c2,c3],_ =>
    simp at e0 e1 e2 e3
    subst e0;subst e1;subst e2;subst e3
    have g0:=hcell 0 (by omega)
    have g1:=hcell 1 (by omega)
    have g2:=hcell 2 (by omega)
    have g3:=hcell 3 (by omega)
    rw [add_more (by omega)] at g1 g2 g3
    exact ⟨⟨z0,ll,z2,kk⟩,⟨c1,c3,by simpa [Addr.add] using g0,by simpa using g1,by simpa using g2,by simpa using g3,r1,r3⟩,b1,b3⟩)
  exact ⟨_,fs,rfl,.inr ⟨a,m,by rw [hl],by rw [hl];exact hle,hcap,fun j hj=>(hp j hj).1⟩,by omega,fun j hj=>(hp j hj).2⟩
end
end Go.Proofs.Ytnfnbcbadakofaa
