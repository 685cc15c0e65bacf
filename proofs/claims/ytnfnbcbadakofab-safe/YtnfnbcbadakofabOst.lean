import Derived.Test.YtnfnbcbadakofabRnw
import Derived.Test.YtnfnbcbadakofabLate
import Derived.ProofKit
import Derived.OpenShut
import Derived.ShutString
import Derived.JoinedCond
namespace Go.Proofs.Ytnfnbcbadakofab
open Go.RowKit Go.ChangeShapes Go.Deep Go.Joins
section
variable {H:Type} {enc:TypeId × Value->H} {W:World}
theorem opn_bool {n:Nat} {cs:List Value} {x:DataW H × List MemPlace} (h:DataW.trod enc Try.prog W 0 (fun _=>true) true n 4 cs=some x):∃ z,cs=[.bool z]:=by
 obtain ⟨z,h1,_⟩:=DataW.trod_bool Try.underlying4 h
 exact ⟨z,h1⟩
theorem opn_steps {n:Nat} {cs:List Value} {x:DataW H × List MemPlace} (h:DataW.trod enc Try.prog W 0 (fun _=>true) true n 22 cs=some x) :
 ∃ v l,cs=[v]/\RdSt W v l/\l.length<=Rows.uptoBulk x.1:=by
 rcases open_slice Try.underlying22 h with ⟨rfl,rfl⟩ | ⟨a,len,cap,m,n',D,Pl,rfl,_,hle,hcap,hm,rfl,hx⟩
 ·exact ⟨_,[],rfl,.inl ⟨rfl,rfl⟩,by simp⟩
 ·simp only [if_true] at hm
  subst hm
  have hc4:Try.prog.cellsOf 31=4:=by kernel_rfl
  have hc1:Try.prog.cellsOf 3=1:=by kernel_rfl
  have hc2:Try.prog.cellsOf 24=1:=by kernel_rfl
  have hc3:Try.prog.cellsOf 4=1:=by kernel_rfl
  rw [hc4] at hx
  obtain ⟨l,hl,hp⟩:=pick (P:=fun i (f:List Int × Int × Bool × Bool)=>∃ iv,W.cell? (a.add (i * 4))=some iv/\W.cell? ⟨(a.add (i * 4)).block,(a.add (i * 4)).off+1,none⟩=some (.int .i64 f.2.1)/\W.cell? ⟨(a.add (i * 4)).block,(a.add (i * 4)).off+2,none⟩=some (.bool f.2.2.1)/\W.cell? ⟨(a.add (i * 4)).block,(a.add (i * 4)).off+3,none⟩=some (.bool f.2.2.2)/\RdA W iv f.1) len (fun i hi=>by
   obtain ⟨cs',h1,h2⟩:=hx i (by omega)
   obtain ⟨hl4,hcell⟩:=cells_n h1
   obtain ⟨y0,y1,y2,y3,n2,ey,_,t0,t1,t2,t3⟩:=trod_struct4 Try.underlying31 h2
   simp only [hc1,hc2,hc3] at t0 t1 t2 t3
   obtain ⟨iv,ll,e0,r0,_⟩:=opn_ints t0
   obtain ⟨z1,e1⟩:=opn_int t1
   obtain ⟨z2,e2⟩:=opn_bool t2
   obtain ⟨z3,e3⟩:=opn_bool t3
   match cs',hl4 with
   | [c0,c1,c2,c3],_ =>
    simp at e0 e1 e2 e3
    subst e0;subst e1;subst e2;subst e3
    have g0:=hcell 0 (by omega)
    have g1:=hcell 1 (by omega)
    have g2:=hcell 2 (by omega)
    have g3:=hcell 3 (by omega)
    rw [add_more (by omega)] at g1 g2 g3
    exact ⟨(ll,z1,z2,z3),c0,by simpa [Addr.add] using g0,by simpa using g1,by simpa using g2,by simpa using g3,r0⟩)
  have h1:=bulk_elems ((List.range len).map D) ((List.range (m - len)).map fun j=>D (len+j))
  have h2:=bulk_len ((List.range len).map D)
  rw [List.length_map,List.length_range] at h2
  exact ⟨_,l,rfl,.inr ⟨a,m,by rw [hl],by rw [hl];exact hle,hcap,fun j hj=>hp j hj⟩,by simp only;omega⟩
end
end Go.Proofs.Ytnfnbcbadakofab
