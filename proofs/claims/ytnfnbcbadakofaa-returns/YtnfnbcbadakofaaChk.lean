import Derived.Test.YtnfnbcbadakofaaDec2
import Derived.Laws.AppendOwnNone
namespace Go.Proofs.Ytnfnbcbadakofaa
open Go.RowKit
set_option maxHeartbeats 400000
set_option maxRecDepth 100000
def RdI (w:World) (v:Value) (l:List Int):Prop:=
 (v=.slice none 0 0/\l=[]) \/ ∃ g off cap,v=.slice (some ⟨g,off,none⟩) l.length cap/\l.length<=cap/\cap<=maxLen/\∀ j,j < l.length->w.cell? ⟨g,off+j,none⟩=some (.int .i64 (l.getD j 0))
theorem IntsV.rdI {w:World} {base:Nat} {v:Value} {l:List Int} (h:IntsV w base v l):RdI w v l:=by
 by_cases h0:0 < l.length
 ·obtain ⟨g,cap,hv,_,hle,hcap,hc⟩:=h.form h0
  exact .inr ⟨g,0,cap,hv,hle,hcap,fun j hj=>by rw [Nat.zero_add];exact hc j hj⟩
 ·have hl:l=[]:=List.eq_nil_of_length_eq_zero (by omega)
  rcases h.2 with ⟨hv,_⟩ | ⟨g,cap,cur,hv,_,_,hle,hcap,_⟩
  ·exact .inl ⟨hv,hl⟩
  ·exact .inr ⟨g,0,cap,hv,hle,hcap,fun j hj=>by omega⟩
theorem RdI.news {w:World} {g off:Nat} {l:List Int} (hc:∀ j,j < l.length->w.cell? ⟨g,off+j,none⟩=some (.int .i64 (l.getD j 0))):∀ j u,(ints l)[j]?=some u->w.cell? ((⟨g,off,none⟩:Addr).add j)=some u:=by
 intro j u hu
 have hadd:(⟨g,off,none⟩:Addr).add j=⟨g,off+j,none⟩:=by unfold Addr.add;split <;> simp_all
 rw [hadd]
 have hj:j < l.length:=by
  rcases Nat.lt_or_ge j l.length with h | h
  ·exact h
  ·rw [List.getElem?_eq_none (by simpa [ints] using h)] at hu;cases hu
 rw [hc j hj]
 simp [ints,List.getElem?_eq_getElem hj] at hu
 rw [List.getD_eq_getElem?_getD,List.getElem?_eq_getElem hj]
 simpa using hu
end Go.Proofs.Ytnfnbcbadakofaa
