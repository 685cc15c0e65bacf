import Derived.Test.YtnfnbcbadakofaaGreatSta
import Derived.Test.YtnfnbcbadakofaaGreatSame
import Derived.Test.YtnfnbcbadakofaaGreatRfun
import Derived.Test.YtnfnbcbadakofaaGreatChk3
import Derived.Laws.BytesArg
namespace Go.Proofs.YtnfnbcbadakofaaGreat
open Go.RowKit
theorem Chg.cellF {w w':World} (k:Chg () w w') {a:Addr} {v:Value} (h:w.cell? a=some v):w'.cell? a=some v:=
 (World.cell?_of_block (k.block a.block (World.block_lt_of_cell? w a h) (fun e=>e))).trans h
end Go.Proofs.YtnfnbcbadakofaaGreat
namespace Go.Proofs.YtnfnbcbadakofaaGreat
open Go.RowKit
def RdA (w:World) (v:Value) (l:List Int):Prop:=
 (v=.slice none 0 0/\l=[]) \/ ∃ (a:Addr) (c:Nat),v=.slice (some a) l.length c/\l.length<=c/\c<=maxLen/\∀ j,j < l.length->w.cell? (a.add j)=some (.int .i64 (l.getD j 0))
theorem RdA.slice {w:World} {v:Value} {l:List Int} (h:RdA w v l):∃ a c,v=.slice a l.length c:=by
 rcases h with ⟨rfl,rfl⟩ | ⟨a,c,rfl,_⟩
 ·exact ⟨none,0,rfl⟩
 ·exact ⟨_,_,rfl⟩
theorem RdA.form {w:World} {v:Value} {l:List Int} (h:RdA w v l) (h0:0 < l.length):∃ (a:Addr) (c:Nat),v=.slice (some a) l.length c/\l.length<=c/\c<=maxLen/\∀ j,j < l.length->w.cell? (a.add j)=some (.int .i64 (l.getD j 0)):=by
 rcases h with ⟨rfl,rfl⟩ | h
 ·simp at h0
 ·exact h
end Go.Proofs.YtnfnbcbadakofaaGreat
namespace Go.Proofs.YtnfnbcbadakofaaGreat
open Go.RowKit
theorem RdA.new {w w':World} {v:Value} {l:List Int} (h:RdA w v l) (k:Chg () w w'):RdA w' v l:=by
 rcases h with h | ⟨a,c,h1,h2,h3,h4⟩
 ·exact .inl h
 ·exact .inr ⟨a,c,h1,h2,h3,fun j hj=>k.cellF (h4 j hj)⟩
end Go.Proofs.YtnfnbcbadakofaaGreat
namespace Go.Proofs.YtnfnbcbadakofaaGreat
open Go.RowKit
set_option maxHeartbeats 1000000
set_option maxRecDepth 100000
end Go.Proofs.YtnfnbcbadakofaaGreat
namespace Go.Proofs.YtnfnbcbadakofaaGreat
open Go.RowKit
theorem ad.rdA {w:World} {base:Nat} {v:Value} {l:List Int} (h:ad w base v l):RdA w v l:=by
 by_cases h0:0 < l.length
 ·obtain ⟨g,cap,hv,_,hle,hcap,hc⟩:=h.form h0
  refine .inr ⟨⟨g,0,none⟩,cap,hv,hle,hcap,fun j hj=>?_⟩
  have hadd:(⟨g,0,none⟩:Addr).add j=⟨g,j,none⟩:=by unfold Addr.add;split <;> simp_all
  rw [hadd];exact hc j hj
 ·have hl:l=[]:=List.eq_nil_of_length_eq_zero (by omega)
  rcases h.2 with ⟨hv,_⟩ | ⟨g,cap,cur,hv,_,_,hle,hcap,_⟩
  ·exact .inl ⟨hv,hl⟩
  ·exact .inr ⟨⟨g,0,none⟩,cap,hv,hle,hcap,fun j hj=>by omega⟩
end Go.Proofs.YtnfnbcbadakofaaGreat
