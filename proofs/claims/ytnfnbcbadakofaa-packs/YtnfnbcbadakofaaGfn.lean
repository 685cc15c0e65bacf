import Derived.Test.YtnfnbcbadakofaaMct
import Derived.Test.YtnfnbcbadakofaaSame
import Derived.Test.YtnfnbcbadakofaaRfun
import Derived.Test.YtnfnbcbadakofaaChk3
namespace Go.Proofs.Ytnfnbcbadakofaa
open Go.RowKit
theorem Chg.cellF {w w':World} (k:Chg (fun _=>False) w w') {a:Addr} {v:Value} (h:w.cell? a=some v):w'.cell? a=some v:=
 (World.cell?_of_block (k.block a.block (World.block_lt_of_cell? w a h) (fun e=>e))).trans h
end Go.Proofs.Ytnfnbcbadakofaa
namespace Go.Proofs.Ytnfnbcbadakofaa
open Go.RowKit
def RdA (w:World) (v:Value) (l:List Int):Prop:=
 (v=.slice none 0 0/\l=[]) \/ ∃ (a:Addr) (c:Nat),v=.slice (some a) l.length c/\l.length<=c/\c<=maxLen/\∀ j,j < l.length->w.cell? (a.add j)=some (.int .i64 (l.getD j 0))
theorem RdA.slice {w:World} {v:Value} {l:List Int} (h:RdA w v l):∃ a c,v=.slice a l.length c:=by
 rcases h with ⟨rfl,rfl⟩ | ⟨a,c,rfl,_⟩
 ·exact ⟨none,0,rfl⟩
 ·exact ⟨_,_,rfl⟩
theorem RdA.form {w:World} {v:Value} {l:List Int} (h:RdA w v l) (h0:0 < l.length):∃ (a:Addr) (c:Nat),v=.slice (some a) l.length c/\l.length<=c/\c<=maxLen/\∀ j,j < l.length->w.cell? (a.add j)=some (.int .i64 (l.getD j 0)):=by
 rcases h with ⟨rfl,rfl⟩ | h
 ·simp at h0
 ·exact h
end Go.Proofs.Ytnfnbcbadakofaa
namespace Go.Proofs.Ytnfnbcbadakofaa
open Go.RowKit
theorem RdA.new {w w':World} {v:Value} {l:List Int} (h:RdA w v l) (k:Chg (fun _=>False) w w'):RdA w' v l:=by
 rcases h with h | ⟨a,c,h1,h2,h3,h4⟩
 ·exact .inl h
 ·exact .inr ⟨a,c,h1,h2,h3,fun j hj=>k.cellF (h4 j hj)⟩
end Go.Proofs.Ytnfnbcbadakofaa
