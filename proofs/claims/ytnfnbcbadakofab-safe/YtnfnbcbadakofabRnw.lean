import Derived.Test.YtnfnbcbadakofabClr
import Derived.Test.YtnfnbcbadakofabCli
import Derived.Test.YtnfnbcbadakofabStr
import Derived.Test.YtnfnbcbadakofabGpl
import Derived.Test.YtnfnbcbadakofabPks
namespace Go.Proofs.Ytnfnbcbadakofab
open Go.RowKit
set_option maxHeartbeats 4000000
set_option maxRecDepth 100000
theorem mks_words {s:ByteArray} (hs:s.size<=800):wordsB (mksP s):=by
 intro x hx
 have r1:=mkP_rng s 257 hs (by decide) s.size
 have r2:=mkP_rng s 263 hs (by decide) s.size
 have r3:=mkP_rng s 269 hs (by decide) s.size
 simp only [mksP,List.mem_cons,List.not_mem_nil,or_false] at hx
 rcases hx with hx | hx | hx <;> omega
section
variable {W1 w:World} {rb:Nat} {tv fv:Value} {D:Dn} {R:Rn} {img:ByteArray}
theorem zero_any (w:World):Calls Try.prog 16 #[.agg #[(),(),oO,oO]] w fun e w'=>e=.returned (.bool true)/\Chg () w w':=by
 have e47:=fun wx:World=>Lib.run_eql_slice_nil (P:=Try.prog) wx 24 3 none 0 0 0 0 Try.underlying24
 have kS:Chg () w (w.alloc (Obj.cells #[(),(),oO,oO] 34)):=(Chg.refl _ _).alloc _
 go_enter Try.func16,Try.ntmps16
 go_wp2
 go_ret
 exact ⟨rfl,kS⟩
end
end Go.Proofs.Ytnfnbcbadakofab
namespace Go.Proofs.Ytnfnbcbadakofab
open Go.RowKit
def RdSt (w:World) (v:Value) (l:List (List Int × Int × Bool × Bool)):Prop:=
 (v=.slice none 0 0/\l=[]) \/ ∃ (a:Addr) (c:Nat),v=.slice (some a) l.length c/\l.length<=c/\c<=maxLen/\∀ j (hj:j < l.length),∃ iv,w.cell? (a.add (j * 4))=some iv /\
   w.cell? ⟨(a.add (j * 4)).block,(a.add (j * 4)).off+1,none⟩=some (.int .i64 l[j].2.1)/\w.cell? ⟨(a.add (j * 4)).block,(a.add (j * 4)).off+2,none⟩=some (.bool l[j].2.2.1)/\w.cell? ⟨(a.add (j * 4)).block,(a.add (j * 4)).off+3,none⟩=some (.bool l[j].2.2.2)/\RdA w iv l[j].1
theorem RdSt.slice {w:World} {v:Value} {l:List (List Int × Int × Bool × Bool)} (h:RdSt w v l):∃ a c,v=.slice a l.length c:=by
 rcases h with ⟨rfl,rfl⟩ | ⟨a,c,rfl,_⟩
 ·exact ⟨none,0,rfl⟩
 ·exact ⟨some a,c,rfl⟩
theorem RdSt.at {w:World} {a:Option Addr} {n c:Nat} {l:List (List Int × Int × Bool × Bool)} (h:RdSt w (.slice a n c) l) {j:Nat} (hj:j < l.length):∃ g iv,a=some g/\w.cell? (g.add (j * 4))=some iv /\
 w.cell? ⟨(g.add (j * 4)).block,(g.add (j * 4)).off+1,none⟩=some (.int .i64 l[j].2.1)/\w.cell? ⟨(g.add (j * 4)).block,(g.add (j * 4)).off+2,none⟩=some (.bool l[j].2.2.1)/\w.cell? ⟨(g.add (j * 4)).block,(g.add (j * 4)).off+3,none⟩=some (.bool l[j].2.2.2)/\RdA w iv l[j].1:=by
 rcases h with ⟨_,rfl⟩ | ⟨g,c,e,_,_,hc⟩
 ·simp at hj
 ·simp only [Value.slice.injEq] at e
  obtain ⟨iv,q⟩:=hc j hj
  exact ⟨g,iv,e.1,q⟩
end Go.Proofs.Ytnfnbcbadakofab
