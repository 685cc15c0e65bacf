import Derived.Test.YtnfnbcbadakofaaStt
import Derived.Test.YtnfnbcbadakofaaMct
namespace Go.Proofs.Ytnfnbcbadakofaa
open Go.RowKit
def blankP (l:List Int) (k:Nat):List (Int × Bool):=(l.drop k).map fun t=>(0,decide (0 < t))
theorem opF_size {s:ByteArray} (h:(opF s).1=0):s.size<=800:=by
 by_cases h1:(opn s).1=0
 ·unfold opn at h1
  by_cases h2:800 < s.size
  ·rw [if_pos h2] at h1;cases h1
  ·omega
 ·rw [opF_1 h1] at h;exact absurd h h1
theorem opF_main {s:ByteArray} (h:(opF s).1=0):0 < (opF s).2.2.1.funcs.length/\(fnAt (opF s).2.2.1.funcs 0).locals.length<=8:=by
 have hw:=(opF_ok h).1
 have h1:0 < (opF s).2.2.1.funcs.length:=hw.f1
 have hfn:fnAt (opF s).2.2.1.funcs 0=(opF s).2.2.1.funcs[0]:=by unfold fnAt;rw [dif_pos ⟨by omega,by simpa using h1⟩];rfl
 refine ⟨h1,?_⟩
 rw [hfn]
 exact (hw.fs 0 h1).l8
theorem start_any (s:ByteArray) (h d:Int) (w:World):Calls Try.prog 32 #[.string s,.int .i64 h,.int .i64 d] w (SuEnd w s (opF s) h d):=by
 refine start_core s h d w (opF s) (fun w=>openFit_any s w) opF_size ?_
 by_cases hz:(opF s).1=0
 ·have:=(opF_main hz).2;omega
 ·have hp:(opF s).2.2.1=⟨[],[]⟩:=by
   by_cases h1:(opn s).1=0
   ·rcases hA:fitAll (opn s).2.2 (opn s).2.2.funcs 0 [] with k | sps
    ·rw [opF_2 h1 k hA]
    ·rw [opF_3 h1 sps hA] at hz;exact absurd rfl hz
   ·rw [opF_1 h1]
  rw [hp];simp [fnAt]
end Go.Proofs.Ytnfnbcbadakofaa
