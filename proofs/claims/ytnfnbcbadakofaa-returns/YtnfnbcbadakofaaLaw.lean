import Derived.Test.YtnfnbcbadakofaaGiv
namespace Go.Proofs.Ytnfnbcbadakofaa
open Go.RowKit
set_option maxHeartbeats 2000000
set_option maxRecDepth 100000
theorem num_any (n:Int) (w:World):Calls Try.prog 16 #[n] w fun e w'=>e=.returned (.int .i64 n)/\w'=w:=by
 go_enter Try.func16,Try.ntmps16
 go_wp2
 go_ret
 exact ⟨rfl,rfl⟩
structure PgOk (p:Pg):Prop where
 tl:p.types.length<=10000
 ts:∀ j,(p.types.getD j []).length<=10000
 fl:p.funcs.length<=10000
 fs:∀ j (hj:j < p.funcs.length),p.funcs[j].locals.length<=10000/\p.funcs[j].code.length<=10000
theorem tkF_ok (ns:List Int) (ls:List (List Int)) (fu:Int) (f:Bool) (s:Nat × Bool):(tkF ns ls fu f s).1.locals.length<=8/\(tkF ns ls fu f s).1.code.length<=64:=by
 simp only [tkF,tkL_len,tkC_len]
 have h0:0<=(tk ns 0 (if f=true then 0 else 4) s).1:=(tk0 _ _ _ (by split <;> decide)).1
 have h1:=tk_rng ns (tk ns 0 (if f=true then 0 else 4) s).1 8 (tk ns 0 (if f=true then 0 else 4) s).2 h0 (by decide)
 refine ⟨by omega,?_⟩
 have h2:=fun s=>tk_rng ns 1 64 s (by decide) (by decide)
 have:=h2 (tk ns 0 (if f=true then 0 else (ls.length:Int)) (tkL ns ls.length (tk ns (tk ns 0 (if f=true then 0 else 4) s).1 8 (tk ns 0 (if f=true then 0 else 4) s).2).1.toNat (tk ns (tk ns 0 (if f=true then 0 else 4) s).1 8 (tk ns 0 (if f=true then 0 else 4) s).2).2).2).2
 omega
theorem tkFs_ok (ns:List Int) (ls:List (List Int)) (fu:Int) (k:Nat) (s:Nat × Bool):∀ f ∈ (tkFs ns ls fu k s).1,f.locals.length<=8/\f.code.length<=64:=by
 induction k with
 | zero=>intro f hf;simp [tkFs] at hf
 | succ k ih =>
  intro f hf
  simp only [tkFs,List.mem_append,List.mem_singleton] at hf
  rcases hf with hf | rfl
  ·exact ih f hf
  ·exact tkF_ok _ _ _ _ _
theorem PgOk.nil:PgOk ⟨[],[]⟩:=⟨by simp,by simp,by simp,by intro j hj;simp at hj⟩
theorem opn_ok (s:ByteArray):PgOk (opn s).2.2:=by
 unfold opn
 by_cases h:800 < s.size
 ·rw [if_pos h];exact PgOk.nil
 ·rw [if_neg h]
  have e2:rdP (bl s)=if (tkP (bl s) (0,false)).2.2=true \/ (tkP (bl s) (0,false)).2.1 < (bl s).length then (2,((tkP (bl s) (0,false)).2.1:Int),⟨[],[]⟩) else (0,0,(tkP (bl s) (0,false)).1):=rfl
  rw [e2]
  split
  ·exact PgOk.nil
  ·have h0:=tk0 (bl s) 6 (0,false) (by decide)
   have h2:=fun s'=>tk_rng (bl s) 1 6 s' (by decide) (by decide)
   refine ⟨?_,?_,?_,?_⟩
   ·simp only [tkP,tkT_len];omega
   ·intro j
    have:=tkT_small (bl s) (tk (bl s) 0 6 (0,false)).1 (tk (bl s) 0 6 (0,false)).1.toNat (tk (bl s) 0 6 (0,false)).2 j
    simp only [tkP];omega
   ·simp only [tkP,tkFs_len]
    have:=h2 (tkT (bl s) (tk (bl s) 0 6 (0,false)).1 (tk (bl s) 0 6 (0,false)).1.toNat (tk (bl s) 0 6 (0,false)).2).2
    omega
   ·intro j hj
    have:=tkFs_ok (bl s) (tkP (bl s) (0,false)).1.types (tk (bl s) 1 6 (tkT (bl s) (tk (bl s) 0 6 (0,false)).1 (tk (bl s) 0 6 (0,false)).1.toNat (tk (bl s) 0 6 (0,false)).2).2).1 _ _ _ (List.getElem_mem hj)
    omega
end Go.Proofs.Ytnfnbcbadakofaa
