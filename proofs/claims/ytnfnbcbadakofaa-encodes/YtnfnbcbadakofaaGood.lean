import Derived.Test.YtnfnbcbadakofaaNext
namespace Go.Proofs.Ytnfnbcbadakofaa
open Go.RowKit
set_option maxHeartbeats 1000000
set_option maxRecDepth 100000
theorem operandA_any (a fa:Option Addr) (nT cap nf fc:Nat) (lo op:Int) (w:World) (h1:0<=op) (h2:op<=12 \/ 16<=op) (h3:op<=18) (hlo:0<=lo) (hlo2:lo<=10000) :
 Calls Try.prog 91 #[.agg #[.slice a nT cap,.slice fa nf fc],lo,op] w fun e w' =>
  e=.returned (.tuple #[.int .i64 (bA nT 0 lo 0 op).1,.int .i64 (bA nT 0 lo 0 op).2])/\Chg () w w':=by
 have hop:op=0 \/ op=1 \/ op=2 \/ op=3 \/ op=4 \/ op=5 \/ op=6 \/ op=7 \/ op=8 \/ op=9 \/ op=10 \/ op=11 \/ op=12 \/ op=16 \/ op=17 \/ op=18:=by omega
 clear h1 h2 h3
 rcases hop with rfl | rfl | rfl | rfl | rfl | rfl | rfl | rfl | rfl | rfl | rfl | rfl | rfl | rfl | rfl | rfl
 all_goals
  go_enter Try.func91,Try.ntmps91
  go_wp2
  first
   | (go_ret2;exact ⟨rfl,fin_new0 _⟩)
   | (go_quiet (fail)
      go_wp2
      go_ret2
      exact ⟨rfl,fin_new _ _⟩)
theorem goodA_any (a fa:Option Addr) (nT cap nf fc:Nat) (fu lo co op x:Int) (w:World) (h1:0<=op) (h2:op<=18) (hlo:0<=lo) (hlo2:lo<=10000) (hco:0<=co) (hco2:co<=10000) (hfu:0<=fu) (hfu2:fu<=10000) :
 Calls Try.prog 67 #[.agg #[.slice a nT cap,.slice fa nf fc],lo,co,fu,op,x] w fun e w' =>
  e=.returned (.bool (wB x (bA nT fu lo co op).1 (bA nT fu lo co op).2))/\Chg () w w':=by
 by_cases h13:op=13
 ·subst h13
  go_enter Try.func67,Try.ntmps67
  go_wp2_with fail
  refine (within_any _ _ _ _).mono ?_
  rintro e w1 ⟨rfl,rfl⟩
  go_wp2
  go_ret
  exact ⟨rfl,fin_new0 _⟩
 ·by_cases h14:op=14
  ·subst h14
   go_enter Try.func67,Try.ntmps67
   go_wp2_with fail
   refine (within_any _ _ _ _).mono ?_
   rintro e w1 ⟨rfl,rfl⟩
   go_wp2
   go_ret
   exact ⟨rfl,fin_new0 _⟩
  ·have e13:(op == 13)=false:=by simp [h13]
   have e14:(op == 14)=false:=by simp [h14]
   by_cases h15:op=15
   ·subst h15
    go_enter Try.func67,Try.ntmps67
    go_wp2_with fail
    refine (within_any _ _ _ _).mono ?_
    rintro e w1 ⟨rfl,rfl⟩
    go_wp2
    go_ret
    exact ⟨rfl,fin_new0 _⟩
   ·have e15:(op == 15)=false:=by simp [h15]
    have eb:bA nT fu lo co op=bA nT 0 lo 0 op:=by unfold bA;simp [h13,h14,h15]
    rw [eb]
    have hop:op<=12 \/ 16<=op:=by omega
    clear h13 h14 h15 eb
    go_enter Try.func67,Try.ntmps67
    go_wp2_with fail
    refine (operandA_any a fa nT cap nf fc lo op _ h1 hop h2 hlo hlo2).mono ?_
    rintro e w1 ⟨rfl,hch⟩
    go_wp2_with fail
    refine (within_any _ _ _ _).mono ?_
    rintro e w2 ⟨rfl,rfl⟩
    go_wp2
    go_ret
    exact ⟨rfl,(fin_new0 _).trans hch⟩
end Go.Proofs.Ytnfnbcbadakofaa
