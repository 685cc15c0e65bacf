import Derived.Test.YtnfnbcbadakofaaTypes
namespace Go.Proofs.Ytnfnbcbadakofaa
open Go.RowKit
def bA (nT fu lo co op:Int):Int × Int:=
 if op=0 then (0,255) else if op=5 \/ op=6 then (0,lo - 1) else if 7<=op/\op<=12 then (1,nT)
 else if op=13 \/ op=14 then (0,co - 1) else if op=15 then (0,fu - 1) else (0,0)
theorem IntsV.slice {w:World} {base:Nat} {v:Value} {l:List Int} (h:IntsV w base v l):∃ a cap,v=.slice a l.length cap:=by
 rcases h.2 with ⟨h1,h2⟩ | ⟨g,cap,cur,rfl,_⟩
 ·exact ⟨none,0,by rw [h1,h2]⟩
 ·exact ⟨_,_,rfl⟩
theorem fin_new {w:World} (o:Obj) (n:Nat):Chg () w ((w.alloc o).drewN n):=((Chg.refl _ w).alloc o).drewN n
theorem fin_new0 {w:World} (o:Obj):Chg () w (w.alloc o):=((Chg.refl _ w).alloc o)
set_option maxHeartbeats 1000000 in
set_option maxRecDepth 100000 in
theorem boundsA_any (a:Option Addr) (nT cap:Nat) (fu lo co op:Int) (w:World) (h1:0<=op) (h2:op<=18) (_hn:nT<=10000) (hlo:0<=lo) (hlo2:lo<=10000) (hco:0<=co) (hco2:co<=10000) (hfu:0<=fu) (hfu2:fu<=10000) :
 Calls Try.prog 135 #[.agg #[.slice a nT cap,fu,lo,co],op] w fun e w' =>
  e=.returned (.tuple #[.int .i64 (bA nT fu lo co op).1,.int .i64 (bA nT fu lo co op).2])/\Chg () w w':=by
 have hop:op=0 \/ op=1 \/ op=2 \/ op=3 \/ op=4 \/ op=5 \/ op=6 \/ op=7 \/ op=8 \/ op=9 \/ op=10 \/ op=11 \/ op=12 \/ op=13 \/ op=14 \/ op=15 \/ op=16 \/ op=17 \/ op=18:=by omega
 clear h1 h2
 rcases hop with rfl | rfl | rfl | rfl | rfl | rfl | rfl | rfl | rfl | rfl | rfl | rfl | rfl | rfl | rfl | rfl | rfl | rfl | rfl
 all_goals
  go_enter Try.func135,Try.ntmps135
  go_wp2
  first
   | (go_ret2;exact ⟨rfl,fin_new0 _⟩)
   | (go_quiet (fail)
      go_wp2
      go_ret2
      exact ⟨rfl,fin_new _ _⟩)
end Go.Proofs.Ytnfnbcbadakofaa
