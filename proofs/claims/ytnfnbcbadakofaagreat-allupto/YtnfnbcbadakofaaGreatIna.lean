import Derived.Test.YtnfnbcbadakofaaGreatUva
import Derived.Test.YtnfnbcbadakofaaGreatSame
namespace Go.Proofs.YtnfnbcbadakofaaGreat
open Go.RowKit
set_option maxHeartbeats 400000
set_option maxRecDepth 100000
theorem pu (ar re:Int) (la ca:Option Addr) (ln lc cn cc:Nat) (i:Int) (w:World) (h:i < 0 \/ (cn:Int)<=i) :
 Calls Tryz.prog 50 #[.agg #[ar,.slice la ln lc,re,.slice ca cn cc],i] w fun e w'=>e=.returned (.agg #[oO,oO,oO])/\Chg () w w':=by
 by_cases h1:i < 0
 ·clear h
  go_enter Tryz.func50,Tryz.ntmps50
  go_wp2
  exact bodyPost_ret (v:=.agg #[oO,oO,oO]) (by simp [results,Tryz.results50,go_sem]) rfl ⟨rfl,(((Chg.refl _ w).alloc _).alloc _)⟩
 ·have h2:(cn:Int)<=i:=by omega
  clear h
  go_enter Tryz.func50,Tryz.ntmps50
  go_wp2
  exact bodyPost_ret (v:=.agg #[oO,oO,oO]) (by simp [results,Tryz.results50,go_sem]) rfl ⟨rfl,(((Chg.refl _ w).alloc _).alloc _)⟩
theorem mg (ar re:Int) (la:Option Addr) (ln lc g cn cc k:Nat) (o A B:Int) (w:World) (hk:k < cn) (h0:w.cell? ⟨g,k * 3,none⟩=some (.int .i64 o)) (h1:w.cell? ⟨g,k * 3+1,none⟩=some (.int .i64 A)) (h2:w.cell? ⟨g,k * 3+2,none⟩=some (.int .i64 B)) :
 Calls Tryz.prog 50 #[.agg #[ar,.slice la ln lc,re,.slice g cn cc],k] w fun e w'=>e=.returned (.agg #[o,A,B])/\Chg () w w':=by
 have hk':(k:Int) < (cn:Int):=by omega
 have hg:=World.block_lt_of_cell? w _ h0
 have kb:Chg () w ((w.alloc (Obj.cells #[ar,.slice la ln lc,re,.slice g cn cc] 111)).alloc (Obj.cells #[oO,oO,oO] 135)):=((Chg.refl _ w).alloc _).alloc _
 have y0:=(World.cell?_of_block (kb.block g hg (fun q=>q)):_).trans h0
 have y1:=(World.cell?_of_block (kb.block g hg (fun q=>q)):_).trans h1
 have y2:=(World.cell?_of_block (kb.block g hg (fun q=>q)):_).trans h2
 go_enter Tryz.func50,Tryz.ntmps50
 go_wp2
 exact bodyPost_ret (v:=.agg #[o,A,B]) (by simp [results,Tryz.results50,go_sem]) rfl ⟨rfl,((Chg.refl _ w).alloc _).alloc _⟩
theorem eJ (lv cv:Value) (f:Fn) (i:Int) (w:World) (base b2:Nat) (hl:ad w base lv f.locals) (hc:bG 135 w b2 cv f.code) :
 Calls Tryz.prog 50 #[.agg #[f.args,lv,f.result,cv],i] w fun e w'=>e=.returned (.agg #[.int .i64 (aV f i).1,.int .i64 (aV f i).2.1,.int .i64 (aV f i).2.2])/\Chg () w w':=by
 obtain ⟨la,lc,rfl⟩:=hl.slice
 by_cases hi:i < 0 \/ (f.code.length:Int)<=i
 ·obtain ⟨ca,cc,rfl⟩:=hc.slice
  have e:aV f i=(0,0,0):=if_pos hi
  rw [e]
  exact pu _ _ _ _ _ _ _ _ _ w hi
 ·obtain ⟨k,rfl⟩:∃ k:Nat,i=(k:Int):=⟨i.toNat,by omega⟩
  have hk:k < f.code.length:=by omega
  have e:aV f (k:Int)=f.code[k]:=by
   unfold aV;rw [if_neg hi,Int.toNat_natCast,List.getD_eq_getElem?_getD,List.getElem?_eq_getElem hk];rfl
  rw [e]
  obtain ⟨g,cc,rfl,_,_,_,h1⟩:=hc.form (by omega)
  obtain ⟨q0,q1,q2⟩:=h1 k hk
  exact mg _ _ _ _ _ g _ cc k _ _ _ w hk q0 q1 q2
end Go.Proofs.YtnfnbcbadakofaaGreat
