import Derived.Test.YtnfnbcbadakofaaRda
import Derived.Test.YtnfnbcbadakofaaNum
namespace Go.Proofs.Ytnfnbcbadakofaa
open Go.RowKit
def RdTs (w:World) (v:Value) (ls:List (List Int)):Prop:=
 (v=.slice none 0 0/\ls=[]) \/ ∃ (a:Addr) (c:Nat),v=.slice (some a) ls.length c/\ls.length<=c/\c<=maxLen/\∀ j,j < ls.length->∃ x,w.cell? (a.add j)=some x/\RdA w x (ls.getD j [])
def RdIs (w:World) (v:Value) (k:List (Int × Int × Int)):Prop:=
 (v=.slice none 0 0/\k=[]) \/ ∃ (a:Addr) (c:Nat),v=.slice (some a) k.length c/\k.length<=c/\c<=maxLen/\∀ j (hj:j < k.length),w.cell? (a.add (j * 3))=some (.int .i64 k[j].1)/\w.cell? ⟨(a.add (j * 3)).block,(a.add (j * 3)).off+1,none⟩=some (.int .i64 k[j].2.1)/\w.cell? ⟨(a.add (j * 3)).block,(a.add (j * 3)).off+2,none⟩=some (.int .i64 k[j].2.2)
def RdFs (w:World) (v:Value) (fs:List Fn):Prop:=
 (v=.slice none 0 0/\fs=[]) \/ ∃ (a:Addr) (c:Nat),v=.slice (some a) fs.length c/\fs.length<=c/\c<=maxLen/\∀ j (hj:j < fs.length),∃ lv cv,w.cell? (a.add (j * 4))=some (.int .i64 fs[j].args)/\w.cell? ⟨(a.add (j * 4)).block,(a.add (j * 4)).off+1,none⟩=some lv /\
   w.cell? ⟨(a.add (j * 4)).block,(a.add (j * 4)).off+2,none⟩=some (.int .i64 fs[j].result)/\w.cell? ⟨(a.add (j * 4)).block,(a.add (j * 4)).off+3,none⟩=some cv/\RdA w lv fs[j].locals/\RdIs w cv fs[j].code
theorem RdA.new {w w':World} {v:Value} {l:List Int} (h:RdA w v l) (k:Chg () w w'):RdA w' v l:=by
 rcases h with h | ⟨a,c,h1,h2,h3,h4⟩
 ·exact .inl h
 ·exact .inr ⟨a,c,h1,h2,h3,fun j hj=>k.cellF (h4 j hj)⟩
theorem RdTs.new {w w':World} {v:Value} {l:List (List Int)} (h:RdTs w v l) (k:Chg () w w'):RdTs w' v l:=by
 rcases h with h | ⟨a,c,h1,h2,h3,h4⟩
 ·exact .inl h
 ·exact .inr ⟨a,c,h1,h2,h3,fun j hj=>by obtain ⟨x,y,z⟩:=h4 j hj;exact ⟨x,k.cellF y,z.new k⟩⟩
theorem RdIs.new {w w':World} {v:Value} {l:List (Int × Int × Int)} (h:RdIs w v l) (k:Chg () w w'):RdIs w' v l:=by
 rcases h with h | ⟨a,c,h1,h2,h3,h4⟩
 ·exact .inl h
 ·exact .inr ⟨a,c,h1,h2,h3,fun j hj=>by obtain ⟨x,y,z⟩:=h4 j hj;exact ⟨k.cellF x,k.cellF y,k.cellF z⟩⟩
theorem RdFs.new {w w':World} {v:Value} {l:List Fn} (h:RdFs w v l) (k:Chg () w w'):RdFs w' v l:=by
 rcases h with h | ⟨a,c,h1,h2,h3,h4⟩
 ·exact .inl h
 ·exact .inr ⟨a,c,h1,h2,h3,fun j hj=>by obtain ⟨x,y,e0,e1,e2,e3,e4,e5⟩:=h4 j hj;exact ⟨x,y,k.cellF e0,k.cellF e1,k.cellF e2,k.cellF e3,e4.new k,e5.new k⟩⟩
theorem RdTs.slice {w:World} {v:Value} {l:List (List Int)} (h:RdTs w v l):∃ a c,v=.slice a l.length c:=by
 rcases h with ⟨rfl,rfl⟩ | ⟨a,c,rfl,_⟩
 ·exact ⟨none,0,rfl⟩
 ·exact ⟨_,_,rfl⟩
theorem RdIs.slice {w:World} {v:Value} {l:List (Int × Int × Int)} (h:RdIs w v l):∃ a c,v=.slice a l.length c:=by
 rcases h with ⟨rfl,rfl⟩ | ⟨a,c,rfl,_⟩
 ·exact ⟨none,0,rfl⟩
 ·exact ⟨_,_,rfl⟩
theorem RdFs.slice {w:World} {v:Value} {l:List Fn} (h:RdFs w v l):∃ a c,v=.slice a l.length c:=by
 rcases h with ⟨rfl,rfl⟩ | ⟨a,c,rfl,_⟩
 ·exact ⟨none,0,rfl⟩
 ·exact ⟨_,_,rfl⟩
theorem RdTs.form {w:World} {v:Value} {l:List (List Int)} (h:RdTs w v l) (h0:0 < l.length):∃ (a:Addr) (c:Nat),v=.slice (some a) l.length c/\∀ j,j < l.length->∃ x,w.cell? (a.add j)=some x/\RdA w x (l.getD j []):=by
 rcases h with ⟨rfl,rfl⟩ | ⟨a,c,h1,_,_,h4⟩
 ·simp at h0
 ·exact ⟨a,c,h1,h4⟩
set_option maxHeartbeats 1000000 in
set_option maxRecDepth 100000 in
theorem goodB_rd (tv fv:Value) (ls:List (List Int)) (op a x:Int) (w:World) (h:RdTs w tv ls) (hfv:∃ fa nf fc,fv=.slice fa nf fc) (hn:ls.length<=10000) (hls:∀ j,(ls.getD j []).length<=10000)
 (ha:(op=8 \/ op=9)->1<=a/\a<=ls.length) :
 Calls Try.prog 68 #[.agg #[tv,fv],op,a,x] w fun e w'=>e=.returned (.bool (wB x 0 (gB ls op a)))/\Chg () w w':=by
 obtain ⟨fa,nf,fc,rfl⟩:=hfv
 by_cases h89:op=8 \/ op=9
 ·obtain ⟨ha1,ha2⟩:=ha h89
  obtain ⟨j,rfl⟩:∃ j:Nat,a=(j:Int)+1:=⟨(a - 1).toNat,by omega⟩
  obtain ⟨g,cap,rfl,hcell⟩:=h.form (by omega)
  obtain ⟨u,hc,hu⟩:=hcell j (by omega)
  obtain ⟨ua,uc,rfl⟩:=hu.slice
  have hj:(j:Int) < (ls.length:Int):=by omega
  have kb:Chg () w (w.alloc (Obj.cells #[.slice (some g) ls.length cap,.slice fa nf fc] 28)):=(Chg.refl _ w).alloc _
  have hc':=kb.cellF hc
  have hlj:=hls j
  have e1:gB ls op ((j:Int)+1)=((ls.getD j []).length:Int) - 1:=by
   unfold gB flds
   rw [if_neg (by omega),if_neg (by omega)]
   have:((j:Int)+1 - 1).toNat=j:=by omega
   rw [this]
  rw [e1]
  clear e1 ha hcell hc
  generalize ls.getD j []=L at *
  rcases h89 with rfl | rfl
  ·go_enter Try.func68,Try.ntmps68
   go_wp2_with fail
   refine (within_any _ _ _ _).mono ?_
   rintro e w2 ⟨rfl,rfl⟩
   go_wp2
   go_ret
   exact ⟨rfl,fin_new0 _⟩
  ·go_enter Try.func68,Try.ntmps68
   go_wp2_with fail
   refine (within_any _ _ _ _).mono ?_
   rintro e w2 ⟨rfl,rfl⟩
   go_wp2
   go_ret
   exact ⟨rfl,fin_new0 _⟩
 ·obtain ⟨ta,tc,rfl⟩:=h.slice
  have h8:(op == 8)=false:=by simp;omega
  have h9:(op == 9)=false:=by simp;omega
  have e1:wB x 0 (gB ls op a)=(x == 0):=by
   unfold gB wB;rw [if_pos (by omega)]
   by_cases hx:x=0
   ·subst hx;rfl
   ·have:(x == 0)=false:=by simp [hx]
    rw [this];simp;omega
  rw [e1]
  go_enter Try.func68,Try.ntmps68
  go_wp2
  go_ret
  exact ⟨rfl,fin_new0 _⟩
def gIP (ls:List (List Int)) (fu lo co:Int) (x:Int × Int × Int):Bool:=wB x.1 0 18 && wB x.2.1 (bA ls.length fu lo co x.1).1 (bA ls.length fu lo co x.1).2 && wB x.2.2 0 (gB ls x.1 x.2.1)
def gHead (ls:List (List Int)) (f:Fn):Bool:=wB f.args 0 4 && decide (f.args<=(f.locals.length:Int)) && gtP f.locals 8 ls.length && wB f.result 0 ls.length
def gFirst (k:Nat) (f:Fn):Bool:=!(k == 0 && (f.args != 0 || f.result != 0))
def gFP (ls:List (List Int)) (fu:Int) (k:Nat) (f:Fn):Bool:=gHead ls f && gFirst k f && wB f.code.length 1 64 && f.code.all (gIP ls fu f.locals.length f.code.length)
end Go.Proofs.Ytnfnbcbadakofaa
