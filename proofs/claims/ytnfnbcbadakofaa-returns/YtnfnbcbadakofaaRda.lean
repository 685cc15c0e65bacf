import Derived.Test.YtnfnbcbadakofaaGood
import Derived.Test.YtnfnbcbadakofaaChk3
namespace Go.Proofs.Ytnfnbcbadakofaa
open Go.RowKit
def RdA (w:World) (v:Value) (l:List Int):Prop:=
 (v=.slice none 0 0/\l=[]) \/ ∃ (a:Addr) (c:Nat),v=.slice (some a) l.length c/\l.length<=c/\c<=maxLen/\∀ j,j < l.length->w.cell? (a.add j)=some (.int .i64 (l.getD j 0))
theorem RdA.slice {w:World} {v:Value} {l:List Int} (h:RdA w v l):∃ a c,v=.slice a l.length c:=by
 rcases h with ⟨rfl,rfl⟩ | ⟨a,c,rfl,_⟩
 ·exact ⟨none,0,rfl⟩
 ·exact ⟨_,_,rfl⟩
theorem RdA.form {w:World} {v:Value} {l:List Int} (h:RdA w v l) (h0:0 < l.length):∃ (a:Addr) (c:Nat),v=.slice (some a) l.length c/\l.length<=c/\c<=maxLen/\∀ j,j < l.length->w.cell? (a.add j)=some (.int .i64 (l.getD j 0)):=by
 rcases h with ⟨rfl,rfl⟩ | h
 ·simp at h0
 ·exact h
def gtP (l:List Int) (most n:Int):Bool:=decide ((l.length:Int)<=most) && l.all fun t=>wB t 0 n
set_option maxHeartbeats 1000000 in
set_option maxRecDepth 100000 in
theorem goodTypes_any (v:Value) (l:List Int) (most n:Int) (w:World) (hv:RdA w v l) (hl:l.length<=17592186044416) :
 Calls Try.prog 70 #[v,most,n] w fun e w'=>e=.returned (.bool (gtP l most n))/\w'=w:=by
 obtain ⟨va,vc,rfl⟩:=hv.slice
 by_cases hm:most < (l.length:Int)
 ·have e1:gtP l most n=false:=by unfold gtP;simp;omega
  rw [e1]
  clear e1
  go_enter Try.func70,Try.ntmps70
  go_wp2
  go_ret
  exact ⟨rfl,rfl⟩
 ·have hm':(l.length:Int)<=most:=by omega
  have e1:gtP l most n=l.all fun t=>wB t 0 n:=by unfold gtP;simp [hm']
  rw [e1]
  clear e1 hm
  have HV:=hid hv
  clear hv
  go_enter Try.func70,Try.ntmps70
  go_wp2
  go_loopw [7] (fun i wr=>∃ k:Nat,k<=l.length/\i=.int .i64 k/\wr=w/\(l.all fun t=>wB t 0 n)=(l.drop k).all fun t=>wB t 0 n) (fun i _=>l.length - (intOf i).toNat)
  case atStart=>exact ⟨0,Nat.zero_le _,rfl,rfl,by simp⟩
  case round =>
   obtain ⟨k,hk,rfl,rfl,hE⟩:=hrel
   have HE:=hid hE
   clear hE
   by_cases hlt:k < l.length
   ·have hlt':(k:Int) < (l.length:Int):=by omega
    obtain ⟨a,c,hve,_,_,hc⟩:=RdA.form HV.out (by omega)
    simp only [Value.slice.injEq] at hve
    obtain ⟨rfl,_,rfl⟩:=hve
    have y:=hc k hlt
    have HS:Hid ((l.drop k).all (fun t=>wB t 0 n)=(wB (l.getD k 0) 0 n && (l.drop (k+1)).all fun t=>wB t 0 n)):=by
     show (l.drop k).all (fun t=>wB t 0 n)=(wB (l.getD k 0) 0 n && (l.drop (k+1)).all fun t=>wB t 0 n)
     rw [List.drop_eq_getElem_cons hlt,List.getD_eq_getElem?_getD,List.getElem?_eq_getElem hlt];rfl
    clear hc
    generalize l.getD k 0=t at *
    go_wp2_with fail
    refine (within_any _ _ _ _).mono ?_
    rintro e w' ⟨rfl,rfl⟩
    rcases hb:wB t 0 n
    ·have HF:Hid ((l.all fun t=>wB t 0 n)=false):=by
      show (l.all fun t=>wB t 0 n)=false
      rw [HE.out,HS.out,hb];rfl
     go_wp2
     go_ret
     exact ⟨by rw [HF.out];rfl,rfl⟩
    ·have HF:Hid ((l.all fun t=>wB t 0 n)=(l.drop (k+1)).all fun t=>wB t 0 n):=by
      show (l.all fun t=>wB t 0 n)=(l.drop (k+1)).all fun t=>wB t 0 n
      rw [HE.out,HS.out,hb];rfl
     go_wp2
     exact ⟨⟨k+1,by omega,rfl,trivial,HF.out⟩,by simp [intOf];omega⟩
   ·have hlt':(l.length:Int)<=(k:Int):=by omega
    have HF:Hid ((l.all fun t=>wB t 0 n)=true):=by
     show (l.all fun t=>wB t 0 n)=true
     rw [HE.out,List.drop_eq_nil_of_le (by omega)];rfl
    go_wp2
    go_ret
    exact ⟨by rw [HF.out];rfl,rfl⟩
end Go.Proofs.Ytnfnbcbadakofaa
