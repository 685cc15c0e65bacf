import Derived.Test.YtnfnbcbadakofaaBase
namespace Go.Proofs.Ytnfnbcbadakofaa
open Go.RowKit
set_option maxHeartbeats 400000
theorem take_stop {w:World} {rb:Nat} {nv:Value} {s:Nat × Bool} (hr:Rd w rb nv s) (n:Nat) :
 Rd ((w.drewN n).setCell ⟨rb,2,none⟩ (.bool true)) rb nv (s.1,true)/\Chg (fun k=>k=rb) w ((w.drewN n).setCell ⟨rb,2,none⟩ (.bool true)):=
 ⟨(Blk.set (Blk.drewN hr n) 2 (.bool true)),Chg.setCell (S:=fun k=>k=rb) ((Chg.refl _ w).drewN n) _ _ (.inl rfl)⟩
theorem take_adv {w:World} {rb:Nat} {nv:Value} {p:Nat} {b:Bool} (hr:Rd w rb nv (p,b)) (n:Nat) :
 Rd ((w.drewN n).setCell ⟨rb,1,none⟩ ((p:Int)+1:Int)) rb nv (p+1,b)/\Chg (fun k=>k=rb) w ((w.drewN n).setCell ⟨rb,1,none⟩ ((p:Int)+1:Int)):=
 ⟨(Blk.set (Blk.drewN hr n) 1 (.int .i64 ((p:Int)+1))),Chg.setCell (S:=fun k=>k=rb) ((Chg.refl _ w).drewN n) _ _ (.inl rfl)⟩
theorem take_a (rb:Nat) (nv:Value) (p:Nat) (lo hi:Int) (w:World) (hr:Rd w rb nv (p,true)) :
 Calls Try.prog 92 #[.pointer rb,lo,hi] w fun e w'=>e=.returned (.int .i64 0)/\Rd w' rb nv (p,true)/\Chg (fun k=>k=rb) w w':=by
 have h0:w.cell? ⟨rb,0,none⟩=some nv:=Blk.cell hr 0
 have h1:w.cell? ⟨rb,1,none⟩=some (.int .i64 p):=Blk.cell hr 1
 have h2:w.cell? ⟨rb,2,none⟩=some (.bool true):=Blk.cell hr 2
 have hf:w.frozen? ⟨rb,2,none⟩=false:=Blk.frozen hr 2
 go_enter Try.func92,Try.ntmps92
 go_wp2
 go_quiet (fail)
 go_wp2
 go_ret
 exact ⟨rfl,take_stop hr nq⟩
theorem take_b (rb:Nat) (nv:Value) (len cap p:Nat) (a:Option Addr) (hnv:nv=.slice a len cap) (lo hi:Int) (w:World) (hr:Rd w rb nv (p,false)) (hp:len<=p) :
 Calls Try.prog 92 #[.pointer rb,lo,hi] w fun e w'=>e=.returned (.int .i64 0)/\Rd w' rb nv (p,true)/\Chg (fun k=>k=rb) w w':=by
 have h0:w.cell? ⟨rb,0,none⟩=some (.slice a len cap):=by rw [<-hnv];exact Blk.cell hr 0
 have h1:w.cell? ⟨rb,1,none⟩=some (.int .i64 p):=Blk.cell hr 1
 have h2:w.cell? ⟨rb,2,none⟩=some (.bool false):=Blk.cell hr 2
 have hf:w.frozen? ⟨rb,2,none⟩=false:=Blk.frozen hr 2
 have hp':(len:Int)<=(p:Int):=by omega
 clear hnv
 go_enter Try.func92,Try.ntmps92
 go_wp2
 go_quiet (fail)
 go_wp2
 go_ret
 exact ⟨rfl,take_stop hr nq⟩
theorem take_c (rb:Nat) (nv:Value) (len cap p g:Nat) (n:Int) (hnv:nv=.slice g len cap) (lo hi:Int) (w:World) (hr:Rd w rb nv (p,false)) (hp:p < len) (_hl:len<=10000)
 (hc:w.cell? ⟨g,p,none⟩=some (.int .i64 n)) (hlo:lo<=n) (hhi:n<=hi) :
  Calls Try.prog 92 #[.pointer rb,lo,hi] w fun e w'=>e=.returned (.int .i64 n)/\Rd w' rb nv (p+1,false)/\Chg (fun k=>k=rb) w w':=by
 have h0:w.cell? ⟨rb,0,none⟩=some (.slice g len cap):=by rw [<-hnv];exact Blk.cell hr 0
 have h1:w.cell? ⟨rb,1,none⟩=some (.int .i64 p):=Blk.cell hr 1
 have h2:w.cell? ⟨rb,2,none⟩=some (.bool false):=Blk.cell hr 2
 have hf:w.frozen? ⟨rb,1,none⟩=false:=Blk.frozen hr 1
 have hp':(p:Int) < (len:Int):=by omega
 clear hnv
 go_enter Try.func92,Try.ntmps92
 go_wp2
 go_quiet (fail)
 go_wp2
 go_quiet (fail)
 go_wp2
 go_ret
 exact ⟨rfl,take_adv hr _⟩
theorem take_d (rb:Nat) (nv:Value) (len cap p g:Nat) (n:Int) (hnv:nv=.slice g len cap) (lo hi:Int) (w:World) (hr:Rd w rb nv (p,false)) (hp:p < len)
 (hc:w.cell? ⟨g,p,none⟩=some (.int .i64 n)) (hlo:n < lo \/ hi < n) :
  Calls Try.prog 92 #[.pointer rb,lo,hi] w fun e w'=>e=.returned (.int .i64 0)/\Rd w' rb nv (p,true)/\Chg (fun k=>k=rb) w w':=by
 have h0:w.cell? ⟨rb,0,none⟩=some (.slice g len cap):=by rw [<-hnv];exact Blk.cell hr 0
 have h1:w.cell? ⟨rb,1,none⟩=some (.int .i64 p):=Blk.cell hr 1
 have h2:w.cell? ⟨rb,2,none⟩=some (.bool false):=Blk.cell hr 2
 have hf:w.frozen? ⟨rb,2,none⟩=false:=Blk.frozen hr 2
 have hp':(p:Int) < (len:Int):=by omega
 clear hnv
 by_cases hlo':n < lo
 ·clear hlo
  go_enter Try.func92,Try.ntmps92
  go_wp2
  go_quiet (fail)
  go_wp2
  go_quiet (fail)
  go_wp2
  go_ret
  exact ⟨rfl,take_stop hr _⟩
 ·have hhi:hi < n:=by rcases hlo with h | h;exact absurd h hlo';exact h
  clear hlo
  go_enter Try.func92,Try.ntmps92
  go_wp2
  go_quiet (fail)
  go_wp2
  go_quiet (fail)
  go_wp2
  go_ret
  exact ⟨rfl,take_stop hr _⟩
theorem take_any (rb:Nat) (nv:Value) (ns:List Int) (s:Nat × Bool) (lo hi:Int) (w:World) (h:RS w rb nv ns s) (hl:ns.length<=10000) :
 Calls Try.prog 92 #[.pointer rb,lo,hi] w fun e w'=>e=.returned (.int .i64 (tk ns lo hi s).1)/\RS w' rb nv ns (tk ns lo hi s).2/\Chg (fun k=>k=rb) w w':=by
 obtain ⟨hr,hn⟩:=h
 obtain ⟨p,st⟩:=s
 have keep:∀ w',Chg (fun k=>k=rb) w w'->IntsV w' 0 nv ns:=fun w' k=>own_chg hn k (fun g hg e=>own_ne hn hr (by decide) (by rw [hg,e]))
 cases st with
 | true =>
  refine (take_a rb nv p lo hi w hr).mono ?_
  rintro e w' ⟨rfl,h1,h2⟩
  exact ⟨by simp [tk],⟨by simpa [tk] using h1,keep w' h2⟩,h2⟩
 | false =>
  by_cases hp:ns.length<=p
  ·have hnv:∃ a cap,nv=.slice a ns.length cap:=by
    rcases hn.2 with ⟨h1,h2⟩ | ⟨g,cap,cur,rfl,_⟩
    ·exact ⟨none,0,by rw [h1,h2]⟩
    ·exact ⟨_,_,rfl⟩
   obtain ⟨a,cap,hnv⟩:=hnv
   refine (take_b rb nv ns.length cap p a hnv lo hi w hr hp).mono ?_
   rintro e w' ⟨rfl,h1,h2⟩
   exact ⟨by simp [tk,hp],⟨by simpa [tk,hp] using h1,keep w' h2⟩,h2⟩
  ·have hp':p < ns.length:=by omega
   obtain ⟨g,cap,hnv,_,_,_,hc⟩:=hn.form (by omega)
   have hc:=hc p hp'
   by_cases hb:ns.getD p 0 < lo \/ hi < ns.getD p 0
   ·refine (take_d rb nv ns.length cap p g _ hnv lo hi w hr hp' hc hb).mono ?_
    rintro e w' ⟨rfl,h1,h2⟩
    have e1:tk ns lo hi (p,false)=(0,(p,true)):=by unfold tk;rw [if_neg (by simpa using hp'),if_pos hb]
    rw [e1]
    exact ⟨rfl,⟨h1,keep w' h2⟩,h2⟩
   ·refine (take_c rb nv ns.length cap p g _ hnv lo hi w hr hp' hl hc (by omega) (by omega)).mono ?_
    rintro e w' ⟨rfl,h1,h2⟩
    have e1:tk ns lo hi (p,false)=(ns.getD p 0,(p+1,false)):=by unfold tk;rw [if_neg (by simpa using hp'),if_neg hb]
    rw [e1]
    exact ⟨rfl,⟨h1,keep w' h2⟩,h2⟩
end Go.Proofs.Ytnfnbcbadakofaa
