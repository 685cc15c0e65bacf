import Derived.Test.YtnfnbcbadakofaaRin
import Derived.Test.YtnfnbcbadakofaaMct
namespace Go.Proofs.Ytnfnbcbadakofaa
open Go.RowKit
structure RG (w0 w:World) (b:Nat) (cs:Array Value) (e:TypeId) (nv:Value) (ns:List Int) (s:Nat × Bool):Prop where
 ch:Chg (fun _=>False) w0 w
 nw:w0.heap.size<=b
 bx:Blk w b cs e
 c0:cs[0]?=some nv
 c1:cs[1]?=some (.int .i64 (s.1:Int))
 c2:cs[2]?=some (.bool s.2)
 rd:RdA w0 nv ns
def rgS (cs:Array Value) (s:Nat × Bool):Array Value:=(cs.setIfInBounds 1 (.int .i64 (s.1:Int))).setIfInBounds 2 (.bool s.2)
section
variable {w0 w:World} {b:Nat} {cs:Array Value} {e:TypeId} {nv:Value} {ns:List Int} {s:Nat × Bool}
theorem rgS_0 (h:cs[0]?=some nv):(rgS cs s)[0]?=some nv:=by
 unfold rgS;rw [Array.getElem?_setIfInBounds_ne (by decide),Array.getElem?_setIfInBounds_ne (by decide)];exact h
theorem rgS_1 {x y:Value} (h1:cs[1]?=some x) (_h2:cs[2]?=some y):(rgS cs s)[1]?=some (.int .i64 (s.1:Int)):=by
 have:=(Array.getElem?_eq_some_iff.1 h1).1
 unfold rgS;rw [Array.getElem?_setIfInBounds_ne (by decide),Array.getElem?_setIfInBounds,if_pos rfl,if_pos this]
theorem rgS_2 {y:Value} (h2:cs[2]?=some y):(rgS cs s)[2]?=some (.bool s.2):=by
 have:=(Array.getElem?_eq_some_iff.1 h2).1
 unfold rgS;rw [Array.getElem?_setIfInBounds,if_pos rfl,if_pos (by simpa using this)]
theorem rgS_self (h1:cs[1]?=some (.int .i64 (s.1:Int))) (h2:cs[2]?=some (.bool s.2)):rgS cs s=cs:=by
 unfold rgS;rw [arr_same h1,arr_same h2]
theorem rgS_stop (h1:cs[1]?=some (.int .i64 (s.1:Int))):rgS cs (s.1,true)=cs.setIfInBounds 2 (.bool true):=by
 unfold rgS;rw [arr_same h1]
theorem rgS_adv {p:Nat} (h2:cs[2]?=some (.bool false)):rgS cs (p,false)=cs.setIfInBounds 1 (.int .i64 (p:Int)):=by
 unfold rgS
 exact arr_same (by rw [Array.getElem?_setIfInBounds_ne (by decide)];exact h2)
theorem rgS_rgS (s':Nat × Bool):rgS (rgS cs s) s'=rgS cs s':=by
 apply Array.ext_getElem?
 intro i
 unfold rgS
 simp only [Array.getElem?_setIfInBounds,Array.size_setIfInBounds]
 by_cases h1:1=i
 ·subst h1;simp
 ·by_cases h2:2=i
  ·subst h2;simp
  ·simp [h1,h2]
theorem RG.after {w':World} (h:RG w0 w b cs e nv ns s) {s':Nat × Bool} (hb:Blk w' b (rgS cs s') e) (k:Chg (fun j=>j=b) w w'):RG w0 w' b (rgS cs s') e nv ns s':=
 ⟨h.ch.trans' k (fun i hi q=>by have:=h.nw;omega),h.nw,hb,rgS_0 h.c0,rgS_1 h.c1 h.c2,rgS_2 h.c2,h.rd⟩
theorem RG.new {w':World} (h:RG w0 w b cs e nv ns s) (k:Chg (fun _=>False) w w'):RG w0 w' b cs e nv ns s:=
 ⟨h.ch.trans k,h.nw,h.bx.chg k (fun q=>q),h.c0,h.c1,h.c2,h.rd⟩
set_option maxHeartbeats 400000 in
theorem tkg_a (p:Nat) (lo hi:Int) (hr:Blk w b cs e) (c1:cs[1]?=some (.int .i64 (p:Int))) (c2:cs[2]?=some (.bool true)) (c0:cs[0]?=some nv) :
 Calls Try.prog 92 #[.pointer (some ⟨b,0,none⟩),.int .i64 lo,.int .i64 hi] w fun ex w'=>ex=.returned (.int .i64 0)/\Blk w' b (rgS cs (p,true)) e/\Chg (fun j=>j=b) w w':=by
 have h0:w.cell? ⟨b,0,none⟩=some nv:=(hr.cell 0).trans c0
 have h1:w.cell? ⟨b,1,none⟩=some (.int .i64 p):=(hr.cell 1).trans c1
 have h2:w.cell? ⟨b,2,none⟩=some (.bool true):=(hr.cell 2).trans c2
 have hf:w.frozen? ⟨b,2,none⟩=false:=hr.frozen 2
 have HE:Hid (rgS cs (p,true)=cs.setIfInBounds 2 (.bool true)):=rgS_stop (s:=(p,true)) c1
 have HR:Hid (Blk w b cs e):=hr
 clear c0 c1 c2 hr
 go_enter Try.func92,Try.ntmps92
 go_wp2
 go_quiet (fail)
 go_wp2
 go_ret
 exact ⟨rfl,by rw [HE.out];exact Blk.set (Blk.drewN HR.out nq) 2 (.bool true),Chg.setCell (S:=fun k=>k=b) ((Chg.refl _ w).drewN nq) _ _ (.inl rfl)⟩
set_option maxHeartbeats 400000 in
theorem tkg_b (a:Option Addr) (len cap p:Nat) (lo hi:Int) (hr:Blk w b cs e) (c1:cs[1]?=some (.int .i64 (p:Int))) (c2:cs[2]?=some (.bool false)) (c0:cs[0]?=some (.slice a len cap)) (hp:len<=p) :
 Calls Try.prog 92 #[.pointer (some ⟨b,0,none⟩),.int .i64 lo,.int .i64 hi] w fun ex w'=>ex=.returned (.int .i64 0)/\Blk w' b (rgS cs (p,true)) e/\Chg (fun j=>j=b) w w':=by
 have h0:w.cell? ⟨b,0,none⟩=some (.slice a len cap):=(hr.cell 0).trans c0
 have h1:w.cell? ⟨b,1,none⟩=some (.int .i64 p):=(hr.cell 1).trans c1
 have h2:w.cell? ⟨b,2,none⟩=some (.bool false):=(hr.cell 2).trans c2
 have hf:w.frozen? ⟨b,2,none⟩=false:=hr.frozen 2
 have hp':(len:Int)<=(p:Int):=by omega
 have HE:Hid (rgS cs (p,true)=cs.setIfInBounds 2 (.bool true)):=rgS_stop (s:=(p,true)) c1
 have HR:Hid (Blk w b cs e):=hr
 clear c0 c1 c2 hr
 go_enter Try.func92,Try.ntmps92
 go_wp2
 go_quiet (fail)
 go_wp2
 go_ret
 exact ⟨rfl,by rw [HE.out];exact Blk.set (Blk.drewN HR.out nq) 2 (.bool true),Chg.setCell (S:=fun k=>k=b) ((Chg.refl _ w).drewN nq) _ _ (.inl rfl)⟩
set_option maxHeartbeats 400000 in
theorem tkg_c (g:Addr) (len cap p:Nat) (n lo hi:Int) (hr:Blk w b cs e) (c1:cs[1]?=some (.int .i64 (p:Int))) (c2:cs[2]?=some (.bool false)) (c0:cs[0]?=some (.slice (some g) len cap)) (hp:p < len) (hl:len<=9223372036854775807) (hc:w.cell? (g.add p)=some (.int .i64 n)) (hlo:lo<=n) (hhi:n<=hi) :
 Calls Try.prog 92 #[.pointer (some ⟨b,0,none⟩),.int .i64 lo,.int .i64 hi] w fun ex w'=>ex=.returned (.int .i64 n)/\Blk w' b (rgS cs (p+1,false)) e/\Chg (fun j=>j=b) w w':=by
 have h0:w.cell? ⟨b,0,none⟩=some (.slice (some g) len cap):=(hr.cell 0).trans c0
 have h1:w.cell? ⟨b,1,none⟩=some (.int .i64 p):=(hr.cell 1).trans c1
 have h2:w.cell? ⟨b,2,none⟩=some (.bool false):=(hr.cell 2).trans c2
 have hf:w.frozen? ⟨b,1,none⟩=false:=hr.frozen 1
 have hp':(p:Int) < (len:Int):=by omega
 have hl':(len:Int)<=9223372036854775807:=by omega
 have HE:Hid (rgS cs (p+1,false)=cs.setIfInBounds 1 (.int .i64 ((p:Int)+1))):=rgS_adv (p:=p+1) c2
 have HR:Hid (Blk w b cs e):=hr
 clear c0 c1 c2 hr
 go_enter Try.func92,Try.ntmps92
 go_wp2
 go_quiet (fail)
 go_wp2
 go_quiet (fail)
 go_wp2
 go_ret
 exact ⟨rfl,by rw [HE.out];exact Blk.set (Blk.drewN HR.out _) 1 _,Chg.setCell (S:=fun k=>k=b) ((Chg.refl _ w).drewN _) _ _ (.inl rfl)⟩
set_option maxHeartbeats 400000 in
theorem tkg_d (g:Addr) (len cap p:Nat) (n lo hi:Int) (hr:Blk w b cs e) (c1:cs[1]?=some (.int .i64 (p:Int))) (c2:cs[2]?=some (.bool false)) (c0:cs[0]?=some (.slice (some g) len cap)) (hp:p < len) (hc:w.cell? (g.add p)=some (.int .i64 n)) (hlo:n < lo \/ hi < n) :
 Calls Try.prog 92 #[.pointer (some ⟨b,0,none⟩),.int .i64 lo,.int .i64 hi] w fun ex w'=>ex=.returned (.int .i64 0)/\Blk w' b (rgS cs (p,true)) e/\Chg (fun j=>j=b) w w':=by
 have h0:w.cell? ⟨b,0,none⟩=some (.slice (some g) len cap):=(hr.cell 0).trans c0
 have h1:w.cell? ⟨b,1,none⟩=some (.int .i64 p):=(hr.cell 1).trans c1
 have h2:w.cell? ⟨b,2,none⟩=some (.bool false):=(hr.cell 2).trans c2
 have hf:w.frozen? ⟨b,2,none⟩=false:=hr.frozen 2
 have hp':(p:Int) < (len:Int):=by omega
 have HE:Hid (rgS cs (p,true)=cs.setIfInBounds 2 (.bool true)):=rgS_stop (s:=(p,true)) c1
 have HR:Hid (Blk w b cs e):=hr
 clear c0 c1 c2 hr
 by_cases hlo':n < lo
 ·clear hlo
  go_enter Try.func92,Try.ntmps92
  go_wp2
  go_quiet (fail)
  go_wp2
  go_quiet (fail)
  go_wp2
  go_ret
  exact ⟨rfl,by rw [HE.out];exact Blk.set (Blk.drewN HR.out _) 2 (.bool true),Chg.setCell (S:=fun k=>k=b) ((Chg.refl _ w).drewN _) _ _ (.inl rfl)⟩
 ·have hhi:hi < n:=by rcases hlo with h | h;exact absurd h hlo';exact h
  clear hlo
  go_enter Try.func92,Try.ntmps92
  go_wp2
  go_quiet (fail)
  go_wp2
  go_quiet (fail)
  go_wp2
  go_ret
  exact ⟨rfl,by rw [HE.out];exact Blk.set (Blk.drewN HR.out _) 2 (.bool true),Chg.setCell (S:=fun k=>k=b) ((Chg.refl _ w).drewN _) _ _ (.inl rfl)⟩
def TgEnd (w0 w:World) (b:Nat) (cs:Array Value) (e:TypeId) (nv:Value) (ns:List Int) (r:Int × (Nat × Bool)) (ex:Ending) (w':World):Prop:=ex=.returned (.int .i64 r.1)/\RG w0 w' b (rgS cs r.2) e nv ns r.2/\Chg (fun j=>j=b) w w'
theorem take_g (h:RG w0 w b cs e nv ns s) (lo hi:Int):Calls Try.prog 92 #[.pointer (some ⟨b,0,none⟩),.int .i64 lo,.int .i64 hi] w (TgEnd w0 w b cs e nv ns (tk ns lo hi s)):=by
 obtain ⟨p,st⟩:=s
 cases st with
 | true =>
  refine (tkg_a p lo hi h.bx h.c1 h.c2 h.c0).mono ?_
  rintro ex w' ⟨rfl,h1,h2⟩
  have e1:tk ns lo hi (p,true)=(0,(p,true)):=by unfold tk;rw [if_pos (.inl rfl)]
  rw [e1]
  exact ⟨rfl,h.after h1 h2,h2⟩
 | false =>
  by_cases hp:ns.length<=p
  ·obtain ⟨a,cap,hnv⟩:=h.rd.slice
   refine (tkg_b a ns.length cap p lo hi h.bx h.c1 h.c2 (by rw [<-hnv];exact h.c0) hp).mono ?_
   rintro ex w' ⟨rfl,h1,h2⟩
   have e1:tk ns lo hi (p,false)=(0,(p,true)):=by unfold tk;rw [if_pos (.inr hp)]
   rw [e1]
   exact ⟨rfl,h.after h1 h2,h2⟩
  ·have hp':p < ns.length:=by omega
   obtain ⟨g,cap,hnv,hlc,hcm,hc⟩:=(h.rd.new h.ch).form (by omega)
   have hc:=hc p hp'
   have hm:ns.length<=9223372036854775807:=by unfold maxLen at hcm;omega
   by_cases hb:ns.getD p 0 < lo \/ hi < ns.getD p 0
   ·refine (tkg_d g ns.length cap p _ lo hi h.bx h.c1 h.c2 (by rw [<-hnv];exact h.c0) hp' hc hb).mono ?_
    rintro ex w' ⟨rfl,h1,h2⟩
    have e1:tk ns lo hi (p,false)=(0,(p,true)):=by unfold tk;rw [if_neg (by simpa using hp'),if_pos hb]
    rw [e1]
    exact ⟨rfl,h.after h1 h2,h2⟩
   ·refine (tkg_c g ns.length cap p _ lo hi h.bx h.c1 h.c2 (by rw [<-hnv];exact h.c0) hp' hm hc (by omega) (by omega)).mono ?_
    rintro ex w' ⟨rfl,h1,h2⟩
    have e1:tk ns lo hi (p,false)=(ns.getD p 0,(p+1,false)):=by unfold tk;rw [if_neg (by simpa using hp'),if_neg hb]
    rw [e1]
    exact ⟨rfl,h.after h1 h2,h2⟩
end
end Go.Proofs.Ytnfnbcbadakofaa
namespace Go.Proofs.Ytnfnbcbadakofaa
open Go.RowKit
section
variable {w0 w:World} {b:Nat} {cs:Array Value} {e:TypeId} {nv:Value} {ns:List Int} {s:Nat × Bool}
theorem RG.halt (h:RG w0 w b (rgS cs s) e nv ns s):RG w0 (w.setCell ⟨b,2,none⟩ (.bool true)) b (rgS cs (s.1,true)) e nv ns (s.1,true):=by
 have hb:=h.bx.set 2 (.bool true)
 rw [<-rgS_stop (s:=s) h.c1,rgS_rgS] at hb
 have:=h.after (s':=(s.1,true)) (by rw [rgS_rgS];exact hb) ((Chg.refl _ w).setCell _ _ (.inl rfl))
 rwa [rgS_rgS] at this
theorem RG.app {W w4:World} {base:Nat} {v:Value} {L:List Int} (h:RG w0 W b cs e nv ns s) (he:3 ≠ e) (hI:IntsV W base v L) (hb:w0.heap.size<=base) (k:Chg (fun j=>some j=v.ownBlock) W w4):RG w0 w4 b cs e nv ns s:=
 ⟨h.ch.trans' k (fun i hi q=>by have:=(hI.lt i q.symm).1;omega),h.nw,h.bx.chg k (fun q=>own_ne hI h.bx he q.symm),h.c0,h.c1,h.c2,h.rd⟩
def TvEnd (w0 w:World) (b:Nat) (cs:Array Value) (e:TypeId) (nv:Value) (ns:List Int) (r:List Int × (Nat × Bool)) (ex:Ending) (w':World):Prop:=
 ∃ u,ex=.returned u/\IntsV w' w.heap.size u r.1/\RG w0 w' b (rgS cs r.2) e nv ns r.2/\Chg (fun j=>j=b) w w'
theorem tvP_cons (ns recs:List Int) (k:Int) (ks:List Int) (s:Nat × Bool):tvP ns recs (k::ks) s=((tk ns 0 65535 s).1::(tvP ns recs ks ((tk ns 0 65535 s).2.1,(tk ns 0 65535 s).2.2 || badV recs k (tk ns 0 65535 s).1)).1,(tvP ns recs ks ((tk ns 0 65535 s).2.1,(tk ns 0 65535 s).2.2 || badV recs k (tk ns 0 65535 s).1)).2):=rfl
set_option maxHeartbeats 2000000 in
set_option maxRecDepth 100000 in
theorem takeValues_any (h:RG w0 w b cs e nv ns s) (he:3 ≠ e) (ka ra:Option Addr) (kc rc:Nat) (ks rs:List Int) (hk:IntsV w 0 (.slice ka ks.length kc) ks) (hr:IntsV w 0 (.slice ra rs.length rc) rs) (hkl:ks.length<=1000) :
 Calls Try.prog 104 #[.pointer (some ⟨b,0,none⟩),.slice ka ks.length kc,.slice ra rs.length rc] w (TvEnd w0 w b cs e nv ns (tvP ns rs ks s)):=by
 have H:Hid (RG w0 w b cs e nv ns s):=h
 have HK:Hid (IntsV w 0 (.slice ka ks.length kc) ks):=hk
 have HRS:Hid (IntsV w 0 (.slice ra rs.length rc) rs):=hr
 obtain ⟨T,hT⟩:∃ r,tvP ns rs ks s=r:=⟨_,rfl⟩
 rw [hT]
 have HT:Hid (tvP ns rs ks s=T):=hT
 have hw0:w0.heap.size<=w.heap.size:=h.ch.size
 have H0:Hid (rgS cs s=cs):=rgS_self h.c1 h.c2
 clear h hk hr hT
 go_enter Try.func104,Try.ntmps104
 go_wp2
 go_loopw [7,13] (fun lv iv wr=>∃ (k n:Nat) (a:Option Addr) (c:Nat) (L:List Int) (s':Nat × Bool),k<=ks.length/\iv=.int .i64 (k:Int)/\lv=.slice a n c/\IntsV wr w.heap.size (.slice a n c) L/\L.length=k/\RG w0 wr b (rgS cs s') e nv ns s'/\Chg (fun j=>j=b) w wr/\(L++(tvP ns rs (ks.drop k) s').1,(tvP ns rs (ks.drop k) s').2)=T) (fun _ iv _=>ks.length - (intOf iv).toNat)
 case atStart=>exact ⟨0,0,none,0,[],s,Nat.zero_le _,rfl,rfl,World.ownsRow_nil _ _ _ _,rfl,by rw [H0.out];exact H.out,Chg.refl _ _,by rw [List.drop_zero];exact HT.out⟩
 case round =>
  obtain ⟨k,n,a,c,L,s',hk,rfl,rfl,hI,hLk,hG,hC,hE⟩:=hrel
  have HI:Hid (IntsV wr w.heap.size (.slice a n c) L):=hI
  have HG:Hid (RG w0 wr b (rgS cs s') e nv ns s'):=hG
  have HC:Hid (Chg (fun j=>j=b) w wr):=hC
  have HE:Hid ((L++(tvP ns rs (ks.drop k) s').1,(tvP ns rs (ks.drop k) s').2)=T):=hE
  have HLK:Hid (L.length=k):=hLk
  clear hI hG hC hE hLk HT
  by_cases hlt:k < ks.length
  ·have hlt':(k:Int) < (ks.length:Int):=by omega
   have HKW:IntsV wr 0 (.slice ka ks.length kc) ks:=own_chg HK.out HC.out (fun g hg q=>own_ne HK.out H.out.bx he (by rw [hg,q]))
   have HRW:Hid (IntsV wr 0 (.slice ra rs.length rc) rs):=own_chg HRS.out HC.out (fun g hg q=>own_ne HRS.out H.out.bx he (by rw [hg,q]))
   obtain ⟨g,kc',hve,_,_,_,hc⟩:=HKW.form (by omega)
   simp only [Value.slice.injEq] at hve
   obtain ⟨rfl,_,rfl⟩:=hve
   have y:=hc k hlt
   have HD:Hid (ks.drop k=ks.getD k 0::ks.drop (k+1)):=by
    show ks.drop k=ks.getD k 0::ks.drop (k+1)
    rw [List.drop_eq_getElem_cons hlt,List.getD_eq_getElem?_getD,List.getElem?_eq_getElem hlt];rfl
   have HE2:Hid ((L++(tk ns 0 65535 s').1::(tvP ns rs (ks.drop (k+1)) ((tk ns 0 65535 s').2.1,(tk ns 0 65535 s').2.2 || badV rs (ks.getD k 0) (tk ns 0 65535 s').1)).1,(tvP ns rs (ks.drop (k+1)) ((tk ns 0 65535 s').2.1,(tk ns 0 65535 s').2.2 || badV rs (ks.getD k 0) (tk ns 0 65535 s').1)).2)=T):=by
    show _=T
    rw [<-HE.out,HD.out,tvP_cons]
   clear hc HE HD HKW
   generalize ks.getD k 0=kd at *
   have hsz:=HC.out.size
   go_wp2_with fail
   refine (take_g HG.out 0 65535).mono ?_
   rintro ex w1 ⟨rfl,hG1,hC1⟩
   rw [rgS_rgS] at hG1
   have hv:=tk_rng ns 0 65535 s' (by decide) (by decide)
   generalize tk ns 0 65535 s'=r at *
   obtain ⟨v,s1⟩:=r
   simp only at hv hG1 HE2 ⊢
   obtain ⟨hv0,hv1⟩:=hv
   have HI1:IntsV w1 w.heap.size (.slice a n c) L:=own_chg HI.out hC1 (fun g hg q=>own_ne HI.out HG.out.bx he (by rw [hg,q]))
   have HC1:Chg (fun j=>j=b) w w1:=HC.out.trans hC1
   have HRW1:Hid (IntsV w1 0 (.slice ra rs.length rc) rs):=own_chg HRW.out hC1 (fun g hg q=>own_ne HRW.out HG.out.bx he (by rw [hg,q]))
   have HG1:Hid (RG w0 w1 b (rgS cs s1) e nv ns s1):=hG1
   have hLn:L.length<=1000:=by rw [HLK.out];omega
   have hsz1:=HC1.size
   clear hG1 hC1 HG HI HRW y
   by_cases hz:kd=0
   ·subst hz
    have hb:badV rs 0 v=false:=by unfold badV;simp
    rw [hb,Bool.or_false] at HE2
    have j1:Chg (fun _=>False) (w1) ((w1).alloc (Obj.cells #[.int .i64 v] 3)):=(Chg.refl _ _).alloc _
    have HIN:Hid (IntsV (w1) w.heap.size (.slice a n c) L):=HI1
    have HCN:Hid (Chg (fun j=>j=b) w (w1)):=HC1
    have HGN:Hid (RG w0 (w1) b (rgS cs s1) e nv ns s1):=HG1.out
    have hszN:=HCN.out.size
    go_wp2_with (at_builtin;refine wp_appL rfl _ _ rfl w.heap.size (.slice a n c) (.slice (some ⟨(w1).heap.size,0,none⟩) 1 1) L [v] rfl rfl ?h1 ?h2 ?h3 ?h4 ?_)
    case h1=>exact HIN.out.chg j1 (fun _ _ _ e=>e)
    case h2=>exact lit_rd [v] 1 rfl (by unfold maxLen;omega)
    case h3=>simp;omega
    case h4=>exact Nat.le_trans hszN j1.size
    intro a2 n2 c2 w4 hn2 hI2 hch2 hl2
    clear hn2
    have hG4:RG w0 w4 b (rgS cs s1) e nv ns s1:=(HGN.out.new j1).app he (HIN.out.chg j1 (fun _ _ _ e=>e)) hw0 hch2
    have hC4:Chg (fun j=>j=b) w w4:=(HCN.out.trans j1.ofNew).trans' hch2 (fun i hi q=>by have:=(HIN.out.lt i q.symm).1;omega)
    go_wp2
    exact ⟨⟨k+1,n2,a2,c2,L++[v],s1,by omega,rfl,rfl,hI2,by rw [List.length_append,HLK.out];rfl,hG4,hC4,by rw [<-HE2.out];simp⟩,by simp [intOf];omega⟩
   ·have hkb:(kd == 0)=false:=by simp [hz]
    by_cases hz2:v=0
    ·subst hz2
     have hb:badV rs kd 0=false:=by unfold badV;simp
     rw [hb,Bool.or_false] at HE2
     have j1:Chg (fun _=>False) (w1) ((w1).alloc (Obj.cells #[.int .i64 0] 3)):=(Chg.refl _ _).alloc _
     have HIN:Hid (IntsV (w1) w.heap.size (.slice a n c) L):=HI1
     have HCN:Hid (Chg (fun j=>j=b) w (w1)):=HC1
     have HGN:Hid (RG w0 (w1) b (rgS cs s1) e nv ns s1):=HG1.out
     have hszN:=HCN.out.size
     go_wp2_with (at_builtin;refine wp_appL rfl _ _ rfl w.heap.size (.slice a n c) (.slice (some ⟨(w1).heap.size,0,none⟩) 1 1) L [0] rfl rfl ?h1 ?h2 ?h3 ?h4 ?_)
     case h1=>exact HIN.out.chg j1 (fun _ _ _ e=>e)
     case h2=>exact lit_rd [0] 1 rfl (by unfold maxLen;omega)
     case h3=>simp;omega
     case h4=>exact Nat.le_trans hszN j1.size
     intro a2 n2 c2 w4 hn2 hI2 hch2 hl2
     clear hn2
     have hG4:RG w0 w4 b (rgS cs s1) e nv ns s1:=(HGN.out.new j1).app he (HIN.out.chg j1 (fun _ _ _ e=>e)) hw0 hch2
     have hC4:Chg (fun j=>j=b) w w4:=(HCN.out.trans j1.ofNew).trans' hch2 (fun i hi q=>by have:=(HIN.out.lt i q.symm).1;omega)
     go_wp2
     exact ⟨⟨k+1,n2,a2,c2,L++[0],s1,by omega,rfl,rfl,hI2,by rw [List.length_append,HLK.out];rfl,hG4,hC4,by rw [<-HE2.out];simp⟩,by simp [intOf];omega⟩
    ·have hvb:(v == 0)=false:=by simp [hz2]
     by_cases hz3:tyAt rs (v - 1)=kd
     ·have hbb:(tyAt rs (v - 1) == kd)=true:=by simp [hz3]
      have hb:badV rs kd v=false:=by unfold badV;simp [hz3]
      rw [hb,Bool.or_false] at HE2
      have j1:Chg (fun _=>False) (w1) ((w1).alloc (Obj.cells #[.int .i64 v] 3)):=(Chg.refl _ _).alloc _
      have HIN:Hid (IntsV (w1) w.heap.size (.slice a n c) L):=HI1
      have HCN:Hid (Chg (fun j=>j=b) w (w1)):=HC1
      have HGN:Hid (RG w0 (w1) b (rgS cs s1) e nv ns s1):=HG1.out
      have hszN:=HCN.out.size
      go_wp2_with fail
      refine (typeAt_any _ rs (v - 1) w1 0 HRW1.out).mono ?_
      rintro ex w2 ⟨rfl,hw2⟩
      have hw2:=hw2.symm
      subst hw2
      go_wp2_with (at_builtin;refine wp_appL rfl _ _ rfl w.heap.size (.slice a n c) (.slice (some ⟨(w1).heap.size,0,none⟩) 1 1) L [v] rfl rfl ?h1 ?h2 ?h3 ?h4 ?_)
      case h1=>exact HIN.out.chg j1 (fun _ _ _ e=>e)
      case h2=>exact lit_rd [v] 1 rfl (by unfold maxLen;omega)
      case h3=>simp;omega
      case h4=>exact Nat.le_trans hszN j1.size
      intro a2 n2 c2 w4 hn2 hI2 hch2 hl2
      clear hn2
      have hG4:RG w0 w4 b (rgS cs s1) e nv ns s1:=(HGN.out.new j1).app he (HIN.out.chg j1 (fun _ _ _ e=>e)) hw0 hch2
      have hC4:Chg (fun j=>j=b) w w4:=(HCN.out.trans j1.ofNew).trans' hch2 (fun i hi q=>by have:=(HIN.out.lt i q.symm).1;omega)
      go_wp2
      exact ⟨⟨k+1,n2,a2,c2,L++[v],s1,by omega,rfl,rfl,hI2,by rw [List.length_append,HLK.out];rfl,hG4,hC4,by rw [<-HE2.out];simp⟩,by simp [intOf];omega⟩
     ·have hbb:(tyAt rs (v - 1) == kd)=false:=by simp [hz3]
      have hk1:(kd != 0)=true:=by simp [hz]
      have hk2:(v != 0)=true:=by simp [hz2]
      have hk3:(tyAt rs (v - 1) != kd)=true:=by simp [hz3]
      have hsS:(w1.setCell ⟨b,2,none⟩ (.bool true)).heap.size=w1.heap.size:=by simp
      have q2:w1.frozen? ⟨b,2,none⟩=false:=HG1.out.bx.frozen 2
      have z2:w1.cell? ⟨b,2,none⟩=some (.bool s1.2):=(HG1.out.bx.cell 2).trans HG1.out.c2
      have hb:badV rs kd v=true:=by unfold badV;simp [hz,hz2,hz3]
      rw [hb,Bool.or_true] at HE2
      have j1:Chg (fun _=>False) (w1.setCell ⟨b,2,none⟩ (.bool true)) ((w1.setCell ⟨b,2,none⟩ (.bool true)).alloc (Obj.cells #[.int .i64 v] 3)):=(Chg.refl _ _).alloc _
      have HIN:Hid (IntsV (w1.setCell ⟨b,2,none⟩ (.bool true)) w.heap.size (.slice a n c) L):=own_set HI1 _ _ (own_ne HI1 HG1.out.bx he)
      have HCN:Hid (Chg (fun j=>j=b) w (w1.setCell ⟨b,2,none⟩ (.bool true))):=HC1.setCell _ _ (.inl rfl)
      have HGN:Hid (RG w0 (w1.setCell ⟨b,2,none⟩ (.bool true)) b (rgS cs (s1.1,true)) e nv ns (s1.1,true)):=HG1.out.halt
      have hszN:=HCN.out.size
      go_wp2_with fail
      refine (typeAt_any _ rs (v - 1) w1 0 HRW1.out).mono ?_
      rintro ex w2 ⟨rfl,hw2⟩
      have hw2:=hw2.symm
      subst hw2
      go_wp2_with (at_builtin;refine wp_appL rfl _ _ rfl w.heap.size (.slice a n c) (.slice (some ⟨w1.heap.size,0,none⟩) 1 1) L [v] rfl rfl ?h1 ?h2 ?h3 ?h4 ?_)
      case h1=>exact HIN.out.chg j1 (fun _ _ _ e=>e)
      case h2=>rw [<-hsS];exact lit_rd [v] 1 rfl (by unfold maxLen;omega)
      case h3=>simp;omega
      case h4=>exact Nat.le_trans hszN j1.size
      intro a2 n2 c2 w4 hn2 hI2 hch2 hl2
      clear hn2
      have hG4:RG w0 w4 b (rgS cs (s1.1,true)) e nv ns (s1.1,true):=(HGN.out.new j1).app he (HIN.out.chg j1 (fun _ _ _ e=>e)) hw0 hch2
      have hC4:Chg (fun j=>j=b) w w4:=(HCN.out.trans j1.ofNew).trans' hch2 (fun i hi q=>by have:=(HIN.out.lt i q.symm).1;omega)
      go_wp2
      exact ⟨⟨k+1,n2,a2,c2,L++[v],(s1.1,true),by omega,rfl,rfl,hI2,by rw [List.length_append,HLK.out];rfl,hG4,hC4,by rw [<-HE2.out];simp⟩,by simp [intOf];omega⟩
  ·have hkk:k=ks.length:=by omega
   have hlt':(ks.length:Int)<=(k:Int):=by omega
   have HE1:Hid (L=T.1/\s'=T.2):=by
    show L=T.1/\s'=T.2
    rw [<-HE.out,hkk,List.drop_eq_nil_of_le (Nat.le_refl _)];simp [tvP]
   clear HE
   go_wp2
   go_ret
   exact ⟨_,rfl,by rw [<-HE1.out.1];exact HI.out,by rw [<-HE1.out.2];exact HG.out,HC.out⟩
end
end Go.Proofs.Ytnfnbcbadakofaa
