import Derived.Test.YtnfnbcbadakofabLate
import Derived.Test.YtnfnbcbadakofabUsr
namespace Go.Proofs.Ytnfnbcbadakofab
open Go.RowKit
set_option maxHeartbeats 400000
structure RG (w0 w:World) (b:Nat) (cs:Array Value) (e:TypeId) (nv:Value) (ns:List Int) (s:Nat × Bool):Prop where
 ch:Chg () w0 w
 nw:w0.heap.size<=b
 bx:Blk w b cs e
 c0:cs[0]?=some nv
 c1:cs[1]?=some (.int .i64 (s.1:Int))
 c2:cs[2]?=some (.bool s.2)
 rd:RdA w0 nv ns
def rgS (cs:Array Value) (s:Nat × Bool):Array Value:=(cs.setIfInBounds 1 (.int .i64 (s.1:Int))).setIfInBounds 2 (.bool s.2)
section
variable {w0 w:World} {b:Nat} {cs:Array Value} {e:TypeId} {nv:Value} {ns:List Int} {s:Nat × Bool}
theorem rgS_0 (h:cs[0]?=some nv):(rgS cs s)[0]?=some nv:=by
 unfold rgS;rw [Array.getElem?_setIfInBounds_ne (by decide),Array.getElem?_setIfInBounds_ne (by decide)];exact h
theorem rgS_1 {x y:Value} (h1:cs[1]?=some x) (_h2:cs[2]?=some y):(rgS cs s)[1]?=some (.int .i64 (s.1:Int)):=by
 have:=(Array.getElem?_eq_some_iff.1 h1).1
 unfold rgS;rw [Array.getElem?_setIfInBounds_ne (by decide),Array.getElem?_setIfInBounds,if_pos rfl,if_pos this]
theorem rgS_2 {y:Value} (h2:cs[2]?=some y):(rgS cs s)[2]?=some (.bool s.2):=by
 have:=(Array.getElem?_eq_some_iff.1 h2).1
 unfold rgS;rw [Array.getElem?_setIfInBounds,if_pos rfl,if_pos (by simpa using this)]
theorem rgS_self (h1:cs[1]?=some (.int .i64 (s.1:Int))) (h2:cs[2]?=some (.bool s.2)):rgS cs s=cs:=by
 unfold rgS;rw [arr_same h1,arr_same h2]
theorem rgS_stop (h1:cs[1]?=some (.int .i64 (s.1:Int))):rgS cs (s.1,true)=cs.setIfInBounds 2 (.bool true):=by
 unfold rgS;rw [arr_same h1]
theorem rgS_adv {p:Nat} (h2:cs[2]?=some (.bool false)):rgS cs (p,false)=cs.setIfInBounds 1 (.int .i64 (p:Int)):=by
 unfold rgS
 exact arr_same (by rw [Array.getElem?_setIfInBounds_ne (by decide)];exact h2)
theorem rgS_rgS (s':Nat × Bool):rgS (rgS cs s) s'=rgS cs s':=by
 apply Array.ext_getElem?
 intro i
 unfold rgS
 simp only [Array.getElem?_setIfInBounds,Array.size_setIfInBounds]
 by_cases h1:1=i
 ·subst h1;simp
 ·by_cases h2:2=i
  ·subst h2;simp
  ·simp [h1,h2]
theorem RG.after {w':World} (h:RG w0 w b cs e nv ns s) {s':Nat × Bool} (hb:Blk w' b (rgS cs s') e) (k:Chg (fun j=>j=b) w w'):RG w0 w' b (rgS cs s') e nv ns s':=
 ⟨h.ch.trans' k (fun i hi q=>by have:=h.nw;omega),h.nw,hb,rgS_0 h.c0,rgS_1 h.c1 h.c2,rgS_2 h.c2,h.rd⟩
theorem RG.new {w':World} (h:RG w0 w b cs e nv ns s) (k:Chg () w w'):RG w0 w' b cs e nv ns s:=
 ⟨h.ch.trans k,h.nw,h.bx.chg k (fun q=>q),h.c0,h.c1,h.c2,h.rd⟩
theorem tkg_a (p:Nat) (lo hi:Int) (hr:Blk w b cs e) (c1:cs[1]?=some (.int .i64 (p:Int))) (c2:cs[2]?=some (.bool true)) (c0:cs[0]?=some nv) :
 Calls Try.prog 53 #[.pointer b,lo,hi] w fun ex w'=>ex=.returned (.int .i64 0)/\Blk w' b (rgS cs (p,true)) e/\Chg (fun j=>j=b) w w':=by
 have h0:w.cell? ⟨b,0,none⟩=some nv:=(hr.cell 0).trans c0
 have h1:w.cell? ⟨b,1,none⟩=some (.int .i64 p):=(hr.cell 1).trans c1
 have h2:w.cell? ⟨b,2,none⟩=some (.bool true):=(hr.cell 2).trans c2
 have hf:w.frozen? ⟨b,2,none⟩=false:=hr.frozen 2
 have HE:Hid (rgS cs (p,true)=cs.setIfInBounds 2 (.bool true)):=rgS_stop (s:=(p,true)) c1
 have HR:=hid hr
 clear c0 c1 c2 hr
 go_enter Try.func53,Try.ntmps53
 go_wp2
 go_quiet (fail)
 go_wp2
 go_ret
 exact ⟨rfl,by rw [HE.out];exact Blk.set (Blk.drewN HR.out nq) 2 (.bool true),Chg.setCell (S:=fun k=>k=b) ((Chg.refl _ w).drewN nq) _ _ (.inl rfl)⟩
theorem tkg_b (a:Option Addr) (len cap p:Nat) (lo hi:Int) (hr:Blk w b cs e) (c1:cs[1]?=some (.int .i64 (p:Int))) (c2:cs[2]?=some (.bool false)) (c0:cs[0]?=some (.slice a len cap)) (hp:len<=p) :
 Calls Try.prog 53 #[.pointer b,lo,hi] w fun ex w'=>ex=.returned (.int .i64 0)/\Blk w' b (rgS cs (p,true)) e/\Chg (fun j=>j=b) w w':=by
 have h0:w.cell? ⟨b,0,none⟩=some (.slice a len cap):=(hr.cell 0).trans c0
 have h1:w.cell? ⟨b,1,none⟩=some (.int .i64 p):=(hr.cell 1).trans c1
 have h2:w.cell? ⟨b,2,none⟩=some (.bool false):=(hr.cell 2).trans c2
 have hf:w.frozen? ⟨b,2,none⟩=false:=hr.frozen 2
 have hp':(len:Int)<=(p:Int):=by omega
 have HE:Hid (rgS cs (p,true)=cs.setIfInBounds 2 (.bool true)):=rgS_stop (s:=(p,true)) c1
 have HR:=hid hr
 clear c0 c1 c2 hr
 go_enter Try.func53,Try.ntmps53
 go_wp2
 go_quiet (fail)
 go_wp2
 go_ret
 exact ⟨rfl,by rw [HE.out];exact Blk.set (Blk.drewN HR.out nq) 2 (.bool true),Chg.setCell (S:=fun k=>k=b) ((Chg.refl _ w).drewN nq) _ _ (.inl rfl)⟩
theorem tkg_c (g:Addr) (len cap p:Nat) (n lo hi:Int) (hr:Blk w b cs e) (c1:cs[1]?=some (.int .i64 (p:Int))) (c2:cs[2]?=some (.bool false)) (c0:cs[0]?=some (.slice (some g) len cap)) (hp:p < len) (hl:len<=9223372036854775807) (hc:w.cell? (g.add p)=some (.int .i64 n)) (hlo:lo<=n) (hhi:n<=hi) :
 Calls Try.prog 53 #[.pointer b,lo,hi] w fun ex w'=>ex=.returned (.int .i64 n)/\Blk w' b (rgS cs (p+1,false)) e/\Chg (fun j=>j=b) w w':=by
 have h0:w.cell? ⟨b,0,none⟩=some (.slice (some g) len cap):=(hr.cell 0).trans c0
 have h1:w.cell? ⟨b,1,none⟩=some (.int .i64 p):=(hr.cell 1).trans c1
 have h2:w.cell? ⟨b,2,none⟩=some (.bool false):=(hr.cell 2).trans c2
 have hf:w.frozen? ⟨b,1,none⟩=false:=hr.frozen 1
 have hp':(p:Int) < (len:Int):=by omega
 have hl':(len:Int)<=9223372036854775807:=by omega
 have HE:Hid (rgS cs (p+1,false)=cs.setIfInBounds 1 (.int .i64 ((p:Int)+1))):=rgS_adv (p:=p+1) c2
 have HR:=hid hr
 clear c0 c1 c2 hr
 go_enter Try.func53,Try.ntmps53
 go_wp2
 go_quiet (fail)
 go_wp2
 go_quiet (fail)
 go_wp2
 go_ret
 exact ⟨rfl,by rw [HE.out];exact Blk.set (Blk.drewN HR.out _) 1 _,Chg.setCell (S:=fun k=>k=b) ((Chg.refl _ w).drewN _) _ _ (.inl rfl)⟩
theorem tkg_d (g:Addr) (len cap p:Nat) (n lo hi:Int) (hr:Blk w b cs e) (c1:cs[1]?=some (.int .i64 (p:Int))) (c2:cs[2]?=some (.bool false)) (c0:cs[0]?=some (.slice (some g) len cap)) (hp:p < len) (hc:w.cell? (g.add p)=some (.int .i64 n)) (hlo:n < lo \/ hi < n) :
 Calls Try.prog 53 #[.pointer b,lo,hi] w fun ex w'=>ex=.returned (.int .i64 0)/\Blk w' b (rgS cs (p,true)) e/\Chg (fun j=>j=b) w w':=by
 have h0:w.cell? ⟨b,0,none⟩=some (.slice (some g) len cap):=(hr.cell 0).trans c0
 have h1:w.cell? ⟨b,1,none⟩=some (.int .i64 p):=(hr.cell 1).trans c1
 have h2:w.cell? ⟨b,2,none⟩=some (.bool false):=(hr.cell 2).trans c2
 have hf:w.frozen? ⟨b,2,none⟩=false:=hr.frozen 2
 have hp':(p:Int) < (len:Int):=by omega
 have HE:Hid (rgS cs (p,true)=cs.setIfInBounds 2 (.bool true)):=rgS_stop (s:=(p,true)) c1
 have HR:=hid hr
 clear c0 c1 c2 hr
 by_cases hlo':n < lo
 ·clear hlo
  go_enter Try.func53,Try.ntmps53
  go_wp2
  go_quiet (fail)
  go_wp2
  go_quiet (fail)
  go_wp2
  go_ret
  exact ⟨rfl,by rw [HE.out];exact Blk.set (Blk.drewN HR.out _) 2 (.bool true),Chg.setCell (S:=fun k=>k=b) ((Chg.refl _ w).drewN _) _ _ (.inl rfl)⟩
 ·have hhi:hi < n:=by rcases hlo with h | h;exact absurd h hlo';exact h
  clear hlo
  go_enter Try.func53,Try.ntmps53
  go_wp2
  go_quiet (fail)
  go_wp2
  go_quiet (fail)
  go_wp2
  go_ret
  exact ⟨rfl,by rw [HE.out];exact Blk.set (Blk.drewN HR.out _) 2 (.bool true),Chg.setCell (S:=fun k=>k=b) ((Chg.refl _ w).drewN _) _ _ (.inl rfl)⟩
def TgEnd (w0 w:World) (b:Nat) (cs:Array Value) (e:TypeId) (nv:Value) (ns:List Int) (r:Int × (Nat × Bool)) (ex:Ending) (w':World):Prop:=ex=.returned (.int .i64 r.1)/\RG w0 w' b (rgS cs r.2) e nv ns r.2/\Chg (fun j=>j=b) w w'
theorem take_g (h:RG w0 w b cs e nv ns s) (lo hi:Int):Calls Try.prog 53 #[.pointer b,lo,hi] w (TgEnd w0 w b cs e nv ns (tk ns lo hi s)):=by
 obtain ⟨p,st⟩:=s
 cases st with
 | true =>
  refine (tkg_a p lo hi h.bx h.c1 h.c2 h.c0).mono ?_
  rintro ex w' ⟨rfl,h1,h2⟩
  have e1:tk ns lo hi (p,true)=(0,(p,true)):=by unfold tk;rw [if_pos (.inl rfl)]
  rw [e1]
  exact ⟨rfl,h.after h1 h2,h2⟩
 | false =>
  by_cases hp:ns.length<=p
  ·obtain ⟨a,cap,hnv⟩:=h.rd.slice
   refine (tkg_b a ns.length cap p lo hi h.bx h.c1 h.c2 (by rw [<-hnv];exact h.c0) hp).mono ?_
   rintro ex w' ⟨rfl,h1,h2⟩
   have e1:tk ns lo hi (p,false)=(0,(p,true)):=by unfold tk;rw [if_pos (.inr hp)]
   rw [e1]
   exact ⟨rfl,h.after h1 h2,h2⟩
  ·have hp':p < ns.length:=by omega
   obtain ⟨g,cap,hnv,hlc,hcm,hc⟩:=(h.rd.new h.ch).form (by omega)
   have hc:=hc p hp'
   have hm:ns.length<=9223372036854775807:=by unfold maxLen at hcm;omega
   by_cases hb:ns.getD p 0 < lo \/ hi < ns.getD p 0
   ·refine (tkg_d g ns.length cap p _ lo hi h.bx h.c1 h.c2 (by rw [<-hnv];exact h.c0) hp' hc hb).mono ?_
    rintro ex w' ⟨rfl,h1,h2⟩
    have e1:tk ns lo hi (p,false)=(0,(p,true)):=by unfold tk;rw [if_neg (by simpa using hp'),if_pos hb]
    rw [e1]
    exact ⟨rfl,h.after h1 h2,h2⟩
   ·refine (tkg_c g ns.length cap p _ lo hi h.bx h.c1 h.c2 (by rw [<-hnv];exact h.c0) hp' hm hc (by omega) (by omega)).mono ?_
    rintro ex w' ⟨rfl,h1,h2⟩
    have e1:tk ns lo hi (p,false)=(ns.getD p 0,(p+1,false)):=by unfold tk;rw [if_neg (by simpa using hp'),if_neg hb]
    rw [e1]
    exact ⟨rfl,h.after h1 h2,h2⟩
end
end Go.Proofs.Ytnfnbcbadakofab
namespace Go.Proofs.Ytnfnbcbadakofab
open Go.RowKit
section
variable {w0 w:World} {b:Nat} {cs:Array Value} {e:TypeId} {nv:Value} {ns:List Int} {s:Nat × Bool}
theorem RG.halt (h:RG w0 w b (rgS cs s) e nv ns s):RG w0 (w.setCell ⟨b,2,none⟩ (.bool true)) b (rgS cs (s.1,true)) e nv ns (s.1,true):=by
 have hb:=h.bx.set 2 (.bool true)
 rw [<-rgS_stop (s:=s) h.c1,rgS_rgS] at hb
 have:=h.after (s':=(s.1,true)) (by rw [rgS_rgS];exact hb) ((Chg.refl _ w).setCell _ _ (.inl rfl))
 rwa [rgS_rgS] at this
theorem RG.app {W w4:World} {base:Nat} {v:Value} {L:List Int} (h:RG w0 W b cs e nv ns s) (he:3 ≠ e) (hI:IntsV W base v L) (hb:w0.heap.size<=base) (k:Chg (fun j=>some j=v.ownBlock) W w4):RG w0 w4 b cs e nv ns s:=
 ⟨h.ch.trans' k (fun i hi q=>by have:=(hI.lt i q.symm).1;omega),h.nw,h.bx.chg k (fun q=>own_ne hI h.bx he q.symm),h.c0,h.c1,h.c2,h.rd⟩
def TvEnd (w0 w:World) (b:Nat) (cs:Array Value) (e:TypeId) (nv:Value) (ns:List Int) (r:List Int × (Nat × Bool)) (ex:Ending) (w':World):Prop:=
 ∃ u,ex=.returned u/\IntsV w' w.heap.size u r.1/\RG w0 w' b (rgS cs r.2) e nv ns r.2/\Chg (fun j=>j=b) w w'
theorem tvP_cons (ns recs:List Int) (k:Int) (ks:List Int) (s:Nat × Bool):tvP ns recs (k::ks) s=((tk ns 0 65535 s).1::(tvP ns recs ks ((tk ns 0 65535 s).2.1,(tk ns 0 65535 s).2.2 || badV recs k (tk ns 0 65535 s).1)).1,(tvP ns recs ks ((tk ns 0 65535 s).2.1,(tk ns 0 65535 s).2.2 || badV recs k (tk ns 0 65535 s).1)).2):=rfl
set_option maxHeartbeats 2000000 in
set_option maxRecDepth 100000 in
theorem takeValues_any (h:RG w0 w b cs e nv ns s) (he:3 ≠ e) (ka ra:Option Addr) (kc rc:Nat) (ks rs:List Int) (hk:IntsV w 0 (.slice ka ks.length kc) ks) (hr:IntsV w 0 (.slice ra rs.length rc) rs) (hkl:ks.length<=1000) :
 Calls Try.prog 55 #[.pointer b,.slice ka ks.length kc,.slice ra rs.length rc] w (TvEnd w0 w b cs e nv ns (tvP ns rs ks s)):=by
 have H:=hid h
 have HK:=hid hk
 have HRS:=hid hr
 obtain ⟨T,hT⟩:∃ r,tvP ns rs ks s=r:=⟨_,rfl⟩
 rw [hT]
 have HT:=hid hT
 have hw0:w0.heap.size<=w.heap.size:=h.ch.size
 have H0:Hid (rgS cs s=cs):=rgS_self h.c1 h.c2
 clear h hk hr hT
 go_enter Try.func55,Try.ntmps55
 go_wp2
 go_loopw [7,13] (fun lv iv wr=>∃ (k n:Nat) (a:Option Addr) (c:Nat) (L:List Int) (s':Nat × Bool),k<=ks.length/\iv=.int .i64 (k:Int)/\lv=.slice a n c/\IntsV wr w.heap.size (.slice a n c) L/\L.length=k/\RG w0 wr b (rgS cs s') e nv ns s'/\Chg (fun j=>j=b) w wr/\(L++(tvP ns rs (ks.drop k) s').1,(tvP ns rs (ks.drop k) s').2)=T) (fun _ iv _=>ks.length - (intOf iv).toNat)
 case atStart=>exact ⟨0,0,none,0,[],s,Nat.zero_le _,rfl,rfl,World.ownsRow_nil _ _ _ _,rfl,by rw [H0.out];exact H.out,Chg.refl _ _,by rw [List.drop_zero];exact HT.out⟩
 case round =>
  obtain ⟨k,n,a,c,L,s',hk,rfl,rfl,hI,hLk,hG,hC,hE⟩:=hrel
  have HI:=hid hI
  have HG:=hid hG
  have HC:=hid hC
  have HE:=hid hE
  have HLK:=hid hLk
  clear hI hG hC hE hLk HT
  by_cases hlt:k < ks.length
  ·have hlt':(k:Int) < (ks.length:Int):=by omega
   have HKW:IntsV wr 0 (.slice ka ks.length kc) ks:=own_chg HK.out HC.out (fun g hg q=>own_ne HK.out H.out.bx he (by rw [hg,q]))
   have HRW:Hid (IntsV wr 0 (.slice ra rs.length rc) rs):=own_chg HRS.out HC.out (fun g hg q=>own_ne HRS.out H.out.bx he (by rw [hg,q]))
   obtain ⟨g,kc',hve,_,_,_,hc⟩:=HKW.form (by omega)
   simp only [Value.slice.injEq] at hve
   obtain ⟨rfl,_,rfl⟩:=hve
   have y:=hc k hlt
   have HD:Hid (ks.drop k=ks.getD k 0::ks.drop (k+1)):=by
    show ks.drop k=ks.getD k 0::ks.drop (k+1)
    rw [List.drop_eq_getElem_cons hlt,List.getD_eq_getElem?_getD,List.getElem?_eq_getElem hlt];rfl
   have HE2:Hid ((L++(tk ns 0 65535 s').1::(tvP ns rs (ks.drop (k+1)) ((tk ns 0 65535 s').2.1,(tk ns 0 65535 s').2.2 || badV rs (ks.getD k 0) (tk ns 0 65535 s').1)).1,(tvP ns rs (ks.drop (k+1)) ((tk ns 0 65535 s').2.1,(tk ns 0 65535 s').2.2 || badV rs (ks.getD k 0) (tk ns 0 65535 s').1)).2)=T):=by
    show _=T
    rw [<-HE.out,HD.out,tvP_cons]
   clear hc HE HD HKW
   generalize ks.getD k 0=kd at *
   have hsz:=HC.out.size
   go_wp2_with fail
   refine (take_g HG.out 0 65535).mono ?_
   rintro ex w1 ⟨rfl,hG1,hC1⟩
   rw [rgS_rgS] at hG1
   have hv:=tk_rng ns 0 65535 s' (by decide) (by decide)
   generalize tk ns 0 65535 s'=r at *
   obtain ⟨v,s1⟩:=r
   simp only at hv hG1 HE2 ⊢
   obtain ⟨hv0,hv1⟩:=hv
   have HI1:IntsV w1 w.heap.size (.slice a n c) L:=own_chg HI.out hC1 (fun g hg q=>own_ne HI.out HG.out.bx he (by rw [hg,q]))
   have HC1:Chg (fun j=>j=b) w w1:=HC.out.trans hC1
   have HRW1:Hid (IntsV w1 0 (.slice ra rs.length rc) rs):=own_chg HRW.out hC1 (fun g hg q=>own_ne HRW.out HG.out.bx he (by rw [hg,q]))
   have HG1:=hid hG1
   have hLn:L.length<=1000:=by rw [HLK.out];omega
   have hsz1:=HC1.size
   clear hG1 hC1 HG HI HRW y
   by_cases hz:kd=0
   ·subst hz
    have hb:badV rs 0 v=false:=by unfold badV;simp
    rw [hb,Bool.or_false] at HE2
    have j1:Chg () (w1) ((w1).alloc (Obj.cells #[v] 3)):=(Chg.refl _ _).alloc _
    have HIN:=hid HI1
    have HCN:=hid HC1
    have HGN:Hid (RG w0 (w1) b (rgS cs s1) e nv ns s1):=HG1.out
    have hszN:=HCN.out.size
    go_wp2_with (at_builtin;refine wp_appL rfl _ _ rfl w.heap.size (.slice a n c) (.slice (some ⟨(w1).heap.size,0,none⟩) 1 1) L [v] rfl rfl ?h1 ?h2 ?h3 ?h4 ?_)
    case h1=>exact HIN.out.chg j1 (fun _ _ _ e=>e)
    case h2=>exact lit_rd [v] 1 rfl (by unfold maxLen;omega)
    case h3=>simp;omega
    case h4=>exact Nat.le_trans hszN j1.size
    intro a2 n2 c2 w4 hn2 hI2 hch2 hl2
    clear hn2
    have hG4:RG w0 w4 b (rgS cs s1) e nv ns s1:=(HGN.out.new j1).app he (HIN.out.chg j1 (fun _ _ _ e=>e)) hw0 hch2
    have hC4:Chg (fun j=>j=b) w w4:=(HCN.out.trans j1.ofNew).trans' hch2 (fun i hi q=>by have:=(HIN.out.lt i q.symm).1;omega)
    go_wp2
    exact ⟨⟨k+1,n2,a2,c2,L++[v],s1,by omega,rfl,rfl,hI2,by rw [List.length_append,HLK.out];rfl,hG4,hC4,by rw [<-HE2.out];simp⟩,by simp [intOf];omega⟩
   ·have hkb:(kd == 0)=false:=by simp [hz]
    by_cases hz2:v=0
    ·subst hz2
     have hb:badV rs kd 0=false:=by unfold badV;simp
     rw [hb,Bool.or_false] at HE2
     have j1:Chg () (w1) ((w1).alloc (Obj.cells #[oO] 3)):=(Chg.refl _ _).alloc _
     have HIN:=hid HI1
     have HCN:=hid HC1
     have HGN:Hid (RG w0 (w1) b (rgS cs s1) e nv ns s1):=HG1.out
     have hszN:=HCN.out.size
     go_wp2_with (at_builtin;refine wp_appL rfl _ _ rfl w.heap.size (.slice a n c) (.slice (some ⟨(w1).heap.size,0,none⟩) 1 1) L [0] rfl rfl ?h1 ?h2 ?h3 ?h4 ?_)
     case h1=>exact HIN.out.chg j1 (fun _ _ _ e=>e)
     case h2=>exact lit_rd [0] 1 rfl (by unfold maxLen;omega)
     case h3=>simp;omega
     case h4=>exact Nat.le_trans hszN j1.size
     intro a2 n2 c2 w4 hn2 hI2 hch2 hl2
     clear hn2
     have hG4:RG w0 w4 b (rgS cs s1) e nv ns s1:=(HGN.out.new j1).app he (HIN.out.chg j1 (fun _ _ _ e=>e)) hw0 hch2
     have hC4:Chg (fun j=>j=b) w w4:=(HCN.out.trans j1.ofNew).trans' hch2 (fun i hi q=>by have:=(HIN.out.lt i q.symm).1;omega)
     go_wp2
     exact ⟨⟨k+1,n2,a2,c2,L++[0],s1,by omega,rfl,rfl,hI2,by rw [List.length_append,HLK.out];rfl,hG4,hC4,by rw [<-HE2.out];simp⟩,by simp [intOf];omega⟩
    ·have hvb:(v == 0)=false:=by simp [hz2]
     by_cases hz3:tyAt rs (v - 1)=kd
     ·have hbb:(tyAt rs (v - 1) == kd)=true:=by simp [hz3]
      have hb:badV rs kd v=false:=by unfold badV;simp [hz3]
      rw [hb,Bool.or_false] at HE2
      have j1:Chg () (w1) ((w1).alloc (Obj.cells #[v] 3)):=(Chg.refl _ _).alloc _
      have HIN:=hid HI1
      have HCN:=hid HC1
      have HGN:Hid (RG w0 (w1) b (rgS cs s1) e nv ns s1):=HG1.out
      have hszN:=HCN.out.size
      go_wp2_with fail
      refine (typeAt_any _ rs (v - 1) w1 0 HRW1.out).mono ?_
      rintro ex w2 ⟨rfl,hw2⟩
      have hw2:=hw2.symm
      subst hw2
      go_wp2_with (at_builtin;refine wp_appL rfl _ _ rfl w.heap.size (.slice a n c) (.slice (some ⟨(w1).heap.size,0,none⟩) 1 1) L [v] rfl rfl ?h1 ?h2 ?h3 ?h4 ?_)
      case h1=>exact HIN.out.chg j1 (fun _ _ _ e=>e)
      case h2=>exact lit_rd [v] 1 rfl (by unfold maxLen;omega)
      case h3=>simp;omega
      case h4=>exact Nat.le_trans hszN j1.size
      intro a2 n2 c2 w4 hn2 hI2 hch2 hl2
      clear hn2
      have hG4:RG w0 w4 b (rgS cs s1) e nv ns s1:=(HGN.out.new j1).app he (HIN.out.chg j1 (fun _ _ _ e=>e)) hw0 hch2
      have hC4:Chg (fun j=>j=b) w w4:=(HCN.out.trans j1.ofNew).trans' hch2 (fun i hi q=>by have:=(HIN.out.lt i q.symm).1;omega)
      go_wp2
      exact ⟨⟨k+1,n2,a2,c2,L++[v],s1,by omega,rfl,rfl,hI2,by rw [List.length_append,HLK.out];rfl,hG4,hC4,by rw [<-HE2.out];simp⟩,by simp [intOf];omega⟩
     ·have hbb:(tyAt rs (v - 1) == kd)=false:=by simp [hz3]
      have hk1:(kd != 0)=true:=by simp [hz]
      have hk2:(v != 0)=true:=by simp [hz2]
      have hk3:(tyAt rs (v - 1) != kd)=true:=by simp [hz3]
      have hsS:(w1.setCell ⟨b,2,none⟩ (.bool true)).heap.size=w1.heap.size:=by simp
      have q2:w1.frozen? ⟨b,2,none⟩=false:=HG1.out.bx.frozen 2
      have z2:w1.cell? ⟨b,2,none⟩=some (.bool s1.2):=(HG1.out.bx.cell 2).trans HG1.out.c2
      have hb:badV rs kd v=true:=by unfold badV;simp [hz,hz2,hz3]
      rw [hb,Bool.or_true] at HE2
      have j1:Chg () (w1.setCell ⟨b,2,none⟩ (.bool true)) ((w1.setCell ⟨b,2,none⟩ (.bool true)).alloc (Obj.cells #[v] 3)):=(Chg.refl _ _).alloc _
      have HIN:Hid (IntsV (w1.setCell ⟨b,2,none⟩ (.bool true)) w.heap.size (.slice a n c) L):=own_set HI1 _ _ (own_ne HI1 HG1.out.bx he)
      have HCN:Hid (Chg (fun j=>j=b) w (w1.setCell ⟨b,2,none⟩ (.bool true))):=HC1.setCell _ _ (.inl rfl)
      have HGN:Hid (RG w0 (w1.setCell ⟨b,2,none⟩ (.bool true)) b (rgS cs (s1.1,true)) e nv ns (s1.1,true)):=HG1.out.halt
      have hszN:=HCN.out.size
      go_wp2_with fail
      refine (typeAt_any _ rs (v - 1) w1 0 HRW1.out).mono ?_
      rintro ex w2 ⟨rfl,hw2⟩
      have hw2:=hw2.symm
      subst hw2
      go_wp2_with (at_builtin;refine wp_appL rfl _ _ rfl w.heap.size (.slice a n c) (.slice w1.heap.size 1 1) L [v] rfl rfl ?h1 ?h2 ?h3 ?h4 ?_)
      case h1=>exact HIN.out.chg j1 (fun _ _ _ e=>e)
      case h2=>rw [<-hsS];exact lit_rd [v] 1 rfl (by unfold maxLen;omega)
      case h3=>simp;omega
      case h4=>exact Nat.le_trans hszN j1.size
      intro a2 n2 c2 w4 hn2 hI2 hch2 hl2
      clear hn2
      have hG4:RG w0 w4 b (rgS cs (s1.1,true)) e nv ns (s1.1,true):=(HGN.out.new j1).app he (HIN.out.chg j1 (fun _ _ _ e=>e)) hw0 hch2
      have hC4:Chg (fun j=>j=b) w w4:=(HCN.out.trans j1.ofNew).trans' hch2 (fun i hi q=>by have:=(HIN.out.lt i q.symm).1;omega)
      go_wp2
      exact ⟨⟨k+1,n2,a2,c2,L++[v],(s1.1,true),by omega,rfl,rfl,hI2,by rw [List.length_append,HLK.out];rfl,hG4,hC4,by rw [<-HE2.out];simp⟩,by simp [intOf];omega⟩
  ·have hkk:k=ks.length:=by omega
   have hlt':(ks.length:Int)<=(k:Int):=by omega
   have HE1:Hid (L=T.1/\s'=T.2):=by
    show L=T.1/\s'=T.2
    rw [<-HE.out,hkk,List.drop_eq_nil_of_le (Nat.le_refl _)];simp [tvP]
   clear HE
   go_wp2
   go_ret
   exact ⟨_,rfl,by rw [<-HE1.out.1];exact HI.out,by rw [<-HE1.out.2];exact HG.out,HC.out⟩
end
end Go.Proofs.Ytnfnbcbadakofab
namespace Go.Proofs.Ytnfnbcbadakofab
open Go.RowKit
theorem row_take {w:World} {base:Nat} {e:TypeId} {sz n cap:Nat} {a:Option Addr} {l:List Value} (h:w.ownsRow base e sz (.slice a n cap) n l) (k:Nat) (hk:k<=n):w.ownsRow base e sz (.slice a k cap) k (l.take (k * sz)):=by
 have hm:k * sz<=n * sz:=Nat.mul_le_mul_right _ hk
 refine ⟨by rw [List.length_take,h.1];omega,?_⟩
 rcases h.2 with ⟨hv,h0⟩ | ⟨g,cap',cur,hv,hb,hgg,hle,hcap,hcs,htk⟩
 ·simp only [Value.slice.injEq] at hv
  obtain ⟨rfl,_,rfl⟩:=hv
  have:k=0:=by omega
  subst this
  exact .inl ⟨rfl,rfl⟩
 ·simp only [Value.slice.injEq] at hv
  obtain ⟨rfl,_,rfl⟩:=hv
  refine .inr ⟨g,cap,cur,rfl,hb,hgg,by omega,hcap,hcs,?_⟩
  rw [<-htk,List.take_take,Nat.min_eq_left hm]
theorem row_lt {w:World} {base:Nat} {e:TypeId} {sz n g:Nat} {v:Value} {l:List Value} (h:w.ownsRow base e sz v n l) (hg:v.ownBlock=some g):base<=g:=by
 rcases h.2 with ⟨r,_⟩ | ⟨g',cap,cur,r,hb,_⟩
 ·rw [r] at hg;cases hg
 ·rw [r] at hg;simp [Value.ownBlock] at hg;omega
theorem frC_take (ys:List (Fr × Value × Value)) (x:Fr × Value × Value):(frC (ys++[x])).take (ys.length * 4)=frC ys:=by
 rw [frC_app,List.take_append_of_le_length (by rw [frC_len];exact Nat.le_refl _),List.take_of_length_le (by rw [frC_len];exact Nat.le_refl _)]
theorem frC_snoc (ys:List (Fr × Value × Value)) (x:Fr × Value × Value):frC (ys++[x])=frC ys++[.int .i64 x.1.fn,.int .i64 x.1.pc,x.2.1,x.2.2]:=by simp [frC]
theorem KR.ofF {S:Nat->Prop} {w w':World} (hS:OnlyF S w) (k:Chg S w w'):KR w w':=⟨k.size,fun b cs e hb _ h4 h5=>hb.chg k (fun q=>(hS b cs e hb q).elim h4 h5)⟩
section
variable {W1 w w':World} {rb:Nat} {s:ByteArray} {tv fv sv iv:Value} {R:Rn} {V:RV} {c:Cx}
theorem RI.up (h:RI W1 w rb s tv fv sv iv R V) {ys:List (Fr × Value × Value)} {x:Fr × Value × Value} (hx:V.xs=ys++[x]) {bv':Value} (hbv:w.ownsRow W1.heap.size 63 4 bv' ys.length (frC ys)) (k:Chg (fun j=>j=rb) w w')
 (hbx:Blk w' rb (rcs s tv fv sv iv { R with below:=ys.map (·.1),top:=x.1 } ⟨V.wv,bv',x.2.1,x.2.2,V.ov,ys⟩) 65) :
 RI W1 w' rb s tv fv sv iv { R with below:=ys.map (·.1),top:=x.1 } ⟨V.wv,bv',x.2.1,x.2.2,V.ov,ys⟩/\KR w w':=by
 have hS:∀ j,j=rb->j=rb \/ some j=V.kv.ownBlock:=fun j q=>.inl q
 have hf:V.fl=flx ys++[x.2.1,x.2.2]:=by show flx V.xs=_;rw [hx,flx_snoc]
 have m1:x.2.1 ∈ V.fl:=by rw [hf];simp
 have m2:x.2.2 ∈ V.fl:=by rw [hf];simp
 have mx:x ∈ V.xs:=by rw [hx];simp
 have my:∀ z ∈ ys,z ∈ V.xs:=fun z hz=>by rw [hx];exact List.mem_append_left _ hz
 have mu:∀ u ∈ flx ys,u ∈ V.fl:=fun u hu=>by rw [hf];exact List.mem_append_left _ hu
 have hff:=h.sp.ff
 rw [hf,List.pairwise_append] at hff
 obtain ⟨f1,f2,f3⟩:=hff
 refine ⟨⟨h.chg1 h.kk k hS,hbx,h.ww.apart h.bx (by decide) k hS h.sp.wk,(h.xx x mx).1.apart h.bx (by decide) k hS (h.sp.fk _ m1),(h.xx x mx).2.apart h.bx (by decide) k hS (h.sp.fk _ m2),h.oo.apart h.bx (by decide) k hS h.sp.ko.symm,rfl,own_chg hbv k (fun g hg q=>own_ne hbv h.bx (by decide) (by rw [hg,q])),fun z hz=>⟨(h.xx z (my z hz)).1.apart h.bx (by decide) k hS (h.sp.fk _ (mu _ (flx_1 hz))),(h.xx z (my z hz)).2.apart h.bx (by decide) k hS (h.sp.fk _ (mu _ (flx_2 hz)))⟩,?_⟩,KR.of k h.bx h.kk hS⟩
 exact ⟨(h.sp.fw _ m1).symm,(h.sp.fw _ m2).symm,h.sp.wo,by simpa using f2,h.sp.fo _ m1,h.sp.fo _ m2,fun u hu=>h.sp.fw u (mu u hu),fun u hu=>f3 u hu _ (by simp),fun u hu=>f3 u hu _ (by simp),fun u hu=>h.sp.fo u (mu u hu),f1⟩
theorem RI.down (h:RI W1 w rb s tv fv sv iv R V) {f:Fr} {lu bv':Value} (hst:f.stack=[]) (k:Chg (Cst rb V.bv) w w') (hbx:Blk w' rb (rcs s tv fv sv iv { R with below:=R.below++[R.top],top:=f } ⟨V.wv,bv',lu,.slice none 0 0,V.ov,V.xs++[(R.top,V.lv,V.kv)]⟩) 65)
 (hrow:w'.ownsRow W1.heap.size 63 4 bv' (V.xs.length+1) (frC (V.xs++[(R.top,V.lv,V.kv)]))) (hlu:IntsV w' w.heap.size lu f.locals) :
 RI W1 w' rb s tv fv sv iv { R with below:=R.below++[R.top],top:=f } ⟨V.wv,bv',lu,.slice none 0 0,V.ov,V.xs++[(R.top,V.lv,V.kv)]⟩/\KR w w':=by
 have hS:=h.onlyF
 have hfe:flx (V.xs++[(R.top,V.lv,V.kv)])=V.fl++[V.lv,V.kv]:=flx_snoc _ _
 have hmem:∀ u ∈ flx (V.xs++[(R.top,V.lv,V.kv)]),u ∈ V.fl \/ u=V.lv \/ u=V.kv:=fun u hu=>by rw [hfe] at hu;simpa using hu
 refine ⟨⟨h.ch.trans' k (fun i hi q=>?_),hbx,hS.ints k h.ww,own_mono hlu h.base,?_,hS.ints k h.oo,by simp [h.be],by simpa using hrow,fun z hz=>?_,?_⟩,KR.ofF hS k⟩
 ·rcases q with q | q
  ·exact q
  ·have:=row_lt h.bb q.symm;omega
 ·show IntsV _ _ _ f.stack
  rw [hst];exact World.ownsRow_nil _ _ _ _
 ·rcases List.mem_append.1 hz with q | q
  ·exact ⟨hS.ints k (h.xx z q).1,hS.ints k (h.xx z q).2⟩
  ·simp at q;subst q;exact ⟨hS.ints k h.ll,hS.ints k h.kk⟩
 ·refine ⟨Sep.new hlu h.ww.lts,Sep.nil _,h.sp.wo,Sep.nil _,(Sep.new hlu h.oo.lts).symm,(Sep.nil _).symm,fun u hu=>?_,fun u hu=>?_,fun u hu=>Sep.nil _,fun u hu=>?_,?_⟩
  ·rcases hmem u hu with q | rfl | rfl
   ·exact h.sp.fw u q
   ·exact h.sp.wl.symm
   ·exact h.sp.wk.symm
  ·rcases hmem u hu with q | rfl | rfl
   ·exact Sep.new hlu (h.fl_lt q)
   ·exact Sep.new hlu h.ll.lts
   ·exact Sep.new hlu h.kk.lts
  ·rcases hmem u hu with q | rfl | rfl
   ·exact h.sp.fo u q
   ·exact h.sp.lo
   ·exact h.sp.ko
  ·show (flx _).Pairwise Sep
   rw [hfe,List.pairwise_append]
   refine ⟨h.sp.ff,by simpa using h.sp.lk,fun u hu v hv=>?_⟩
   simp at hv;rcases hv with rfl | rfl
   ·exact h.sp.fl u hu
   ·exact h.sp.fk u hu
end
end Go.Proofs.Ytnfnbcbadakofab
namespace Go.Proofs.Ytnfnbcbadakofab
open Go.RowKit
def tcs (img:ByteArray) (nv tv fv sv:Value) (s:Nat × Bool) (R:Rn) (V:RV) (rv:Value):Array Value:=
 #[nv,.int .i64 (s.1:Int),.bool s.2,.string img,tv,fv,sv,.int .i64 R.heap,.int .i64 R.depth,.int .i64 R.status,V.wv,V.bv,.int .i64 R.top.fn,.int .i64 R.top.pc,V.lv,V.kv,.slice none 0 0,.int .i64 0,.slice none 0 0,rv]
structure TI (W0 w:World) (tb:Nat) (img:ByteArray) (nv tv fv sv:Value) (ns:List Int) (s:Nat × Bool) (R:Rn) (V:RV) (rv:Value) (rs:List Int):Prop where
 ch:Chg () W0 w
 nw:W0.heap.size<=tb
 bx:Blk w tb (tcs img nv tv fv sv s R V rv) 90
 ww:IntsV w W0.heap.size V.wv R.words
 ll:IntsV w W0.heap.size V.lv R.top.locals
 kk:IntsV w W0.heap.size V.kv R.top.stack
 be:V.xs.map (·.1)=R.below
 bb:w.ownsRow W0.heap.size 63 4 V.bv V.xs.length (frC V.xs)
 xx:∀ x ∈ V.xs,IntsV w W0.heap.size x.2.1 x.1.locals/\IntsV w W0.heap.size x.2.2 x.1.stack
 rr:IntsV w W0.heap.size rv rs
 sp:RSp V
 ov:V.ov=.slice none 0 0
 rd:RdA W0 nv ns
section
variable {W0 w w':World} {tb:Nat} {img:ByteArray} {nv tv fv sv rv:Value} {ns rs:List Int} {s s':Nat × Bool} {R R':Rn} {V:RV}
theorem rgS_tcs:rgS (tcs img nv tv fv sv s R V rv) s'=tcs img nv tv fv sv s' R V rv:=by simp [rgS,tcs]
theorem TI.rg (h:TI W0 w tb img nv tv fv sv ns s R V rv rs):RG W0 w tb (tcs img nv tv fv sv s R V rv) 90 nv ns s:=⟨h.ch,h.nw,h.bx,rfl,rfl,rfl,h.rd⟩
theorem TI.base (h:TI W0 w tb img nv tv fv sv ns s R V rv rs):W0.heap.size<=w.heap.size:=h.ch.size
theorem TI.cells (h:TI W0 w tb img nv tv fv sv ns s R V rv rs) (k:Chg (fun j=>j=tb) w w') (hb:Blk w' tb (tcs img nv tv fv sv s' R' V rv) 90) (e1:R'.words=R.words) (e2:R'.top.locals=R.top.locals) (e3:R'.top.stack=R.top.stack) (e4:R'.below=R.below):TI W0 w' tb img nv tv fv sv ns s' R' V rv rs:=by
 have q3:∀ (u:Value) (l:List Int),IntsV w W0.heap.size u l->IntsV w' W0.heap.size u l:=fun u l hu=>own_chg hu k (fun g hg q=>own_ne hu h.bx (by decide) (by rw [hg,q]))
 exact ⟨h.ch.trans' k (fun i hi q=>by have:=h.nw;omega),h.nw,hb,by rw [e1];exact q3 _ _ h.ww,by rw [e2];exact q3 _ _ h.ll,by rw [e3];exact q3 _ _ h.kk,by rw [e4];exact h.be,own_chg h.bb k (fun g hg q=>own_ne h.bb h.bx (by decide) (by rw [hg,q])),fun x hx=>⟨q3 _ _ (h.xx x hx).1,q3 _ _ (h.xx x hx).2⟩,q3 _ _ h.rr,h.sp,h.ov,h.rd⟩
theorem TI.took (h:TI W0 w tb img nv tv fv sv ns s R V rv rs) (hg:RG W0 w' tb (rgS (tcs img nv tv fv sv s R V rv) s') 90 nv ns s') (k:Chg (fun j=>j=tb) w w'):TI W0 w' tb img nv tv fv sv ns s' R V rv rs:=
 h.cells k (by have:=hg.bx;rwa [rgS_tcs] at this) rfl rfl rfl rfl
theorem TI.new (h:TI W0 w tb img nv tv fv sv ns s R V rv rs) (k:Chg () w w'):TI W0 w' tb img nv tv fv sv ns s R V rv rs:=
 h.cells (k.mono (fun _ _ q=>q.elim)) (h.bx.chg k (fun q=>q)) rfl rfl rfl rfl
def TkEnd (W0 w:World) (tb:Nat) (img:ByteArray) (nv tv fv sv:Value) (ns:List Int) (r:Int × (Nat × Bool)) (R:Rn) (V:RV) (rv:Value) (rs:List Int) (ex:Ending) (w':World):Prop:=ex=.returned (.int .i64 r.1)/\TI W0 w' tb img nv tv fv sv ns r.2 R V rv rs/\Chg (fun j=>j=tb) w w'
theorem TI.take (h:TI W0 w tb img nv tv fv sv ns s R V rv rs) (lo hi:Int):Calls Try.prog 53 #[.pointer tb,lo,hi] w (TkEnd W0 w tb img nv tv fv sv ns (tk ns lo hi s) R V rv rs):=by
 refine (take_g h.rg lo hi).mono ?_
 rintro ex w' ⟨rfl,h1,h2⟩
 exact ⟨rfl,h.took h1 h2,h2⟩
theorem TI.stop (h:TI W0 w tb img nv tv fv sv ns s R V rv rs):TI W0 (w.setCell ⟨tb,2,none⟩ (.bool true)) tb img nv tv fv sv ns (s.1,true) R V rv rs:=
 h.cells ((Chg.refl _ w).setCell _ _ (.inl rfl)) (by have:=h.bx.set 2 (.bool true);simpa [tcs] using this) rfl rfl rfl rfl
theorem TI.heap (h:TI W0 w tb img nv tv fv sv ns s R V rv rs) (v:Int):TI W0 (w.setCell ⟨tb,7,none⟩ v) tb img nv tv fv sv ns s { R with heap:=v } V rv rs:=
 h.cells ((Chg.refl _ w).setCell _ _ (.inl rfl)) (by have:=h.bx.set 7 (.int .i64 v);simpa [tcs] using this) rfl rfl rfl rfl
theorem TI.depth (h:TI W0 w tb img nv tv fv sv ns s R V rv rs) (v:Int):TI W0 (w.setCell ⟨tb,8,none⟩ v) tb img nv tv fv sv ns s { R with depth:=v } V rv rs:=
 h.cells ((Chg.refl _ w).setCell _ _ (.inl rfl)) (by have:=h.bx.set 8 (.int .i64 v);simpa [tcs] using this) rfl rfl rfl rfl
theorem TI.status (h:TI W0 w tb img nv tv fv sv ns s R V rv rs) (v:Int):TI W0 (w.setCell ⟨tb,9,none⟩ v) tb img nv tv fv sv ns s { R with status:=v } V rv rs:=
 h.cells ((Chg.refl _ w).setCell _ _ (.inl rfl)) (by have:=h.bx.set 9 (.int .i64 v);simpa [tcs] using this) rfl rfl rfl rfl
theorem TI.recs (h:TI W0 w tb img nv tv fv sv ns s R V rv rs) {rv':Value} {rs':List Int} (hr:IntsV w W0.heap.size rv' rs'):TI W0 (w.setCell ⟨tb,19,none⟩ rv') tb img nv tv fv sv ns s R V rv' rs':=by
 have k:Chg (fun j=>j=tb) w (w.setCell ⟨tb,19,none⟩ rv'):=(Chg.refl _ w).setCell _ _ (.inl rfl)
 have q3:∀ (u:Value) (l:List Int),IntsV w W0.heap.size u l->IntsV (w.setCell ⟨tb,19,none⟩ rv') W0.heap.size u l:=fun u l hu=>own_chg hu k (fun g hg q=>own_ne hu h.bx (by decide) (by rw [hg,q]))
 exact ⟨h.ch.trans' k (fun i hi q=>by have:=h.nw;omega),h.nw,by have:=h.bx.set 19 rv';simpa [tcs] using this,q3 _ _ h.ww,q3 _ _ h.ll,q3 _ _ h.kk,h.be,own_chg h.bb k (fun g hg q=>own_ne h.bb h.bx (by decide) (by rw [hg,q])),fun x hx=>⟨q3 _ _ (h.xx x hx).1,q3 _ _ (h.xx x hx).2⟩,q3 _ _ hr,h.sp,h.ov,h.rd⟩
theorem TI.grow {w4:World} {v':Value} {l':List Int} (h:TI W0 w tb img nv tv fv sv ns s R V rv rs) (hx:V=⟨V.wv,.slice none 0 0,.slice none 0 0,.slice none 0 0,.slice none 0 0,[]⟩) (hr:rv=.slice none 0 0) (hI:IntsV w4 W0.heap.size v' l') (hch:Chg (fun j=>some j=V.wv.ownBlock) w w4) :
 Blk w4 tb (tcs img nv tv fv sv s R V rv) 90/\TI W0 (w4.setCell ⟨tb,10,none⟩ v') tb img nv tv fv sv ns s { R with words:=l' } ⟨v',.slice none 0 0,.slice none 0 0,.slice none 0 0,.slice none 0 0,[]⟩ rv rs:=by
 have hbk:Blk w4 tb (tcs img nv tv fv sv s R V rv) 90:=h.bx.chg hch (fun q=>own_ne h.ww h.bx (by decide) q.symm)
 have k:Chg (fun j=>j=tb \/ some j=V.wv.ownBlock) w (w4.setCell ⟨tb,10,none⟩ v'):=(hch.mono (fun _ _ q=>.inr q)).setCell _ _ (.inl (.inl rfl))
 have ev:∀ (u:Value) (l:List Int),u=.slice none 0 0->IntsV w W0.heap.size u l->l=[]:=fun u l hu hl=>by
  subst hu
  rcases hl.2 with ⟨_,q⟩ | ⟨g,cap,cur,q,_⟩
  ·exact List.eq_nil_of_length_eq_zero q
  ·cases q
 have ell:=h.ll
 have ekk:=h.kk
 have err:=h.rr
 rw [hx] at ell ekk
 rw [hr] at err
 have e1:=ev _ _ rfl ell
 have e2:=ev _ _ rfl ekk
 have e3:=ev _ _ rfl err
 have ebe:=h.be
 rw [hx] at ebe
 refine ⟨hbk,⟨h.ch.trans' k (fun i hi q=>?_),h.nw,?_,own_set hI _ _ (own_ne hI hbk (by decide)),?_,?_,ebe,World.ownsRow_nil _ _ _ _,fun x hx=>by simp at hx,?_,?_,rfl,h.rd⟩⟩
 ·rcases q with q | q
  ·have:=h.nw;omega
  ·have:=(h.ww.lt i q.symm).1;omega
 ·have:=hbk.set 10 v'
  rw [hx] at this
  simpa [tcs] using this
 ·show IntsV _ _ _ R.top.locals
  rw [e1];exact World.ownsRow_nil _ _ _ _
 ·show IntsV _ _ _ R.top.stack
  rw [e2];exact World.ownsRow_nil _ _ _ _
 ·rw [hr,e3];exact World.ownsRow_nil _ _ _ _
 ·have sn:∀ u,Sep (.slice none 0 0) u:=fun u=>(Sep.nil u).symm
  exact ⟨Sep.nil _,Sep.nil _,Sep.nil _,Sep.nil _,Sep.nil _,Sep.nil _,fun u hu=>by simp [RV.fl] at hu,fun u hu=>by simp [RV.fl] at hu,fun u hu=>by simp [RV.fl] at hu,fun u hu=>by simp [RV.fl] at hu,by simp [RV.fl]⟩
theorem TI.wait {w4:World} {f:Fr} {lu ku bv':Value} (h:TI W0 w tb img nv tv fv sv ns s R V rv rs) (hlu:IntsV w W0.heap.size lu f.locals) (hku:IntsV w W0.heap.size ku f.stack) (s1:Sep lu ku) (s2:∀ u,u ∈ V.fl \/ u=V.wv \/ u=V.lv \/ u=V.kv->Sep u lu/\Sep u ku)
 (hch:Chg (fun j=>some j=V.bv.ownBlock) w w4) (hrow:w4.ownsRow W0.heap.size 63 4 bv' (V.xs.length+1) (frC V.xs++[.int .i64 f.fn,.int .i64 f.pc,lu,ku])) :
 Blk w4 tb (tcs img nv tv fv sv s R V rv) 90/\TI W0 (w4.setCell ⟨tb,11,none⟩ bv') tb img nv tv fv sv ns s { R with below:=R.below++[f] } { V with bv:=bv',xs:=V.xs++[(f,lu,ku)] } rv rs:=by
 have hbk:Blk w4 tb (tcs img nv tv fv sv s R V rv) 90:=h.bx.chg hch (fun q=>own_ne h.bb h.bx (by decide) q.symm)
 have k:Chg (fun j=>j=tb \/ some j=V.bv.ownBlock) w (w4.setCell ⟨tb,11,none⟩ bv'):=(hch.mono (fun _ _ q=>.inr q)).setCell _ _ (.inl (.inl rfl))
 have q3:∀ (u:Value) (l:List Int),IntsV w W0.heap.size u l->IntsV (w4.setCell ⟨tb,11,none⟩ bv') W0.heap.size u l:=fun u l hu=>own_chg hu k (fun g hg q=>by
  rcases q with q | q
  ·exact own_ne hu h.bx (by decide) (by rw [hg,q])
  ·obtain ⟨cs,hb1⟩:=own_blk hu hg
   obtain ⟨cs',hb2⟩:=own_blk h.bb q.symm
   exact hb1.ne hb2 (by decide) rfl)
 have hfe:flx (V.xs++[(f,lu,ku)])=V.fl++[lu,ku]:=flx_snoc _ _
 have hmem:∀ u ∈ flx (V.xs++[(f,lu,ku)]),u ∈ V.fl \/ u=lu \/ u=ku:=fun u hu=>by rw [hfe] at hu;simpa using hu
 refine ⟨hbk,⟨h.ch.trans' k (fun i hi q=>?_),h.nw,?_,q3 _ _ h.ww,q3 _ _ h.ll,q3 _ _ h.kk,by simp [h.be],?_,fun z hz=>?_,q3 _ _ h.rr,?_,h.ov,h.rd⟩⟩
 ·rcases q with q | q
  ·have:=h.nw;omega
  ·have:=row_lt h.bb q.symm;omega
 ·have:=hbk.set 11 bv'
  simpa [tcs] using this
 ·have:=own_set hrow ⟨tb,11,none⟩ bv' (own_ne hrow hbk (by decide))
  rw [<-frC_snoc V.xs (f,lu,ku)] at this
  simpa using this
 ·rcases List.mem_append.1 hz with q | q
  ·exact ⟨q3 _ _ (h.xx z q).1,q3 _ _ (h.xx z q).2⟩
  ·simp at q;subst q;exact ⟨q3 _ _ hlu,q3 _ _ hku⟩
 ·refine ⟨h.sp.wl,h.sp.wk,h.sp.wo,h.sp.lk,h.sp.lo,h.sp.ko,fun u hu=>?_,fun u hu=>?_,fun u hu=>?_,fun u hu=>by rw [show ({ V with bv:=bv',xs:=V.xs++[(f,lu,ku)] }:RV).ov=.slice none 0 0 from h.ov];exact Sep.nil _,?_⟩
  ·rcases hmem u hu with q | rfl | rfl
   ·exact h.sp.fw u q
   ·exact (s2 _ (.inr (.inl rfl))).1.symm
   ·exact (s2 _ (.inr (.inl rfl))).2.symm
  ·rcases hmem u hu with q | rfl | rfl
   ·exact h.sp.fl u q
   ·exact (s2 _ (.inr (.inr (.inl rfl)))).1.symm
   ·exact (s2 _ (.inr (.inr (.inl rfl)))).2.symm
  ·rcases hmem u hu with q | rfl | rfl
   ·exact h.sp.fk u q
   ·exact (s2 _ (.inr (.inr (.inr rfl)))).1.symm
   ·exact (s2 _ (.inr (.inr (.inr rfl)))).2.symm
  ·show (flx _).Pairwise Sep
   rw [hfe,List.pairwise_append]
   refine ⟨h.sp.ff,by simpa using s1,fun u hu v hv=>?_⟩
   simp at hv;rcases hv with rfl | rfl
   ·exact (s2 u (.inl hu)).1
   ·exact (s2 u (.inl hu)).2
theorem TI.topped {f:Fr} {lu ku:Value} (h:TI W0 w tb img nv tv fv sv ns s R V rv rs) (hlu:IntsV w W0.heap.size lu f.locals) (hku:IntsV w W0.heap.size ku f.stack) (s1:Sep lu ku) (s2:∀ u,u ∈ V.fl \/ u=V.wv->Sep u lu/\Sep u ku) :
 TI W0 ((((w.setCell ⟨tb,12,none⟩ f.fn).setCell ⟨tb,13,none⟩ f.pc).setCell ⟨tb,14,none⟩ lu).setCell ⟨tb,15,none⟩ ku) tb img nv tv fv sv ns s { R with top:=f } { V with lv:=lu,kv:=ku } rv rs:=by
 have k:Chg (fun j=>j=tb) w ((((w.setCell ⟨tb,12,none⟩ f.fn).setCell ⟨tb,13,none⟩ f.pc).setCell ⟨tb,14,none⟩ lu).setCell ⟨tb,15,none⟩ ku):=((((Chg.refl (fun j=>j=tb) _).setCell ⟨tb,_,none⟩ _ (.inl rfl)).setCell ⟨tb,_,none⟩ _ (.inl rfl)).setCell ⟨tb,_,none⟩ _ (.inl rfl)).setCell ⟨tb,_,none⟩ _ (.inl rfl)
 have q3:∀ (u:Value) (l:List Int),IntsV w W0.heap.size u l->IntsV ((((w.setCell ⟨tb,12,none⟩ f.fn).setCell ⟨tb,13,none⟩ f.pc).setCell ⟨tb,14,none⟩ lu).setCell ⟨tb,15,none⟩ ku) W0.heap.size u l:=fun u l hu=>own_chg hu k (fun g hg q=>own_ne hu h.bx (by decide) (by rw [hg,q]))
 refine ⟨h.ch.trans' k (fun i hi q=>by have:=h.nw;omega),h.nw,?_,q3 _ _ h.ww,q3 _ _ hlu,q3 _ _ hku,h.be,own_chg h.bb k (fun g hg q=>own_ne h.bb h.bx (by decide) (by rw [hg,q])),fun x hx=>⟨q3 _ _ (h.xx x hx).1,q3 _ _ (h.xx x hx).2⟩,q3 _ _ h.rr,?_,h.ov,h.rd⟩
 ·have:=(((h.bx.set 12 (.int .i64 f.fn)).set 13 (.int .i64 f.pc)).set 14 lu).set 15 ku
  simpa [tcs] using this
 ·have ho:∀ u,Sep u ({ V with lv:=lu,kv:=ku }:RV).ov:=fun u=>by rw [show ({ V with lv:=lu,kv:=ku }:RV).ov=.slice none 0 0 from h.ov];exact Sep.nil _
  exact ⟨(s2 _ (.inr rfl)).1,(s2 _ (.inr rfl)).2,ho _,s1,ho _,ho _,h.sp.fw,fun u hu=>(s2 u (.inl hu)).1,fun u hu=>(s2 u (.inl hu)).2,fun u hu=>ho u,h.sp.ff⟩
end
end Go.Proofs.Ytnfnbcbadakofab
namespace Go.Proofs.Ytnfnbcbadakofab
open Go.RowKit
section
variable {W0 w:World} {tb:Nat} {img:ByteArray} {nv tv fv sv rv:Value} {ns rs:List Int} {s:Nat × Bool} {R:Rn} {V:RV}
theorem TI.at (h:TI W0 w tb img nv tv fv sv ns s R V rv rs):w.cell? ⟨tb,7,none⟩=some (.int .i64 R.heap)/\w.cell? ⟨tb,8,none⟩=some (.int .i64 R.depth)/\w.cell? ⟨tb,9,none⟩=some (.int .i64 R.status)/\w.cell? ⟨tb,2,none⟩=some (.bool s.2)/\w.cell? ⟨tb,3,none⟩=some (.string img)/\w.frozen? ⟨tb,7,none⟩=false/\w.frozen? ⟨tb,8,none⟩=false/\w.frozen? ⟨tb,9,none⟩=false/\w.frozen? ⟨tb,2,none⟩=false:=
 ⟨h.bx.cell 7,h.bx.cell 8,h.bx.cell 9,h.bx.cell 2,h.bx.cell 3,h.bx.frozen 7,h.bx.frozen 8,h.bx.frozen 9,h.bx.frozen 2⟩
theorem fold_drop {α:Type} (f:α->Int->α) (l:List Int) (k:Nat) (hk:k < l.length) (a:α):(l.drop k).foldl f a=(l.drop (k+1)).foldl f (f a (l.getD k 0)):=by
 rw [List.drop_eq_getElem_cons hk,List.foldl_cons,List.getD_eq_getElem?_getD,List.getElem?_eq_getElem hk];rfl
set_option maxHeartbeats 2000000 in
set_option maxRecDepth 100000 in
theorem takeHead_any (h:TI W0 w tb img nv tv fv sv ns s R V rv rs) (hi:img.size<=800) :
 Calls Try.prog 36 #[.pointer tb] w fun ex w'=>ex=.returned (.tuple #[])/\TI W0 w' tb img nv tv fv sv ns (thP (mksP img) ns s).2 { R with heap:=(thP (mksP img) ns s).1.1,depth:=(thP (mksP img) ns s).1.2.1,status:=(thP (mksP img) ns s).1.2.2 } V rv rs:=by
 obtain ⟨M,hM⟩:∃ m,(mksP img).foldl (fun s m=>(tk ns m m s).2) s=m:=⟨_,rfl⟩
 obtain ⟨A,hA⟩:∃ a,tk ns 0 4000 M=a:=⟨_,rfl⟩
 obtain ⟨B,hB⟩:∃ a,tk ns 1 64 A.2=a:=⟨_,rfl⟩
 obtain ⟨C,hC⟩:∃ a,tk ns 0 5 B.2=a:=⟨_,rfl⟩
 have eT:thP (mksP img) ns s=((A.1,B.1,C.1),(C.2.1,C.2.2 || decide (C.1=2))):=by
  unfold thP;simp only;rw [hM,hA,hB,hC]
 rw [eT]
 simp only
 have H:=hid h
 have HM:=hid hM
 have HA:=hid hA
 have HB:=hid hB
 have HC:=hid hC
 obtain ⟨_,_,_,_,x3,_,_,_,_⟩:=h.at
 clear h hM hA hB hC eT
 go_enter Try.func36,Try.ntmps36
 go_wp2_with fail
 refine (marksOf_any img _ hi).mono ?_
 rintro ex w1 ⟨v,rfl,hv,k1⟩
 obtain ⟨va,vc,rfl⟩:=hv.slice
 have HV:=hid hv
 have H1:=hid (H.out.new k1)
 clear hv k1 x3 H
 have hml:(mksP img).length<=3:=by simp [mksP]
 generalize mksP img=ms at *
 go_wp2
 go_loopw [13] (fun iv wr=>∃ (k:Nat) (s':Nat × Bool),k<=ms.length/\iv=.int .i64 (k:Int)/\TI W0 wr tb img nv tv fv sv ns s' R V rv rs/\IntsV wr w.heap.size (.slice va ms.length vc) ms/\(ms.drop k).foldl (fun s m=>(tk ns m m s).2) s'=M) (fun iv _=>ms.length - (intOf iv).toNat)
 case atStart=>exact ⟨0,s,Nat.zero_le _,rfl,H1.out,HV.out,by rw [List.drop_zero];exact HM.out⟩
 case round =>
  obtain ⟨k,s',hk,rfl,hT,hV,hE⟩:=hrel
  have HT:=hid hT
  have HV2:=hid hV
  have HE:=hid hE
  clear hT hE H1 HV HM
  by_cases hlt:k < ms.length
  ·have hlt':(k:Int) < (ms.length:Int):=by omega
   obtain ⟨g,vc',hve,_,_,_,hc⟩:=hV.form (by omega)
   simp only [Value.slice.injEq] at hve
   obtain ⟨rfl,_,rfl⟩:=hve
   have y:=hc k hlt
   have HE2:Hid ((ms.drop (k+1)).foldl (fun s m=>(tk ns m m s).2) (tk ns (ms.getD k 0) (ms.getD k 0) s').2=M):=by
    show _=M
    rw [<-HE.out,fold_drop _ ms k hlt]
   clear hc HE hV
   generalize ms.getD k 0=m at *
   go_wp2_with fail
   refine (HT.out.take m m).mono ?_
   rintro ex w2 ⟨rfl,hT2,k2⟩
   have HV3:IntsV w2 w.heap.size (.slice (some ⟨g,0,none⟩) ms.length vc) ms:=own_chg HV2.out k2 (fun g hg q=>own_ne HV2.out HT.out.bx (by decide) (by rw [hg,q]))
   have HX:Hid (TI W0 w2 tb img nv tv fv sv ns (tk ns m m s').2 R V rv rs/\IntsV w2 w.heap.size (.slice (some ⟨g,0,none⟩) ms.length vc) ms):=⟨hT2,HV3⟩
   clear hT2 k2 HV3 y
   go_wp2
   exact ⟨⟨k+1,_,by omega,by simp,HX.out.1,HX.out.2,HE2.out⟩,by simp [intOf];omega⟩
  ·have hkk:k=ms.length:=by omega
   have hlt':(ms.length:Int)<=(k:Int):=by omega
   have HE1:Hid (s'=M):=by
    show s'=M
    rw [<-HE.out,hkk,List.drop_eq_nil_of_le (Nat.le_refl _)];rfl
   clear HE HV2 hV
   have HT1:Hid (TI W0 wr tb img nv tv fv sv ns M R V rv rs):=by rw [<-HE1.out];exact HT.out
   clear HT HE1
   go_wp2_with fail
   refine (HT1.out.take 0 4000).mono ?_
   rw [HA.out]
   rintro ex w3 ⟨rfl,hT3,_⟩
   obtain ⟨x7,_,_,_,_,q7,_,_,_⟩:=hT3.at
   have H4:Hid (TI W0 (w3.setCell ⟨tb,7,none⟩ A.1) tb img nv tv fv sv ns A.2 { R with heap:=A.1 } V rv rs):=hT3.heap A.1
   clear hT3
   go_wp2_with fail
   clear x7 q7
   generalize w3.setCell ⟨tb,7,none⟩ A.1=w4 at *
   refine (H4.out.take 1 64).mono ?_
   rw [HB.out]
   rintro ex w5 ⟨rfl,hT5,_⟩
   obtain ⟨_,x8,_,_,_,_,q8,_,_⟩:=hT5.at
   have H6:Hid (TI W0 (w5.setCell ⟨tb,8,none⟩ B.1) tb img nv tv fv sv ns B.2 { R with heap:=A.1,depth:=B.1 } V rv rs):=hT5.depth B.1
   clear hT5 H4
   go_wp2_with fail
   clear x8 q8
   generalize w5.setCell ⟨tb,8,none⟩ B.1=w6 at *
   refine (H6.out.take 0 5).mono ?_
   rw [HC.out]
   rintro ex w7 ⟨rfl,hT7,_⟩
   obtain ⟨_,_,x9,_,_,_,_,q9,_⟩:=hT7.at
   have H8:Hid (TI W0 (w7.setCell ⟨tb,9,none⟩ C.1) tb img nv tv fv sv ns C.2 { R with heap:=A.1,depth:=B.1,status:=C.1 } V rv rs):=hT7.status C.1
   obtain ⟨_,_,y9,y2,_,_,_,_,z2⟩:=H8.out.at
   clear hT7 H6
   by_cases hz:C.1=2
   ·have hb:(C.1 == 2)=true:=by simp [hz]
    have H9:Hid (TI W0 _ tb img nv tv fv sv ns (C.2.1,true) _ V rv rs):=H8.out.stop
    have HD:Hid ((C.2.2 || decide (C.1=2))=true):=by show _=true;simp [hz]
    clear hz
    go_wp2
    refine bodyPost_end (v:=.tuple #[]) (by simp [results,Try.results36]) rfl ⟨rfl,?_⟩
    rw [HD.out]
    exact H9.out
   ·have hb:(C.1 == 2)=false:=by simp [hz]
    have HD:Hid ((C.2.2 || decide (C.1=2))=C.2.2):=by show _=C.2.2;simp [hz]
    clear hz
    go_wp2
    refine bodyPost_end (v:=.tuple #[]) (by simp [results,Try.results36]) rfl ⟨rfl,?_⟩
    rw [HD.out]
    exact H8.out
end
end Go.Proofs.Ytnfnbcbadakofab
namespace Go.Proofs.Ytnfnbcbadakofab
open Go.RowKit
set_option maxHeartbeats 2000000
set_option maxRecDepth 100000
theorem rcs_up (s:ByteArray) (tv fv sv iv:Value) (R:Rn) (V:RV) (f:Fr) (lu ku bv':Value) (bs:List Fr) (ys:List (Fr × Value × Value)) :
 (((((rcs s tv fv sv iv R V).setIfInBounds 9 (.int .i64 f.fn)).setIfInBounds 10 (.int .i64 f.pc)).setIfInBounds 11 lu).setIfInBounds 12 ku).setIfInBounds 8 bv'=rcs s tv fv sv iv { R with below:=bs,top:=f } ⟨V.wv,bv',lu,ku,V.ov,ys⟩:=by simp [rcs]
section
variable {W1 w:World} {rb:Nat} {s:ByteArray} {tv fv sv iv:Value} {R:Rn} {V:RV} {c:Cx}
theorem RI.last (h:RI W1 w rb s tv fv sv iv R V) {ys:List (Fr × Value × Value)} {x:Fr × Value × Value} (hx:V.xs=ys++[x]) :
 ∃ g bc,V.bv=.slice (some ⟨g,0,none⟩) (ys.length+1) bc/\ys.length+1<=bc/\bc<=maxLen/\w.cell? ⟨g,ys.length * 4,none⟩=some (.int .i64 x.1.fn)/\w.cell? ⟨g,ys.length * 4+1,none⟩=some (.int .i64 x.1.pc)/\w.cell? ⟨g,ys.length * 4+2,none⟩=some x.2.1/\w.cell? ⟨g,ys.length * 4+3,none⟩=some x.2.2/\w.ownsRow W1.heap.size 63 4 (.slice (some ⟨g,0,none⟩) ys.length bc) ys.length (frC ys):=by
 have hb:=h.bb
 rw [hx] at hb
 have hl:(ys++[x]).length=ys.length+1:=by simp
 rw [hl] at hb
 have hc:=fun g=>World.ownsRow.cells (g:=g) hb
 rcases hb.2 with ⟨_,h0⟩ | ⟨g,cap,cur,hv,hb',hgg,hle,hcap,_⟩
 ·omega
 ·rw [hv] at hc hb
  have hadd:∀ j,(⟨g,0,none⟩:Addr).add j=⟨g,j,none⟩:=by intro j;unfold Addr.add;split <;> simp_all
  have hj:ys.length < (ys++[x]).length:=by simp
  obtain ⟨k1,k2,k3,k4⟩:=frC_get (ys++[x]) ys.length hj
  have e:(ys++[x])[ys.length]=x:=by simp
  rw [e] at k1 k2 k3 k4
  have a1:=hc g rfl _ _ k1
  have a2:=hc g rfl _ _ k2
  have a3:=hc g rfl _ _ k3
  have a4:=hc g rfl _ _ k4
  rw [hadd] at a1 a2 a3 a4
  have ht:=row_take hb ys.length (by omega)
  rw [frC_take] at ht
  exact ⟨g,cap,hv,hle,hcap,a1,a2,a3,a4,ht⟩
theorem RI.pcs (h:RI W1 w rb s tv fv sv iv R V) (p:Int):RI W1 (w.setCell ⟨rb,10,none⟩ p) rb s tv fv sv iv { R with top:={ R.top with pc:=p } } V/\KR w (w.setCell ⟨rb,10,none⟩ p):=
 ⟨h.num (by simp [rcs]) rfl rfl rfl rfl rfl,KR.of ((Chg.refl (fun j=>j=rb) w).setCell ⟨rb,10,none⟩ _ (.inl rfl)) h.bx h.kk (fun j q=>.inl q)⟩
theorem gb_done (h:RI W1 w rb s tv fv sv iv R V) (hb:R.below=[]) (hkl:R.top.stack.length<=1000) (ho:R.out.length<=1000000):Calls Try.prog 60 #[.pointer rb] w (RunEnd W1 w rb s tv fv sv iv (gbP R)):=by
 have HM:Hid (gbP R = { R with top:=popF R.top,out:=R.out++[popV R.top.stack],status:=1 }):=dif_pos hb
 have H:=hid h
 clear h
 go_enter Try.func60,Try.ntmps60
 go_wp2_with fail
 refine (H.out.pop (by omega)).mono ?_
 rintro ex w2 ⟨rfl,k2,V2,g2⟩
 have x8:w2.cell? ⟨rb,8,none⟩=some V2.bv:=g2.bx.cell 8
 obtain ⟨ba,bc,hbv⟩:=row_slice g2.bb
 have hxl:V2.xs.length=0:=by
  have:=g2.be
  rw [show ({ R with top:=popF R.top }:Rn).below=R.below from rfl,hb] at this
  have:=congrArg List.length this
  simpa using this
 rw [hbv,hxl] at x8
 have G2:=hid g2
 clear g2 hbv hxl
 have x15:w2.cell? ⟨rb,15,none⟩=some V2.ov:=G2.out.bx.cell 15
 obtain ⟨oa,oc,hov⟩:=G2.out.oo.slice
 rw [hov] at x15
 have hrb:=G2.out.bx.lt
 have j1:Chg () w2 (w2.alloc (Obj.cells #[(popV R.top.stack:Int)] 3)):=(Chg.refl _ w2).alloc _
 have G3:=hid (G2.out.new j1)
 have HO:Hid (IntsV (w2.alloc (Obj.cells #[(popV R.top.stack:Int)] 3)) W1.heap.size (.slice oa R.out.length oc) R.out):=by
  show IntsV _ _ _ _
  rw [<-hov];exact G3.out.oo
 have hbs:=G3.out.base
 generalize hpv:popV R.top.stack=pv at *
 go_wp2_with (at_builtin;refine wp_appL rfl _ _ rfl W1.heap.size (.slice oa R.out.length oc) (.slice w2.heap.size 1 1) R.out [pv] rfl rfl ?h1 ?h2 ?h3 ?h4 ?_)
 case h1=>exact HO.out
 case h2=>exact lit_rd [pv] 1 rfl (by unfold maxLen;omega)
 case h3=>simp;omega
 case h4=>exact hbs
 intro a4 n4 c4 w4 hn4 hI4 hch4 hl4
 have hch4':Chg (fun j=>some j=V2.ov.ownBlock) (w2.alloc (Obj.cells #[pv] 3)) w4:=by rw [hov];exact hch4
 have hl4':Lies (w2.alloc (Obj.cells #[pv] 3)) V2.ov (.slice a4 n4 c4):=by rw [hov];exact hl4
 obtain ⟨hbk,g5,k5⟩:=G3.out.oapp hI4 hch4' hl4'
 have f15:=hbk.frozen 15
 have x154:w4.cell? ⟨rb,15,none⟩=some (.slice oa R.out.length oc):=by rw [<-hov];exact hbk.cell 15
 have HN4:=hid hn4
 obtain ⟨_,_,z6,r6⟩:=g5.wrap
 have g6:=g5.stat 1
 have G6:Hid _:=g6
 have K5:=((k2.trans (KR.new j1)).trans k5).trans g6.2
 clear hn4 hch4 hl4 hch4' hl4' g5 g6 x15 hbk
 go_wp2
 exact bodyPost_ret (v:=.tuple #[]) (by simp [results,Try.results60]) rfl ⟨rfl,K5,_,by rw [HM.out];exact G6.out.1⟩
theorem gb_up (h:RI W1 w rb s tv fv sv iv R V) (hb:R.below ≠ []) (hkl:R.top.stack.length<=1000) (hbl:R.below.length<=1000) (hfb:∀ f ∈ R.below,f.stack.length<=1000/\0<=f.pc/\f.pc<=1000):Calls Try.prog 60 #[.pointer rb] w (RunEnd W1 w rb s tv fv sv iv (gbP R)):=by
 have HM:Hid (gbP R = { R with below:=R.below.dropLast,top:={ pushF (R.below.getLast hb) (popV R.top.stack) with pc:=(R.below.getLast hb).pc+1 } }):=dif_neg hb
 have H:=hid h
 clear h
 go_enter Try.func60,Try.ntmps60
 go_wp2_with fail
 refine (H.out.pop (by omega)).mono ?_
 rintro ex w2 ⟨rfl,k2,V2,g2⟩
 have hbe:V2.xs.map (·.1)=R.below:=g2.be
 have hne:V2.xs ≠ []:=fun q=>hb (by rw [<-hbe,q];rfl)
 obtain ⟨ys,x,hx⟩:∃ ys x,V2.xs=ys++[x]:=⟨V2.xs.dropLast,V2.xs.getLast hne,(List.dropLast_concat_getLast hne).symm⟩
 have HD:Hid (R.below.dropLast=ys.map (·.1)):=by
  show R.below.dropLast=_
  rw [<-hbe,hx];simp
 have HG:Hid (R.below.getLast hb=x.1):=by
  show R.below.getLast hb=_
  have:∀ (l:List Fr) (hl:l ≠ []),l=ys.map (·.1)++[x.1]->l.getLast hl=x.1:=fun l hl e=>by subst e;simp
  exact this _ _ (by rw [<-hbe,hx];simp)
 have hyl:ys.length<=1000:=by
  have:R.below.length=ys.length+1:=by rw [<-hbe,hx];simp
  omega
 have hxf:=hfb x.1 (by rw [<-hbe,hx];simp)
 obtain ⟨g,bc,hbv,hle,hcm,c0,c1,c2,c3,hrow⟩:=g2.last hx
 obtain ⟨l1,l2⟩:=g2.xx x (by rw [hx];simp)
 obtain ⟨xf,xl,xk⟩:=x
 simp only at hxf HG c0 c1 c2 c3 l1 l2
 obtain ⟨la,lc,rfl⟩:=l1.slice
 obtain ⟨ka,kc,rfl⟩:=l2.slice
 have x8:w2.cell? ⟨rb,8,none⟩=some V2.bv:=g2.bx.cell 8
 rw [hbv] at x8
 have r9:w2.cell? ⟨rb,9,none⟩=some (.int .i64 R.top.fn):=g2.bx.cell 9
 have r10:w2.cell? ⟨rb,10,none⟩=some (.int .i64 R.top.pc):=g2.bx.cell 10
 have r11:w2.cell? ⟨rb,11,none⟩=some V2.lv:=g2.bx.cell 11
 have r12:w2.cell? ⟨rb,12,none⟩=some V2.kv:=g2.bx.cell 12
 have q8:=g2.bx.frozen 8
 have q9:=g2.bx.frozen 9
 have q10:=g2.bx.frozen 10
 have q11:=g2.bx.frozen 11
 have q12:=g2.bx.frozen 12
 have hgr:g ≠ rb:=fun q=>own_ne hrow g2.bx (by decide) (by rw [q];rfl)
 have k4:Chg (fun j=>j=rb) w2 (((((w2.setCell ⟨rb,9,none⟩ xf.fn).setCell ⟨rb,10,none⟩ xf.pc).setCell ⟨rb,11,none⟩ (.slice la xf.locals.length lc)).setCell ⟨rb,12,none⟩ (.slice ka xf.stack.length kc)).setCell ⟨rb,8,none⟩ (.slice g ys.length bc)):=(((((Chg.refl (fun j=>j=rb) _).setCell ⟨rb,_,none⟩ _ (.inl rfl)).setCell ⟨rb,_,none⟩ _ (.inl rfl)).setCell ⟨rb,_,none⟩ _ (.inl rfl)).setCell ⟨rb,_,none⟩ _ (.inl rfl)).setCell ⟨rb,_,none⟩ _ (.inl rfl)
 have b4:=((((g2.bx.set 9 (.int .i64 xf.fn)).set 10 (.int .i64 xf.pc)).set 11 (.slice la xf.locals.length lc)).set 12 (.slice ka xf.stack.length kc)).set 8 (.slice g ys.length bc)
 rw [rcs_up (bs:=ys.map (·.1)) (ys:=ys)] at b4
 have g5:=g2.up hx hrow k4 b4
 have G5:Hid _:=g5.1
 have K5:Hid _:=k2.trans g5.2
 have hbc':bc<=9223372036854775807:=by unfold maxLen at hcm;omega
 clear g5 g2 k4 b4 hrow hcm hx hbe hne l1 l2 hfb
 have e1:((ys.length+1:Nat):Int) - 1=(ys.length:Int):=by omega
 go_wp2_with fail
 refine (G5.out.push (popV R.top.stack) (by show xf.stack.length<=100000;omega)).mono ?_
 rintro ex w6 ⟨rfl,k6,V6,g6⟩
 have x10:w6.cell? ⟨rb,10,none⟩=some (.int .i64 xf.pc):=g6.bx.cell 10
 have q10':=g6.bx.frozen 10
 have g7:=g6.pcs (xf.pc+1)
 have G7:Hid _:=g7.1
 have K7:=(K5.out.trans k6).trans g7.2
 obtain ⟨_,hp0,hp1⟩:=hxf
 clear g6 g7 x8 r9 r10 r11 r12 q8 q9 q10 q11 q12 c0 c1 c2 c3 G5
 go_wp2
 refine bodyPost_end (v:=.tuple #[]) (by simp [results,Try.results60]) rfl ⟨rfl,K7,V6,?_⟩
 rw [HM.out,HD.out,HG.out]
 exact G7.out
theorem gb_any (h:RI W1 w rb s tv fv sv iv R V) (hkl:R.top.stack.length<=1000) (ho:R.out.length<=1000000) (hbl:R.below.length<=1000) (hfb:∀ f ∈ R.below,f.stack.length<=1000/\0<=f.pc/\f.pc<=1000):Calls Try.prog 60 #[.pointer rb] w (RunEnd W1 w rb s tv fv sv iv (gbP R)):=by
 by_cases hb:R.below=[]
 ·exact gb_done h hb hkl ho
 ·exact gb_up h hb hkl hbl hfb
end
end Go.Proofs.Ytnfnbcbadakofab
