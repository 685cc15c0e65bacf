import Derived.Test.YtnfnbcbadakofaaGreatRin
import Derived.Test.YtnfnbcbadakofaaGreatUve
namespace Go.Proofs.YtnfnbcbadakofaaGreat
open Go.RowKit
set_option maxHeartbeats 1000000
set_option maxRecDepth 100000
theorem dX (tv:Value) (ls:List (List Int)) (t:Int) (w:World) (base:Nat) (h:ai w base tv ls) (hn:ls.length<=10000) :
 ∃ u,ad w base u (flds ls t)/\∀ n,Calls Tryz.prog 48 #[tv,t] (w.drewN n) fun e w'=>e=.returned u/\w'=w.drewN n:=by
 by_cases ht:t < 1 \/ (ls.length:Int) < t
 ·obtain ⟨a,cap,rfl⟩:=h.slice
  refine ⟨.slice none 0 0,?_,fun n=>eA a _ cap t _ ht⟩
  unfold flds;rw [if_pos ht]
  exact World.ownsRow_nil _ _ _ _
 ·obtain ⟨j,rfl⟩:∃ j:Nat,t=(j:Int)+1:=⟨(t - 1).toNat,by omega⟩
  obtain ⟨g,cap,u,rfl,hle,hc,hu⟩:=h.cell j (by omega)
  obtain ⟨a,c,hs⟩:=hu.slice
  refine ⟨u,?_,fun n=>dT g _ cap j u _ (by omega) hn hc ⟨a,_,c,hs⟩⟩
  unfold flds;rw [if_neg ht]
  have e1:((j:Int)+1 - 1).toNat=j:=by omega
  rw [e1]
  exact hu
structure MI (S:Nat->Prop) (W2 w:World) (mb:Nat) (tv wv tov rv:Value) (m:Mv):Prop where
 ch:Chg S W2 w
 bx:Blk w mb #[tv,wv,tov,rv] 100
 nw:W2.heap.size<=mb
 tt:ad w W2.heap.size tov m.to
 rr:ad w W2.heap.size rv m.refs
 sp:Sep tov rv
def MRo (S:Nat->Prop) (W2:World) (tv wv:Value) (ls:List (List Int)) (frm:List Int):Prop:=∀ w,Chg S W2 w->ai w 0 tv ls/\ad w 0 wv frm
def MS (mb:Nat) (tov rv:Value) (j:Nat):Prop:=j=mb \/ some j=tov.ownBlock \/ some j=rv.ownBlock
def fU (S:Nat->Prop) (W2 w:World) (mb:Nat) (tv wv tov rv:Value) (r:Int × Mv) (ex:Ending) (w':World):Prop:=
 ex=.returned (.int .i64 r.1)/\∃ tov',MI S W2 w' mb tv wv tov' rv r.2/\bD w tov tov'/\Chg (MS mb tov rv) w w'
theorem lZ {ls:List (List Int)} {frm:List Int} {m:Mv} {ref:Int} (h:ref - 1 < 0 \/ (frm.length:Int)<=ref - 1):mvP ls frm m ref=(0,m):=by unfold mvP;rw [if_pos h]
theorem lR {ls:List (List Int)} {frm:List Int} {m:Mv} {a:Nat} (h:a < frm.length) (h2:m.refs.getD a 0 ≠ 0):mvP ls frm m ((a:Int)+1)=(m.refs.getD a 0,m):=by
 have e:((a:Int)+1 - 1).toNat=a:=by omega
 unfold mvP;rw [if_neg (by omega),e,if_pos h2]
theorem lL {ls:List (List Int)} {frm:List Int} {m:Mv} {a:Nat} (h:a < frm.length) (h2:m.refs.getD a 0=0) (h3:frm.length < a+1+(flds ls (frm.getD a 0)).length):mvP ls frm m ((a:Int)+1)=(0,m):=by
 have e:((a:Int)+1 - 1).toNat=a:=by omega
 unfold mvP;rw [if_neg (by omega),e,if_neg (by rw [h2];simp),if_pos (by omega)]
theorem lU {ls:List (List Int)} {frm:List Int} {m:Mv} {a:Nat} (h:a < frm.length) (h2:m.refs.getD a 0=0) (h3:a+1+(flds ls (frm.getD a 0)).length<=frm.length) :
 mvP ls frm m ((a:Int)+1)=((m.to.length:Int)+1,⟨m.to++(frm.drop a).take (1+(flds ls (frm.getD a 0)).length),m.refs.set a ((m.to.length:Int)+1)⟩):=by
 have e:((a:Int)+1 - 1).toNat=a:=by omega
 unfold mvP;rw [if_neg (by omega),e,if_neg (by rw [h2];simp),if_neg (by omega)]
section
variable {S:Nat->Prop} {W2 w:World} {mb:Nat} {tv wv tov rv:Value} {m:Mv} {ls:List (List Int)} {frm:List Int}
theorem oF (h:MI S W2 w mb tv wv tov rv m) (ro:MRo S W2 tv wv ls frm) (ref:Int) (h0:-1000000<=ref) (h1:ref<=1000000) (hr:ref - 1 < 0 \/ (frm.length:Int)<=ref - 1):Calls Tryz.prog 54 #[.pointer mb,ref] w (fU S W2 w mb tv wv tov rv (mvP ls frm m ref)):=by
 rw [lZ hr]
 have x1:w.cell? ⟨mb,1,none⟩=some wv:=h.bx.cell 1
 obtain ⟨wa,wc,rfl⟩:=(ro w h.ch).2.slice
 have HR:Hid (fU S W2 w mb tv (.slice wa frm.length wc) tov rv (0,m) (.returned (.int .i64 0)) w):=⟨rfl,tov,h,.refl _ _,Chg.refl _ _⟩
 clear h ro
 by_cases hn:ref - 1 < 0
 ·clear hr
  go_enter Tryz.func54,Tryz.ntmps54
  go_wp2
  go_ret
  exact HR.out
 ·have hr':(frm.length:Int)<=ref - 1:=by omega
  clear hr
  go_enter Tryz.func54,Tryz.ntmps54
  go_wp2
  go_ret
  exact HR.out
theorem ps (h:MI S W2 w mb tv wv tov rv m) (ro:MRo S W2 tv wv ls frm) (a:Nat) (ha:a < frm.length) (hl:frm.length<=10000) (hrl:m.refs.length=frm.length) (hne:m.refs.getD a 0 ≠ 0):Calls Tryz.prog 54 #[.pointer mb,((a:Int)+1:Int)] w (fU S W2 w mb tv wv tov rv (mvP ls frm m ((a:Int)+1))):=by
 rw [lR ha hne]
 have x1:w.cell? ⟨mb,1,none⟩=some wv:=h.bx.cell 1
 have x3:w.cell? ⟨mb,3,none⟩=some rv:=h.bx.cell 3
 obtain ⟨wa,wc,hwv⟩:=(ro w h.ch).2.slice
 rw [hwv] at x1
 obtain ⟨gr,rc,hrv,_,_,_,hc⟩:=h.rr.form (by omega)
 rw [hrv,hrl] at x3
 have y:=hc a (by omega)
 have HR:Hid (fU S W2 w mb tv wv tov rv (m.refs.getD a 0,m) (.returned (.int .i64 (m.refs.getD a 0))) w):=⟨rfl,tov,h,.refl _ _,Chg.refl _ _⟩
 have ha':(a:Int) < (frm.length:Int):=by omega
 clear h ro hc
 generalize m.refs.getD a 0=x at *
 go_enter Tryz.func54,Tryz.ntmps54
 go_wp2
 go_ret
 exact HR.out
theorem nU (h:MI S W2 w mb tv wv tov rv m) (ro:MRo S W2 tv wv ls frm) (a:Nat) (ha:a < frm.length) (hl:frm.length<=10000) (hrl:m.refs.length=frm.length) (he:m.refs.getD a 0=0) (hls:ls.length<=10000) (hbad:frm.length < a+1+(flds ls (frm.getD a 0)).length) (hf:(flds ls (frm.getD a 0)).length<=100):Calls Tryz.prog 54 #[.pointer mb,((a:Int)+1:Int)] w (fU S W2 w mb tv wv tov rv (mvP ls frm m ((a:Int)+1))):=by
 rw [lL ha he hbad]
 have x0:w.cell? ⟨mb,0,none⟩=some tv:=h.bx.cell 0
 have x1:w.cell? ⟨mb,1,none⟩=some wv:=h.bx.cell 1
 have x3:w.cell? ⟨mb,3,none⟩=some rv:=h.bx.cell 3
 obtain ⟨hty,hfr⟩:=ro w h.ch
 obtain ⟨gw,wc,hwv,_,_,_,hcw⟩:=hfr.form (by omega)
 rw [hwv] at x1
 obtain ⟨gr,rc,hrv,_,_,_,hc⟩:=h.rr.form (by omega)
 rw [hrv,hrl] at x3
 have y:=hc a (by omega)
 rw [he] at y
 have yw:=hcw a ha
 obtain ⟨u,hu,hq⟩:=dX tv ls (frm.getD a 0) w 0 hty hls
 obtain ⟨ua,uc,rfl⟩:=hu.slice
 obtain ⟨ta,tc,rfl⟩:=hty.slice
 have HR:Hid (fU S W2 w mb (.slice ta ls.length tc) wv tov rv (0,m) (.returned (.int .i64 0)) w):=⟨rfl,tov,h,.refl _ _,Chg.refl _ _⟩
 have HRn:Hid (∀ n,fU S W2 w mb (.slice ta ls.length tc) wv tov rv (0,m) (.returned (.int .i64 0)) (w.drewN n)):=fun n =>
  ⟨rfl,tov,⟨h.ch.drewN n,h.bx.drewN n,h.nw,aI h.tt n,aI h.rr n,h.sp⟩,.refl _ _,(Chg.refl _ _).drewN n⟩
 have ha':(a:Int) < (frm.length:Int):=by omega
 have hb':(frm.length:Int) < (a:Int)+1+((flds ls (frm.getD a 0)).length:Int):=by omega
 clear h ro hc hcw hu hfr hty HR
 generalize (flds ls (frm.getD a 0)).length=F at *
 generalize frm.getD a 0=t at *
 go_enter Tryz.func54,Tryz.ntmps54
 go_wp2
 go_quiet ((go_at_call 48;exact Calls.quiet_of_same (hq _)))
 go_wp2
 go_ret
 exact HRn.out _
end
end Go.Proofs.YtnfnbcbadakofaaGreat
namespace Go.Proofs.YtnfnbcbadakofaaGreat
open Go.RowKit
theorem pR {w:World} {base g n k cap:Nat} {l l':List Int} (hl:(aE l').length=k * 1) (h:w.ownsRow base 3 1 (.slice g (n+k) cap) (n+k) (aE l++aE l')) (hn:n=l.length:=by rfl):ad w base (.slice g (n+k) cap) (l++l'):=by
 subst hn
 have e:l'.length=k:=by simpa [aE] using hl
 subst e
 unfold ad;simpa [aE] using h
theorem bD.mono {w w2:World} {v v':Value} (h:bD w2 v v') (hs:w.heap.size<=w2.heap.size):bD w v v':=by
 rcases h with q | ⟨g,q,hg⟩
 ·exact .inl q
 ·exact .inr ⟨g,q,Nat.le_trans hs hg⟩
theorem bD.trans {w w2:World} {v v' v'':Value} (h:bD w v v') (h':bD w2 v' v'') (hs:w.heap.size<=w2.heap.size):bD w v v'':=by
 rcases h' with q | ⟨g,q,hg⟩
 ·rcases h with r | ⟨g,r,hg⟩
  ·exact .inl (q.trans r)
  ·exact .inr ⟨g,q.trans r,hg⟩
 ·exact .inr ⟨g,q,Nat.le_trans hs hg⟩
theorem pY {w:World} {p:Addr} {a:Option Addr} {n n' c:Nat} (e:n=n') (h:w.cell? p=some (.slice a n c)):w.cell? p=some (.slice a n' c):=by rw [<-e];exact h
theorem nH {w:World} {base gr n rc a:Nat} {l:List Int} {v:Int} (h:ad w base (.slice gr n rc) (l.set a v)) (ha:a < l.length):w.cell? ⟨gr,a,none⟩=some (.int .i64 v):=by
 obtain ⟨g,c,q,_,_,_,hc⟩:=h.form (by rw [List.length_set];omega)
 simp only [Value.slice.injEq,Option.some.injEq,Addr.mk.injEq] at q
 obtain ⟨⟨rfl,_⟩,_,_⟩:=q
 have:=hc a (by rw [List.length_set];exact ha)
 rw [this,List.getD_eq_getElem?_getD,List.getElem?_set_self ha];rfl
section
variable {S:Nat->Prop} {W2 w:World} {mb:Nat} {tv wv tov rv:Value} {m:Mv} {ls:List (List Int)} {frm:List Int}
theorem MI.drewN (h:MI S W2 w mb tv wv tov rv m) (n:Nat):MI S W2 (w.drewN n) mb tv wv tov rv m:=⟨h.ch.drewN n,h.bx.drewN n,h.nw,aI h.tt n,aI h.rr n,h.sp⟩
theorem MI.drew (h:MI S W2 w mb tv wv tov rv m):MI S W2 w.drew mb tv wv tov rv m:=⟨h.ch.drew,h.bx.drew,h.nw,aA h.tt,aA h.rr,h.sp⟩
theorem MI.note (h:MI S W2 w mb tv wv tov rv m) {g n c k:Nat} (hrv:rv=.slice g n c) (hk:k < m.refs.length) (v:Int):MI S W2 (w.setCell ⟨g,k,none⟩ v) mb tv wv tov rv ⟨m.to,m.refs.set k v⟩:=by
 subst hrv
 obtain ⟨cs,hb⟩:=ay h.rr (g:=g) rfl
 have hg:=(h.rr.lt g rfl).1
 refine ⟨h.ch.setCell _ _ (.inr hg),h.bx.setOther _ _ (h.bx.ne hb (by decide)),h.nw,aH h.tt _ _ (fun q=>h.sp g q rfl),h.rr.setIn k hk v,h.sp⟩
theorem MI.app (h:MI S W2 w mb tv wv tov rv m) {w4:World} {g n cap:Nat} {l':List Int} (hgrow:w.drew.grownBy w4 tov.ownBlock) (hown:ad w4 W2.heap.size (.slice g n cap) (m.to++l')) (hat:tov.ownBlock=some g \/ g=w.heap.size) :
 Blk w4 mb #[tv,wv,tov,rv] 100/\ad w4 W2.heap.size rv m.refs/\bD w tov (.slice g n cap)/\Chg (MS mb tov rv) w (w4.setCell ⟨mb,2,none⟩ (.slice g n cap)) /\
 MI S W2 (w4.setCell ⟨mb,2,none⟩ (.slice g n cap)) mb tv wv (.slice g n cap) rv ⟨m.to++l',m.refs⟩:=by
 have hL:bD w tov (.slice g n cap):=by
  rcases hat with q | q
  ·exact .inl q.symm
  ·exact .inr ⟨g,rfl,by omega⟩
 have k:Chg (fun j=>some j=tov.ownBlock) w w4:=((Chg.refl _ w).drew).grown hgrow (fun j hj=>.inl hj.symm)
 have b4:Blk w4 mb #[tv,wv,tov,rv] 100:=h.bx.chg k (fun q=>ao h.tt h.bx (by decide) q.symm)
 have r4:ad w4 W2.heap.size rv m.refs:=af h.rr k (fun g' hg' q=>h.sp g' q.symm hg')
 have c4:Chg S W2 w4:=h.ch.trans' k (fun i hi q=>by have:=(h.tt.lt i q.symm).1;omega)
 refine ⟨b4,r4,hL,(k.mono (fun _ _ q=>.inr (.inl q))).setCell _ _ (.inl (.inl rfl)),c4.setCell _ _ (.inr h.nw),b4.set 2 _,h.nw,aH hown _ _ (ao hown b4 (by decide)),aH r4 _ _ (ao r4 b4 (by decide)),?_⟩
 exact (h.sp.symm.lies hL h.rr.lts).symm
set_option maxHeartbeats 2000000 in
set_option maxRecDepth 100000 in
theorem pn (h:MI S W2 w mb tv wv tov rv m) (ro:MRo S W2 tv wv ls frm) (a:Nat) (ha:a < frm.length) (hl:frm.length<=10000) (hrl:m.refs.length=frm.length) (he:m.refs.getD a 0=0) (hls:ls.length<=10000) (htl:m.to.length<=100000) (hgood:a+1+(flds ls (frm.getD a 0)).length<=frm.length):Calls Tryz.prog 54 #[.pointer mb,((a:Int)+1:Int)] w (fU S W2 w mb tv wv tov rv (mvP ls frm m ((a:Int)+1))):=by
 rw [lU ha he hgood]
 have x0:w.cell? ⟨mb,0,none⟩=some tv:=h.bx.cell 0
 have x1:w.cell? ⟨mb,1,none⟩=some wv:=h.bx.cell 1
 have x2:w.cell? ⟨mb,2,none⟩=some tov:=h.bx.cell 2
 have x3:w.cell? ⟨mb,3,none⟩=some rv:=h.bx.cell 3
 obtain ⟨hty,hfr⟩:=ro w h.ch
 obtain ⟨gw,wc,rfl,_,hwle,hwm,hcw⟩:=hfr.form (by omega)
 obtain ⟨gr,rc,rfl,_,_,_,hc⟩:=h.rr.form (by omega)
 rw [hrl] at x3
 have y:=hc a (by omega)
 rw [he] at y
 have yw:=hcw a ha
 obtain ⟨u,hu,hq⟩:=dX tv ls (frm.getD a 0) w 0 hty hls
 obtain ⟨ua,uc,rfl⟩:=hu.slice
 obtain ⟨ta,tc,rfl⟩:=hty.slice
 obtain ⟨oa,oc,rfl⟩:=h.tt.slice
 have ha':(a:Int) < (frm.length:Int):=by omega
 have hb':(a:Int)+1+((flds ls (frm.getD a 0)).length:Int)<=(frm.length:Int):=by omega
 obtain ⟨rcs',hrb⟩:=ay h.rr (g:=gr) rfl
 have hfz:=hrb.frozen a
 have hmr:mb ≠ gr:=h.bx.ne hrb (by decide)
 have hgrl:=hrb.lt
 have hmbl:=h.bx.lt
 have H:=hid h
 have RO:=hid ro
 have HRL:=hid hrl
 clear h ro hc hcw hu hfr hty hrl hrb
 have HF:Hid ((frm.drop a).take (1+(flds ls (frm.getD a 0)).length)=(frm.drop a).take (1+(flds ls (frm.getD a 0)).length)):=rfl
 generalize hF:(flds ls (frm.getD a 0)).length=F at *
 clear hF HF
 generalize frm.getD a 0=t at *
 obtain ⟨E,hE⟩:∃ E:Nat,(a:Int)+1+(F:Int)=(E:Int):=⟨a+1+F,by omega⟩
 have hEN:(E:Int)<=(frm.length:Int):=by omega
 have hEn:E=a+1+F:=by omega
 have HEN:=hid hEn
 have haE:(a:Int)<=(E:Int):=by omega
 have haw:wc - a ≠ 0:=by omega
 have haw2:a < wc:=by omega
 have hEc:E<=wc:=by omega
 have haEn:a<=E:=by omega
 have hwa:¬ wc=a:=by omega
 clear hEn hb' hgood
 go_enter Tryz.func54,Tryz.ntmps54
 go_wp2
 go_quiet ((go_at_call 48;exact Calls.quiet_of_same (hq _)))
 have G:=H.out.drewN nq
 have x1':(w.drewN nq).cell? ⟨mb,1,none⟩=some (.slice gw frm.length wc):=x1
 have x2':(w.drewN nq).cell? ⟨mb,2,none⟩=some (.slice oa m.to.length oc):=x2
 have x3':(w.drewN nq).cell? ⟨mb,3,none⟩=some (.slice gr frm.length rc):=x3
 have y':(w.drewN nq).cell? ⟨gr,a,none⟩=some (.int .i64 0):=y
 have fz':(w.drewN nq).frozen? ⟨gr,a,none⟩=false:=hfz
 have hgrl':gr < (w.drewN nq).heap.size:=hgrl
 have kd:Chg (MS mb (.slice oa m.to.length oc) (.slice gr m.refs.length rc)) w (w.drewN nq):=(Chg.refl _ w).drewN nq
 clear hq x0 x1 x2 x3 y hfz hgrl yw H
 generalize hw1:w.drewN nq=w1 at *
 clear hw1
 have hal:a < m.refs.length:=by rw [HRL.out];exact ha
 have G2:MI S W2 (w1.setCell ⟨gr,a,none⟩ ((m.to.length:Int)+1:Int)).drew mb (.slice ta ls.length tc) (.slice gw frm.length wc) (.slice oa m.to.length oc) (.slice gr m.refs.length rc) ⟨m.to,m.refs.set a ((m.to.length:Int)+1)⟩:=(G.note rfl hal ((m.to.length:Int)+1)).drew
 have k2:Chg (MS mb (.slice oa m.to.length oc) (.slice gr m.refs.length rc)) w (w1.setCell ⟨gr,a,none⟩ ((m.to.length:Int)+1:Int)).drew:=(kd.setCell ⟨gr,a,none⟩ _ (.inl (.inr (.inr rfl)))).drew
 have z2:(w1.setCell ⟨gr,a,none⟩ ((m.to.length:Int)+1:Int)).drew.cell? ⟨mb,2,none⟩=some (.slice oa m.to.length oc):=G2.bx.cell 2
 have z3:(w1.setCell ⟨gr,a,none⟩ ((m.to.length:Int)+1:Int)).drew.cell? ⟨mb,3,none⟩=some (.slice gr m.refs.length rc):=G2.bx.cell 3
 rw [HRL.out] at z3
 go_wp2
 go_region_held3 (fun w'=>w'.cell? ⟨mb,2,none⟩=some (.slice oa m.to.length oc)/\w'.cell? ⟨mb,3,none⟩=some (.slice gr frm.length rc)) (go_keep) (first | (go_at_call 78;refine (gA _ (by omega) (by omega) _).mono ?_;rintro e w4 ⟨rfl,rfl⟩))
 clear x1' x2' x3' y' fz' hgrl' kd G
 generalize (w1.setCell ⟨gr,a,none⟩ ((m.to.length:Int)+1:Int)).drew=w2 at *
 have hfr:=(RO.out w2 G2.ch).2
 obtain ⟨gw',wc',q,_,_,_,hcw⟩:=hfr.form (by omega)
 simp only [Value.slice.injEq,Option.some.injEq,Addr.mk.injEq] at q
 obtain ⟨⟨rfl,_⟩,_,rfl⟩:=q
 have HNW:Hid (∀ j u,(aE ((frm.drop a).take (1+F)))[j]?=some u->w2.cell? ((⟨gw,a,none⟩:Addr).add j)=some u):=by
  show ∀ j u,_
  intro j u hu
  have hadd:(⟨gw,a,none⟩:Addr).add j=⟨gw,a+j,none⟩:=by unfold Addr.add;split <;> simp_all
  rw [hadd]
  have hE:=HEN.out
  have hj:j < ((frm.drop a).take (1+F)).length:=by
   rcases Nat.lt_or_ge j ((frm.drop a).take (1+F)).length with h | h
   ·exact h
   ·rw [List.getElem?_eq_none (by simpa [aE] using h)] at hu;cases hu
  have hj2:j < 1+F:=by rw [List.length_take] at hj;omega
  have hj3:a+j < frm.length:=by rw [List.length_take,List.length_drop] at hj;omega
  rw [hcw (a+j) hj3]
  unfold aE at hu
  rw [List.getElem?_map,List.getElem?_take_of_lt hj2,List.getElem?_drop,List.getElem?_eq_getElem hj3] at hu
  simp at hu
  rw [List.getD_eq_getElem?_getD,List.getElem?_eq_getElem hj3]
  simpa using hu
 have HLN:Hid ((aE ((frm.drop a).take (1+F))).length=(E - a) * 1):=by
  show _=_
  have hE:=HEN.out
  unfold aE
  rw [List.length_map,List.length_take,List.length_drop];omega
 have HTT:Hid (ad w2 W2.heap.size (.slice oa m.to.length oc) m.to):=G2.tt
 have HG2:=hid G2
 have hE1:1<=E - a:=by have:=HEN.out;omega
 have hE2:E - a<=10000:=by omega
 have hbs:=G2.ch.size
 have d1:w2.cell? ⟨mb,1,none⟩=some (.slice gw frm.length wc):=G2.bx.cell 1
 have hmb2:=G2.bx.lt
 obtain ⟨i,hi1,hi2,hi3,hi4⟩:=dK
 have Hi1:=hid hi1
 have Hi2:=hid hi2
 have Hi3:=hid hi3
 have Hi4:=hid hi4
 have hal2:a < m.refs.length:=hal
 clear hi1 hi2 hi3 hi4 G2 hcw hfr
 go_wp2
 go_region_law (refine step_append_lies _ rfl (.tmp 74) (.tmp 81) 23 rfl W2.heap.size 3 i (.int .i64 0) 1 8 Tryz.underlying23 Hi1.out Hi2.out Hi3.out Hi4.out rfl (by decide) (.slice oa m.to.length oc) m.to.length (aE m.to) (by simp [Act.eval,Act.put]) (by exact aA HTT.out) ⟨gw,a,none⟩ (E - a) (wc - a) (aE ((frm.drop a).take (1+F))) (by simp [Act.eval,Act.put]) HLN.out (by exact HNW.out) (by intro u hu;simp only [aE,List.mem_map] at hu;obtain ⟨y,_,rfl⟩:=hu;rfl) (by omega) (by unfold maxLen;omega) (by omega) (by simp;omega) w2.heap.size (by simp) ?_;intro g cap2 w4 hown hgrow hat hlt4;have hIo:ad w4 W2.heap.size (.slice g (m.to.length+(E - a)) cap2) (m.to++(frm.drop a).take (1+F)):=pR HLN.out hown;have hap:Hid _:=HG2.out.app hgrow hIo hat;have y4:w4.cell? ⟨mb,2,none⟩=some (.slice oa m.to.length oc):=hap.out.1.cell 2;have y5:w4.cell? ⟨mb,3,none⟩=some (.slice gr frm.length rc):=pY HRL.out (hap.out.1.cell 3);have y6:w4.cell? ⟨gr,a,none⟩=some (.int .i64 ((m.to.length:Int)+1)):=nH hap.out.2.1 hal2;have z4:=hap.out.1.frozen 2;clear hown hgrow hat)
 all_goals
  go_wp2
  go_ret
  exact ⟨rfl,_,hap.out.2.2.2.2,hap.out.2.2.1.mono k2.size,k2.trans hap.out.2.2.2.1⟩
end
end Go.Proofs.YtnfnbcbadakofaaGreat
