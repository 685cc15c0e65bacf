import Derived.Test.YtnfnbcbadakofaaGreatMov2
namespace Go.Proofs.YtnfnbcbadakofaaGreat
open Go.RowKit
structure MB (frm:List Int) (m:Mv):Prop where
 rl:m.refs.length=frm.length
 tl:m.to.length<=6 * m.refs.countP (fun x=>decide (x ≠ 0))
 tv:∀ v ∈ m.to,0<=v/\v<=100000
 rv:∀ v ∈ m.refs,0<=v/\v<=100000
theorem MB.le {frm:List Int} {m:Mv} (h:MB frm m):m.to.length<=6 * frm.length:=by
 have h1:=h.tl
 have h2:m.refs.countP (fun x=>decide (x ≠ 0))<=m.refs.length:=List.countP_le_length
 rw [h.rl] at h2
 omega
theorem MB.start (frm:List Int):MB frm ⟨[],List.replicate frm.length 0⟩:=by
 refine ⟨by simp,by simp,by simp,fun v hv=>?_⟩
 rw [List.mem_replicate] at hv;omega
theorem MB.mv {ls:List (List Int)} {frm:List Int} {m:Mv} (h:MB frm m) (hf:∀ v ∈ frm,0<=v/\v<=65535) (hl:frm.length<=4000) (h5:∀ t,(flds ls t).length<=5) (ref:Int):MB frm (mvP ls frm m ref).2/\0<=(mvP ls frm m ref).1/\(mvP ls frm m ref).1<=100000:=by
 by_cases h1:ref - 1 < 0 \/ (frm.length:Int)<=ref - 1
 ·rw [lZ h1];exact ⟨h,by simp,by simp⟩
 obtain ⟨a,rfl⟩:∃ a:Nat,ref=(a:Int)+1:=⟨(ref - 1).toNat,by omega⟩
 have ha:a < frm.length:=by omega
 have hra:a < m.refs.length:=by rw [h.rl];exact ha
 have hg:m.refs.getD a 0=m.refs[a]:=by rw [List.getD_eq_getElem?_getD,List.getElem?_eq_getElem hra];rfl
 by_cases h2:m.refs.getD a 0=0
 ·by_cases h3:frm.length < a+1+(flds ls (frm.getD a 0)).length
  ·rw [lL ha h2 h3];exact ⟨h,by simp,by simp⟩
  ·rw [lU ha h2 (by omega)]
   have hle:=h.le
   refine ⟨⟨by simp [h.rl],?_,?_,?_⟩,by simp only;omega,by simp only;omega⟩
   ·simp only
    have h0:m.refs[a]=0:=by rw [<-hg];exact h2
    have p0:decide (m.refs[a] ≠ 0)=false:=by simp [h0]
    have p1:decide ((m.to.length:Int)+1 ≠ 0)=true:=by simp;omega
    have ec:(m.refs.set a ((m.to.length:Int)+1)).countP (fun x=>decide (x ≠ 0))=m.refs.countP (fun x=>decide (x ≠ 0))+1:=by
     rw [List.countP_set hra,p0,p1];simp
    have hc:=h.tl
    have h55:=h5 (frm.getD a 0)
    rw [List.length_append,List.length_take,List.length_drop,ec]
    omega
   ·intro v hv
    simp only at hv
    rcases List.mem_append.1 hv with hv | hv
    ·exact h.tv v hv
    ·have:=hf v (List.mem_of_mem_drop (List.mem_of_mem_take hv));omega
   ·intro v hv
    simp only at hv
    rcases List.mem_or_eq_of_mem_set hv with hv | rfl
    ·exact h.rv v hv
    ·omega
 ·rw [lR ha h2]
  refine ⟨h,?_⟩
  rw [hg]
  exact h.rv _ (List.getElem_mem hra)
def cT (S:Nat->Prop) (W2:World):Prop:=∀ j cs e,Blk W2 j cs e->S j->e=60 \/ e=62
theorem cT.ints {S:Nat->Prop} {W2 w:World} (h:cT S W2) (k:Chg S W2 w) {b:Nat} {v:Value} {l:List Int} (hv:ad W2 b v l):ad w b v l:=
 hv.chg k (fun g cs hb hs=>by rcases h g cs 3 hb hs with q | q <;> exact absurd q (by decide))
theorem cT.ro {S:Nat->Prop} {W2:World} (h:cT S W2) {tv wv:Value} {ls:List (List Int)} {frm:List Int} (ht:ai W2 0 tv ls) (hw:ad W2 0 wv frm):MRo S W2 tv wv ls frm:=fun w k =>
 ⟨ht.chg k (fun g cs hb hs=>by rcases h g cs 3 hb hs with q | q <;> exact absurd q (by decide)) (fun g cs hb hs=>by rcases h g cs 23 hb hs with q | q <;> exact absurd q (by decide)),h.ints k hw⟩
section
variable {S:Nat->Prop} {W2 w:World} {mb:Nat} {tv wv tov rv:Value} {m:Mv} {ls:List (List Int)} {frm:List Int}
theorem jy (h:MI S W2 w mb tv wv tov rv m) (ro:MRo S W2 tv wv ls frm) (hb:MB frm m) (hl:frm.length<=4000) (hls:ls.length<=10000) (h5:∀ t,(flds ls t).length<=5) (ref:Int) (h0:0<=ref) (h1:ref<=100000) :
 Calls Tryz.prog 54 #[.pointer mb,ref] w (fU S W2 w mb tv wv tov rv (mvP ls frm m ref)):=by
 by_cases hr:ref - 1 < 0 \/ (frm.length:Int)<=ref - 1
 ·exact oF h ro ref (by omega) (by omega) hr
 obtain ⟨a,rfl⟩:∃ a:Nat,ref=(a:Int)+1:=⟨(ref - 1).toNat,by omega⟩
 have ha:a < frm.length:=by omega
 by_cases h2:m.refs.getD a 0=0
 ·have h55:=h5 (frm.getD a 0)
  by_cases h3:frm.length < a+1+(flds ls (frm.getD a 0)).length
  ·exact nU h ro a ha (by omega) hb.rl h2 hls h3 (by omega)
  ·have:=hb.le
   exact pn h ro a ha (by omega) hb.rl h2 hls (by omega) (by omega)
 ·exact ps h ro a ha (by omega) hb.rl h2
def sq (S:Nat->Prop) (W2 w:World) (mb:Nat) (tv wv tov rv:Value) (r:List Int × Mv) (ex:Ending) (w':World):Prop:=
 ∃ u tov',ex=.returned u/\ad w' w.heap.size u r.1/\Sep u tov'/\MI S W2 w' mb tv wv tov' rv r.2/\bD w tov tov'/\Chg (MS mb tov rv) w w'
theorem jT (ls:List (List Int)) (frm ks:List Int) (k:Nat) (v:Int) (vs:List Int) (m:Mv):mvL ls frm ks k (v::vs) m=((mv1 ls frm (aU ks k) v m).1::(mvL ls frm ks (k+1) vs (mv1 ls frm (aU ks k) v m).2).1,(mvL ls frm ks (k+1) vs (mv1 ls frm (aU ks k) v m).2).2):=rfl
theorem MS.lies {w':World} {tov':Value} (hL:bD w tov tov') (k:Chg (MS mb tov rv) w w') {w'':World} (k':Chg (MS mb tov' rv) w' w''):Chg (MS mb tov rv) w w'':=
 k.trans' k' (fun i hi q=>by
  rcases q with q | q | q
  ·exact .inl q
  ·rcases hL with r | ⟨g,r,hg⟩
   ·exact .inr (.inl (by rw [<-r];exact q))
   ·rw [r] at q;simp at q;omega
  ·exact .inr (.inr q))
theorem MI.new {w':World} (h:MI S W2 w mb tv wv tov rv m) (k:Chg () w w'):MI S W2 w' mb tv wv tov rv m:=
 ⟨h.ch.trans (k.mono (fun _ _ q=>q.elim)),h.bx.chg k (fun q=>q),h.nw,af h.tt k (fun _ _ q=>q),af h.rr k (fun _ _ q=>q),h.sp⟩
theorem MI.side {w':World} (h:MI S W2 w mb tv wv tov rv m) {u:Value} {l:List Int} (hu:ad w W2.heap.size u l) (hs1:Sep u tov) (hs2:Sep u rv) (k:Chg (fun j=>some j=u.ownBlock) w w'):MI S W2 w' mb tv wv tov rv m:=by
 refine ⟨h.ch.trans' k (fun i hi q=>by have:=(hu.lt i q.symm).1;omega),h.bx.chg k (fun q=>ao hu h.bx (by decide) q.symm),h.nw,af h.tt k (fun g hg q=>hs1 g q.symm hg),af h.rr k (fun g hg q=>hs2 g q.symm hg),h.sp⟩
theorem jv {W w4:World} {a:Option Addr} {n c:Nat} {u:Value} {L:List Int} {w0:World} {tov0:Value} (hM:MI S W2 W mb tv wv tov rv m) (hI:ad W w0.heap.size (.slice a n c) L) (hs:Sep (.slice a n c) tov) (hr:∀ g,rv.ownBlock=some g->g < w0.heap.size) (hb:W2.heap.size<=w0.heap.size)
 (k:Chg (fun j=>some j=(Value.slice a n c).ownBlock) W w4) (hl:bD W (.slice a n c) u) (kc:Chg (MS mb tov0 rv) w0 W):Sep u tov/\MI S W2 w4 mb tv wv tov rv m/\Chg (MS mb tov0 rv) w0 w4:=by
 have hsr:Sep (.slice a n c) rv:=(Sep.new hI hr).symm
 refine ⟨(hs.symm.lies hl hM.tt.lts).symm,hM.side (am hI hb) hs hsr k,?_⟩
 exact kc.trans' k (fun i hi q=>by have:=(hI.lt i q.symm).1;omega)
set_option maxHeartbeats 2000000 in
set_option maxRecDepth 100000 in
theorem fX (h:MI S W2 w mb tv wv tov rv m) (ro:MRo S W2 tv wv ls frm) (hS:cT S W2) (hb:MB frm m) (hfv:∀ v ∈ frm,0<=v/\v<=65535) (hl:frm.length<=4000) (hls:ls.length<=10000) (h5:∀ t,(flds ls t).length<=5)
 (va ka:Option Addr) (vc kc:Nat) (vs ks:List Int) (hv:ad W2 0 (.slice va vs.length vc) vs) (hk:ad W2 0 (.slice ka ks.length kc) ks) (hvb:∀ v ∈ vs,0<=v/\v<=65535) (hvl:vs.length<=1000) :
 Calls Tryz.prog 52 #[.pointer mb,.slice va vs.length vc,.slice ka ks.length kc] w (sq S W2 w mb tv wv tov rv (mvL ls frm ks 0 vs m)):=by
 have HV:=hid hv
 have HK:=hid hk
 have H0:=hid h
 have HB:=hid hb
 have HVB:=hid hvb
 have HFV:=hid hfv
 have H5:=hid h5
 have RO:=hid ro
 have HS:=hid hS
 obtain ⟨RR,hRR⟩:∃ r,mvL ls frm ks 0 vs m=r:=⟨_,rfl⟩
 rw [hRR]
 have HRR:=hid hRR
 clear hv hk h hb hvb hfv h5 ro hS hRR
 go_enter Tryz.func52,Tryz.ntmps52
 go_wp2
 go_loopw [7,12] (fun lv iv wr=>∃ (k n:Nat) (a:Option Addr) (c:Nat) (L:List Int) (m':Mv) (tov':Value),k<=vs.length/\iv=.int .i64 (k:Int)/\lv=.slice a n c/\ad wr w.heap.size (.slice a n c) L/\L.length=k/\Sep (.slice a n c) tov'/\MI S W2 wr mb tv wv tov' rv m'/\bD w tov tov'/\Chg (MS mb tov rv) w wr/\MB frm m'/\(L++(mvL ls frm ks k (vs.drop k) m').1,(mvL ls frm ks k (vs.drop k) m').2)=RR) (fun _ iv _=>vs.length - (intOf iv).toNat)
 case atStart=>exact ⟨0,0,none,0,[],m,tov,Nat.zero_le _,rfl,rfl,World.ownsRow_nil _ _ _ _,rfl,(Sep.nil tov).symm,H0.out,.refl _ _,Chg.refl _ _,HB.out,by rw [List.drop_zero];exact HRR.out⟩
 case round =>
  obtain ⟨k,n,a,c,L,m',tov',hk,rfl,rfl,hI,hLk,hsp,hM,hLi,hCh,hMB,hE⟩:=hrel
  have HI:=hid hI
  have HM:=hid hM
  have HSP:=hid hsp
  have HLI:=hid hLi
  have HCH:=hid hCh
  have HMB:=hid hMB
  have HE:=hid hE
  have HLK:=hid hLk
  clear hI hM hsp hLi hCh hMB hE hLk
  by_cases hlt:k < vs.length
  ·have hlt':(k:Int) < (vs.length:Int):=by omega
   obtain ⟨g,vc',hve,_,_,_,hc⟩:=(HS.out.ints HM.out.ch HV.out).form (by omega)
   simp only [Value.slice.injEq] at hve
   obtain ⟨rfl,_,rfl⟩:=hve
   have y:=hc k hlt
   have hvk:0<=vs.getD k 0/\vs.getD k 0<=65535:=by
    rw [List.getD_eq_getElem?_getD,List.getElem?_eq_getElem hlt];exact HVB.out _ (List.getElem_mem hlt)
   have HD:Hid (vs.drop k=vs.getD k 0::vs.drop (k+1)):=by
    show vs.drop k=vs.getD k 0::vs.drop (k+1)
    rw [List.drop_eq_getElem_cons hlt,List.getD_eq_getElem?_getD,List.getElem?_eq_getElem hlt];rfl
   clear hc
   generalize vs.getD k 0=v at *
   have hsz:=HCH.out.size
   have HKK:Hid (ad wr 0 (.slice ka ks.length kc) ks):=HS.out.ints HM.out.ch HK.out
   go_wp2_with fail
   refine (bq _ ks (k:Int) _ 0 HKK.out).mono ?_
   rintro ex w1 ⟨rfl,rfl⟩
   have HE2:Hid ((L++(mv1 ls frm (aU ks k) v m').1::(mvL ls frm ks (k+1) (vs.drop (k+1)) (mv1 ls frm (aU ks k) v m').2).1,(mvL ls frm ks (k+1) (vs.drop (k+1)) (mv1 ls frm (aU ks k) v m').2).2)=RR):=by
    show _=RR
    rw [<-HE.out,HD.out,jT]
   clear HE HD
   by_cases hz:aU ks (k:Int)=0
   ·have e1:mv1 ls frm (aU ks k) v m'=(v,m'):=by unfold mv1;rw [if_neg (by simp [hz])]
    rw [e1] at HE2
    clear e1
    have j1:Chg () w1 (w1.alloc (Obj.cells #[v] 3)):=(Chg.refl _ w1).alloc _
    have hLn:L.length<=1000:=by rw [HLK.out];omega
    go_wp2_with (at_builtin;refine bI rfl _ _ rfl w.heap.size (.slice a n c) (.slice w1.heap.size 1 1) L [v] rfl rfl ?h1 ?h2 ?h3 ?h4 ?_)
    case h1=>exact HI.out.chg j1 (fun _ _ _ e=>e)
    case h2=>exact bK [v] 1 rfl (by unfold maxLen;omega)
    case h3=>simp;omega
    case h4=>exact Nat.le_trans hsz j1.size
    intro a2 n2 c2 w4 hn2 hI2 hch2 hl2
    clear hn2
    have f1:=jv (HM.out.new j1) (HI.out.chg j1 (fun _ _ _ e=>e)) HSP.out H0.out.rr.lts H0.out.ch.size hch2 hl2 ((HCH.out).trans (j1.mono (fun _ _ q=>q.elim)))
    go_wp2
    exact ⟨⟨k+1,n2,a2,c2,L++[v],m',tov',by omega,rfl,rfl,hI2,by rw [List.length_append,HLK.out];rfl,f1.1,f1.2.1,HLI.out,f1.2.2,HMB.out,by rw [<-HE2.out];simp⟩,by simp [intOf];omega⟩
   ·have e1:mv1 ls frm (aU ks k) v m'=mvP ls frm m' v:=by unfold mv1;rw [if_pos hz]
    rw [e1] at HE2
    clear e1
    have hbn:(aU ks (k:Int) == 0)=false:=by simp [hz]
    go_wp2_with fail
    refine (jy HM.out RO.out HMB.out hl hls H5.out v hvk.1 (by omega)).mono ?_
    rintro ex w2 ⟨rfl,tov2,hM2,hL2,hC2⟩
    have HMB2:=HMB.out.mv (ls:=ls) HFV.out hl H5.out v
    have HI2:Hid (ad w2 w.heap.size (.slice a n c) L):=af HI.out hC2 (fun g' hg' q=>by
     rcases q with q | q | q
     ·exact ao HI.out HM.out.bx (by decide) (by rw [hg',q])
     ·exact HSP.out g' hg' q.symm
     ·have h1:=(HI.out.lt g' hg').1
      have h2:=H0.out.rr.lts g' q.symm
      omega)
    have HSP2:Hid (Sep (.slice a n c) tov2):=HSP.out.lies hL2 HI.out.lts
    have HLI2:Hid (bD w tov tov2):=HLI.out.trans hL2 HCH.out.size
    have HCH2:Hid (Chg (MS mb tov rv) w w2):=MS.lies HLI.out HCH.out hC2
    have HM2:=hid hM2
    have hsz2:=HCH2.out.size
    have MB2:Hid (MB frm (mvP ls frm m' v).2):=HMB2.1
    generalize hX:mvP ls frm m' v=X at *
    obtain ⟨x,mx⟩:=X
    simp only at *
    clear hM2 hL2 hC2 HI HSP HLI HCH HM HMB hX hsz hz hbn HMB2 HKK y
    have j1:Chg () w2 (w2.alloc (Obj.cells #[x] 3)):=(Chg.refl _ w2).alloc _
    have hLn:L.length<=1000:=by rw [HLK.out];omega
    go_wp2_with (at_builtin;refine bI rfl _ _ rfl w.heap.size (.slice a n c) (.slice w2.heap.size 1 1) L [x] rfl rfl ?h1 ?h2 ?h3 ?h4 ?_)
    case h1=>exact HI2.out.chg j1 (fun _ _ _ e=>e)
    case h2=>exact bK [x] 1 rfl (by unfold maxLen;omega)
    case h3=>simp;omega
    case h4=>exact Nat.le_trans hsz2 j1.size
    intro a2 n2 c2 w4 hn2 hI2 hch2 hl2
    clear hn2
    have f1:=jv (HM2.out.new j1) (HI2.out.chg j1 (fun _ _ _ e=>e)) HSP2.out H0.out.rr.lts H0.out.ch.size hch2 hl2 ((HCH2.out).trans (j1.mono (fun _ _ q=>q.elim)))
    go_wp2
    exact ⟨⟨k+1,n2,a2,c2,L++[x],mx,tov2,by omega,rfl,rfl,hI2,by rw [List.length_append,HLK.out];rfl,f1.1,f1.2.1,HLI2.out,f1.2.2,MB2.out,by rw [<-HE2.out];simp⟩,by simp [intOf];omega⟩
  ·have hkk:k=vs.length:=by omega
   have hlt':(vs.length:Int)<=(k:Int):=by omega
   have HE2:Hid ((L,m')=RR):=by
    show (L,m')=RR
    rw [<-HE.out,List.drop_eq_nil_of_le (by omega)];simp [mvL]
   clear HE
   go_wp2
   go_ret
   rw [<-HE2.out]
   exact ⟨_,tov',rfl,HI.out,HSP.out,HM.out,HLI.out,HCH.out⟩
end
end Go.Proofs.YtnfnbcbadakofaaGreat
namespace Go.Proofs.YtnfnbcbadakofaaGreat
open Go.RowKit
theorem cT.cell {S:Nat->Prop} {W2 w:World} (h:cT S W2) (k:Chg S W2 w) {g i:Nat} {cs:Array Value} {e:TypeId} (hb:Blk W2 g cs e) (h1:e ≠ 60) (h2:e ≠ 62):w.cell? ⟨g,i,none⟩=W2.cell? ⟨g,i,none⟩:=
 World.cell?_of_block (k.block g hb.lt (fun q=>by rcases h g cs e hb q with r | r;exact h1 r;exact h2 r))
theorem jE {S:Nat->Prop} {W2:World} (hS:cT S W2) (tv:Value) (ls:List (List Int)) (t:Int) (base:Nat) (h:ai W2 base tv ls) (hn:ls.length<=10000) :
 ∃ u,ad W2 base u (flds ls t)/\∀ w,Chg S W2 w->Calls Tryz.prog 48 #[tv,t] w fun e w'=>e=.returned u/\w'=w:=by
 by_cases ht:t < 1 \/ (ls.length:Int) < t
 ·obtain ⟨a,cap,rfl⟩:=h.slice
  refine ⟨.slice none 0 0,?_,fun w _=>eA a _ cap t _ ht⟩
  unfold flds;rw [if_pos ht]
  exact World.ownsRow_nil _ _ _ _
 ·obtain ⟨j,rfl⟩:∃ j:Nat,t=(j:Int)+1:=⟨(t - 1).toNat,by omega⟩
  have h':=h
  obtain ⟨vs,hrow,_⟩:=h'
  obtain ⟨g,cap,u,rfl,hle,hc,hu⟩:=h.cell j (by omega)
  obtain ⟨cs,hb⟩:=ay hrow (g:=g) rfl
  obtain ⟨a,c,hs⟩:=hu.slice
  refine ⟨u,?_,fun w k=>dT g _ cap j u _ (by omega) hn ((hS.cell k hb (by decide) (by decide)).trans hc) ⟨a,_,c,hs⟩⟩
  unfold flds;rw [if_neg ht]
  have e1:((j:Int)+1 - 1).toNat=j:=by omega
  rw [e1]
  exact hu
section
variable {S:Nat->Prop} {W2 w:World} {mb:Nat} {tv wv tov rv:Value} {m:Mv} {ls:List (List Int)} {frm:List Int}
theorem MI.setTo (h:MI S W2 w mb tv wv tov rv m) {g n c k:Nat} (ht:tov=.slice g n c) (hk:k < m.to.length) (v:Int):MI S W2 (w.setCell ⟨g,k,none⟩ v) mb tv wv tov rv ⟨m.to.set k v,m.refs⟩/\Chg (MS mb tov rv) w (w.setCell ⟨g,k,none⟩ v):=by
 subst ht
 obtain ⟨cs,hb⟩:=ay h.tt (g:=g) rfl
 have hg:=(h.tt.lt g rfl).1
 refine ⟨⟨h.ch.setCell _ _ (.inr hg),h.bx.setOther _ _ (h.bx.ne hb (by decide)),h.nw,h.tt.setIn k hk v,aH h.rr _ _ (fun q=>h.sp g rfl q),h.sp⟩,(Chg.refl _ w).setCell _ _ (.inl (.inr (.inl rfl)))⟩
theorem MB.set (h:MB frm m) (k:Nat) {v:Int} (h0:0<=v) (h1:v<=100000):MB frm ⟨m.to.set k v,m.refs⟩:=
 ⟨h.rl,by simpa using h.tl,fun x hx=>by rcases List.mem_or_eq_of_mem_set hx with q | rfl;exact h.tv x q;exact ⟨h0,h1⟩,h.rv⟩
def u4 (S:Nat->Prop) (W2 w:World) (mb:Nat) (tv wv tov rv:Value) (m':Mv) (ex:Ending) (w':World):Prop:=
 ex=.returned (.tuple #[])/\∃ tov',MI S W2 w' mb tv wv tov' rv m'/\bD w tov tov'/\Chg (MS mb tov rv) w w'
theorem uY {n k:Nat} {ks:List Int} {m:Mv} (hk:k < m.to.length):mvW ls frm (n+1) k ks 0 m=mvW ls frm n (k+1) (flds ls (m.to.getD k 0)) (flds ls (m.to.getD k 0)).length m:=by
 rw [mvW,if_pos hk,if_pos rfl]
theorem vk {n k l:Nat} {ks:List Int} {m:Mv} (hk:k < m.to.length) (hz:aU ks ((ks.length:Int) - ((l+1:Nat):Int))=0):mvW ls frm (n+1) k ks (l+1) m=mvW ls frm n (k+1) ks l m:=by
 rw [mvW,if_pos hk,if_neg (by omega),if_neg (by rw [hz];simp)];rfl
theorem tZ {n k l:Nat} {ks:List Int} {m:Mv} (hk:k < m.to.length) (hz:aU ks ((ks.length:Int) - ((l+1:Nat):Int)) ≠ 0):mvW ls frm (n+1) k ks (l+1) m=mvW ls frm n (k+1) ks l ⟨(mvP ls frm m (m.to.getD k 0)).2.to.set k (mvP ls frm m (m.to.getD k 0)).1,(mvP ls frm m (m.to.getD k 0)).2.refs⟩:=by
 rw [mvW,if_pos hk,if_neg (by omega),if_pos hz];rfl
theorem ug {n k l:Nat} {ks:List Int} {m:Mv} (hk:m.to.length<=k):mvW ls frm n k ks l m=m:=by
 cases n with
 | zero=>rfl
 | succ n=>rw [mvW,if_neg (by omega)]
theorem rZ (m:Mv) (ref:Int):m.to.length<=(mvP ls frm m ref).2.to.length:=by
 unfold mvP
 split
 ·exact Nat.le_refl _
 ·split
  ·exact Nat.le_refl _
  ·split
   ·exact Nat.le_refl _
   ·simp
set_option maxHeartbeats 2000000 in
set_option maxRecDepth 100000 in
theorem ig (h:MI S W2 w mb tv wv tov rv m) (hty:ai W2 0 tv ls) (hw:ad W2 0 wv frm) (hS:cT S W2) (hb:MB frm m) (hfv:∀ v ∈ frm,0<=v/\v<=65535) (hl:frm.length<=4000) (hls:ls.length<=10000) (h5:∀ t,(flds ls t).length<=5) :
 Calls Tryz.prog 32 #[.pointer mb] w (u4 S W2 w mb tv wv tov rv (mvW ls frm (6 * frm.length) 0 [] 0 m)):=by
 have H0:=hid h
 have HB:=hid hb
 have HFV:=hid hfv
 have H5:=hid h5
 have RO:Hid (MRo S W2 tv wv ls frm):=hS.ro hty hw
 have HS:=hid hS
 obtain ⟨RR,hRR⟩:∃ r,mvW ls frm (6 * frm.length) 0 [] 0 m=r:=⟨_,rfl⟩
 rw [hRR]
 have HRR:=hid hRR
 have HTY:=hid hty
 obtain ⟨ta,tc,rfl⟩:=hty.slice
 clear h hb hfv h5 hS hRR hw
 go_enter Tryz.func32,Tryz.ntmps32
 go_wp2
 go_loopw [2,3,4] (fun kv lv iv wr=>∃ (k n l:Nat) (ka:Option Addr) (kc:Nat) (ks:List Int) (m':Mv) (tov':Value),iv=.int .i64 (k:Int)/\lv=.int .i64 (l:Int)/\kv=.slice ka ks.length kc/\ad W2 0 (.slice ka ks.length kc) ks/\l<=ks.length/\ks.length<=5/\k<=m'.to.length/\6 * frm.length<=k+n/\MI S W2 wr mb (.slice ta ls.length tc) wv tov' rv m'/\bD w tov tov'/\Chg (MS mb tov rv) w wr/\MB frm m'/\mvW ls frm n k ks l m'=RR) (fun _ _ iv _=>6 * frm.length+1 - (intOf iv).toNat)
 case atStart=>exact ⟨0,6 * frm.length,0,none,0,[],m,tov,rfl,rfl,rfl,World.ownsRow_nil _ _ _ _,Nat.le_refl _,by simp,Nat.zero_le _,by omega,H0.out,.refl _ _,Chg.refl _ _,HB.out,HRR.out⟩
 case round =>
  obtain ⟨k,n,l,ka,kc,ks,m',tov',rfl,rfl,rfl,hks,hlk,hk5,hk,hn,hM,hLi,hCh,hMB,hE⟩:=hrel
  have HM:=hid hM
  have HLI:=hid hLi
  have HCH:=hid hCh
  have HMB:=hid hMB
  have HE:=hid hE
  have HKS:=hid hks
  have hle:=hMB.le
  have x0:wr.cell? ⟨mb,0,none⟩=some (.slice ta ls.length tc):=hM.bx.cell 0
  have x2:wr.cell? ⟨mb,2,none⟩=some tov':=hM.bx.cell 2
  have htt:=hM.tt
  clear hM hLi hCh hMB hE hks
  by_cases hlt:k < m'.to.length
  ·have hlt':(k:Int) < (m'.to.length:Int):=by omega
   obtain ⟨n,rfl⟩:∃ n',n=n'+1:=⟨n - 1,by omega⟩
   obtain ⟨gt,oc,rfl,_,_,_,hc⟩:=htt.form (by omega)
   have y:=hc k hlt
   have hvk:0<=m'.to.getD k 0/\m'.to.getD k 0<=100000:=by
    rw [List.getD_eq_getElem?_getD,List.getElem?_eq_getElem hlt];exact HMB.out.tv _ (List.getElem_mem hlt)
   clear hc htt
   cases l with
   | zero =>
    have HE2:Hid (mvW ls frm n (k+1) (flds ls (m'.to.getD k 0)) (flds ls (m'.to.getD k 0)).length m'=RR):=by
     show _=RR
     rw [<-HE.out,uY hlt]
    clear HE
    obtain ⟨u,hu,hq⟩:=jE HS.out (.slice ta ls.length tc) ls (m'.to.getD k 0) 0 HTY.out hls
    obtain ⟨ua,uc,rfl⟩:=hu.slice
    have h5':=H5.out (m'.to.getD k 0)
    have HU:=hid hu
    have HQ:=hid hq
    clear hu hq
    generalize flds ls (m'.to.getD k 0)=F at *
    generalize m'.to.getD k 0=v at *
    go_wp2_with fail
    refine (HQ.out _ HM.out.ch).mono ?_
    rintro ex w1 ⟨rfl,rfl⟩
    go_wp2
    exact ⟨⟨k+1,n,F.length,ua,uc,F,m',_,rfl,rfl,rfl,HU.out,Nat.le_refl _,h5',by omega,by omega,HM.out,HLI.out,HCH.out,HMB.out,HE2.out⟩,by simp [intOf];omega⟩
   | succ l =>
    have HKK:Hid (ad wr 0 (.slice ka ks.length kc) ks):=HS.out.ints HM.out.ch HKS.out
    have hl1:¬ ((l+1:Nat):Int)=0:=by omega
    obtain ⟨L,hL⟩:∃ L:Int,((l+1:Nat):Int)=L:=⟨_,rfl⟩
    have hL1:1<=L:=by omega
    have hL2:L<=5:=by omega
    have hL3:L - 1=(l:Int):=by omega
    have hLb:(L == 0)=false:=by simp;omega
    have HLL:=hid hL
    rw [hL]
    clear hL hl1
    by_cases hz:aU ks ((ks.length:Int) - L)=0
    ·have HE2:Hid (mvW ls frm n (k+1) ks l m'=RR):=by
      show _=RR
      rw [<-HE.out,vk hlt (by rw [HLL.out];exact hz)]
     clear HE
     generalize m'.to.getD k 0=v at *
     go_wp2_with fail
     refine (bq _ ks ((ks.length:Int) - L) _ 0 HKK.out).mono ?_
     rintro ex w1 ⟨rfl,rfl⟩
     go_wp2
     exact ⟨⟨k+1,n,l,ka,kc,ks,m',_,rfl,rfl,rfl,HKS.out,by omega,hk5,by omega,by omega,HM.out,HLI.out,HCH.out,HMB.out,HE2.out⟩,by simp [intOf];omega⟩
    ·have HE2:Hid (mvW ls frm n (k+1) ks l ⟨(mvP ls frm m' (m'.to.getD k 0)).2.to.set k (mvP ls frm m' (m'.to.getD k 0)).1,(mvP ls frm m' (m'.to.getD k 0)).2.refs⟩=RR):=by
      show _=RR
      rw [<-HE.out,tZ hlt (by rw [HLL.out];exact hz)]
     clear HE
     have hzb:(aU ks ((ks.length:Int) - L) == 0)=false:=by simp [hz]
     have MB2:=HMB.out.mv (ls:=ls) HFV.out hl H5.out (m'.to.getD k 0)
     have hln:=rZ (ls:=ls) (frm:=frm) m' (m'.to.getD k 0)
     generalize m'.to.getD k 0=v at *
     go_wp2_with fail
     refine (bq _ ks ((ks.length:Int) - L) _ 0 HKK.out).mono ?_
     rintro ex w1 ⟨rfl,rfl⟩
     go_wp2_with fail
     refine (jy HM.out RO.out HMB.out hl hls H5.out v hvk.1 hvk.2).mono ?_
     rintro ex w2 ⟨rfl,tov2,hM2,hL2',hC2⟩
     have HM2:=hid hM2
     have HLI2:Hid (bD w tov tov2):=HLI.out.trans hL2' HCH.out.size
     have HCH2:Hid (Chg (MS mb tov rv) w w2):=MS.lies HLI.out HCH.out hC2
     generalize mvP ls frm m' v=X at *
     obtain ⟨x,mx⟩:=X
     simp only at *
     have z2:w2.cell? ⟨mb,2,none⟩=some tov2:=hM2.bx.cell 2
     obtain ⟨g2,c2,rfl,_,_,_,hc2⟩:=hM2.tt.form (by omega)
     have y2:=hc2 k (by omega)
     obtain ⟨cs2,hb2⟩:=ay hM2.tt (g:=g2) rfl
     have f2:=hb2.frozen k
     have hk2:(k:Int) < (mx.to.length:Int):=by omega
     have hst:=hM2.setTo (k:=k) rfl (by omega) x
     have HST:Hid (MI S W2 (w2.setCell ⟨g2,k,none⟩ x) mb (.slice ta ls.length tc) wv (.slice g2 mx.to.length c2) rv ⟨mx.to.set k x,mx.refs⟩):=hst.1
     have HCH3:Hid (Chg (MS mb tov rv) w (w2.setCell ⟨g2,k,none⟩ x)):=MS.lies HLI2.out HCH2.out hst.2
     have HMB3:Hid (MB frm ⟨mx.to.set k x,mx.refs⟩):=MB2.1.set k MB2.2.1 MB2.2.2
     clear hM2 hL2' hC2 HM HCH HLI HMB hz hzb HKK y x0 x2 hb2 hc2 hst MB2 hvk
     go_wp2
     exact ⟨⟨k+1,n,l,ka,kc,ks,⟨mx.to.set k x,mx.refs⟩,_,rfl,rfl,rfl,HKS.out,by omega,hk5,by simp;omega,by omega,HST.out,HLI2.out,HCH3.out,HMB3.out,HE2.out⟩,by simp [intOf];omega⟩
  ·have hlt':(m'.to.length:Int)<=(k:Int):=by omega
   have HE2:Hid (m'=RR):=by
    show m'=RR
    rw [<-HE.out,ug (by omega)]
   clear HE
   obtain ⟨oa,oc,rfl⟩:=htt.slice
   clear htt
   go_wp2
   refine bodyPost_end (v:=.tuple #[]) (by simp [results,Tryz.results32]) rfl ⟨rfl,_,?_,HLI.out,HCH.out⟩
   rw [<-HE2.out];exact HM.out
end
end Go.Proofs.YtnfnbcbadakofaaGreat
namespace Go.Proofs.YtnfnbcbadakofaaGreat
open Go.RowKit
set_option maxHeartbeats 1000000
set_option maxRecDepth 100000
theorem dr {S:Nat->Prop} {W2:World} (hS:cT S W2) (v:Value) (fs:List Fn) (k:Int) (base:Nat) (h:aj 111 135 W2 base v fs) :
 ∃ la lc ca cc,ad W2 base (.slice la (aq fs k).locals.length lc) (aq fs k).locals/\bG 135 W2 base (.slice ca (aq fs k).code.length cc) (aq fs k).code/\∀ w,Chg S W2 w->Calls Tryz.prog 37 #[v,k] w fun e w'=>e=.returned (.agg #[.int .i64 (aq fs k).args,.slice la (aq fs k).locals.length lc,.int .i64 (aq fs k).result,.slice ca (aq fs k).code.length cc])/\Chg () w w':=by
 by_cases hk:0<=k/\k.toNat < fs.length
 ·obtain ⟨j,rfl⟩:∃ j:Nat,k=(j:Int):=⟨k.toNat,by omega⟩
  have h':=h
  obtain ⟨xs,hx0,hrow,_⟩:=h'
  obtain ⟨g,c,rfl,_,hc⟩:=h.formS (by omega)
  have hj:j < fs.length:=by omega
  have e1:aq fs (j:Int)=fs[j]:=by unfold aq;rw [dif_pos hk];rfl
  rw [e1]
  obtain ⟨lv,cv,h0,h1,h2,h3,hl,hi⟩:=hc j hj
  obtain ⟨la,lc,rfl⟩:=hl.slice
  obtain ⟨ca,cc,rfl⟩:=hi.slice
  have hlen:xs.length=fs.length:=by rw [<-hx0,List.length_map]
  rw [hlen] at hrow
  obtain ⟨cs,hb⟩:=ay hrow (g:=g) rfl
  refine ⟨la,lc,ca,cc,hl,hi,fun w k=>?_⟩
  have hcell:=fun i=>hS.cell (i:=i) k hb (by decide) (by decide)
  exact ij g _ c j _ lc _ cc la ca _ _ w hj (Nat.lt_of_lt_of_le hb.lt k.size) ((hcell _).trans h0) ((hcell _).trans h1) ((hcell _).trans h2) ((hcell _).trans h3)
 ·obtain ⟨a,c,rfl⟩:=h.slice
  have e1:aq fs k=⟨0,[],0,[]⟩:=by unfold aq;rw [dif_neg hk]
  rw [e1]
  exact ⟨none,0,none,0,World.ownsRow_nil _ _ _ _,World.ownsRow_nil _ _ _ _,fun w _=>iR a _ c k w (by omega)⟩
theorem mo (a:Option Addr) (n c:Nat) (f i:Int) (w:World) (h:f < 0 \/ (n:Int)<=f):Calls Tryz.prog 51 #[.slice a n c,f,i] w fun e w'=>e=.returned (.agg #[.bool false,()])/\Chg () w w':=by
 by_cases h1:f < 0
 ·clear h
  go_enter Tryz.func51,Tryz.ntmps51
  go_wp2
  exact bodyPost_ret (v:=.agg #[.bool false,()]) (by simp [results,Tryz.results51,go_sem]) rfl ⟨rfl,(Chg.refl _ w).alloc _⟩
 ·have h2:(n:Int)<=f:=by omega
  clear h
  go_enter Tryz.func51,Tryz.ntmps51
  go_wp2
  exact bodyPost_ret (v:=.agg #[.bool false,()]) (by simp [results,Tryz.results51,go_sem]) rfl ⟨rfl,(Chg.refl _ w).alloc _⟩
theorem mp (g n c k m mc:Nat) (ma:Option Addr) (i:Int) (w:World) (hk:k < n) (hc:w.cell? ⟨g,k,none⟩=some (.slice ma m mc)) (h:i < 0 \/ (m:Int)<=i):Calls Tryz.prog 51 #[.slice g n c,k,i] w fun e w'=>e=.returned (.agg #[.bool false,()])/\Chg () w w':=by
 have hk':(k:Int) < (n:Int):=by omega
 have hg:=World.block_lt_of_cell? w _ hc
 have hc':(w.alloc (Obj.cells #[.bool false,()] 138)).cell? ⟨g,k,none⟩=some (.slice ma m mc):=(World.cell?_of_block (Below.heap_alloc _ _ _ hg)).trans hc
 by_cases h1:i < 0
 ·clear h
  go_enter Tryz.func51,Tryz.ntmps51
  go_wp2
  exact bodyPost_ret (v:=.agg #[.bool false,()]) (by simp [results,Tryz.results51,go_sem]) rfl ⟨rfl,(Chg.refl _ w).alloc _⟩
 ·have h2:(m:Int)<=i:=by omega
  clear h
  go_enter Tryz.func51,Tryz.ntmps51
  go_wp2
  exact bodyPost_ret (v:=.agg #[.bool false,()]) (by simp [results,Tryz.results51,go_sem]) rfl ⟨rfl,(Chg.refl _ w).alloc _⟩
theorem gq {S:Nat->Prop} {W2:World} (hS:cT S W2) (v:Value) (sps:List aC) (f i:Int) (base:Nat) (h:bw W2 base v sps) :
 ∃ la lc,ad W2 base (.slice la (skP sps f i).length lc) (skP sps f i)/\∀ w,Chg S W2 w->Calls Tryz.prog 51 #[v,f,i] w fun e w'=>e=.returned (.agg #[.bool (spP sps f i).isSome,.slice la (skP sps f i).length lc])/\Chg () w w':=by
 have h':=h
 obtain ⟨vs,hrow,hvs⟩:=h'
 by_cases hf:f < 0 \/ (sps.length:Int)<=f
 ·obtain ⟨a,c,rfl⟩:=h.slice
  have e:spP sps f i=none:=if_pos hf
  have e2:skP sps f i=[]:=by unfold skP;rw [e];rfl
  rw [e,e2]
  exact ⟨none,0,World.ownsRow_nil _ _ _ _,fun w _=>mo a _ c f i w hf⟩
 ·obtain ⟨k,rfl⟩:∃ k:Nat,f=(k:Int):=⟨f.toNat,by omega⟩
  obtain ⟨g,c,rfl,_,hc⟩:=h.form (by omega)
  obtain ⟨x,hx,hs⟩:=hc k (by omega)
  obtain ⟨cs,hb⟩:=ay hrow (g:=g) rfl
  have hcell:=fun (w:World) (kk:Chg S W2 w) i=>hS.cell (i:=i) kk hb (by decide) (by decide)
  by_cases hi:i < 0 \/ ((sps.getD k []).length:Int)<=i
  ·obtain ⟨ma,mc,rfl⟩:=hs.slice
   have e:spP sps (k:Int) i=none:=by unfold spP;rw [if_neg hf];exact if_pos hi
   have e2:skP sps (k:Int) i=[]:=by unfold skP;rw [e];rfl
   rw [e,e2]
   exact ⟨none,0,World.ownsRow_nil _ _ _ _,fun w kk=>mp g _ c k _ mc ma i w (by omega) ((hcell w kk _).trans hx) hi⟩
  ·obtain ⟨j,rfl⟩:∃ j:Nat,i=(j:Int):=⟨i.toNat,by omega⟩
   have e:spP sps (k:Int) (j:Int)=(sps.getD k []).getD j none:=by unfold spP;rw [if_neg hf];exact if_neg hi
   have hs':=hs
   obtain ⟨xs,hxs,hrow2,_⟩:=hs'
   obtain ⟨g2,mc,rfl,_,hc2⟩:=hs.form (by omega)
   obtain ⟨y,h0,h1,hy⟩:=hc2 j (by omega)
   obtain ⟨ya,yc,rfl⟩:=hy.slice
   have hxl:xs.length=(sps.getD k []).length:=by rw [<-hxs,List.length_map]
   rw [hxl] at hrow2
   obtain ⟨cs2,hb2⟩:=ay hrow2 (g:=g2) rfl
   have hcell2:=fun (w:World) (kk:Chg S W2 w) i=>hS.cell (i:=i) kk hb2 (by decide) (by decide)
   have e2:skP sps (k:Int) (j:Int)=((sps.getD k []).getD j none).getD []:=by unfold skP;rw [e]
   rw [e,e2]
   exact ⟨ya,yc,hy,fun w kk=>kK g _ c k g2 _ mc j _ yc ya _ w (by omega) (by omega) ((hcell w kk _).trans hx) ((hcell2 w kk _).trans h0) ((hcell2 w kk _).trans h1)⟩
end Go.Proofs.YtnfnbcbadakofaaGreat
