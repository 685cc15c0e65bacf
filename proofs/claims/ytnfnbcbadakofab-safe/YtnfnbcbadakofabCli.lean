import Derived.Test.YtnfnbcbadakofabMov2
import Derived.Deep.RegionHeld3
import Derived.Test.YtnfnbcbadakofabStk
import Derived.Test.YtnfnbcbadakofabUvd
namespace Go.Proofs.Ytnfnbcbadakofab
open Go.RowKit
structure MB (frm:List Int) (m:Mv):Prop where
 rl:m.refs.length=frm.length
 tl:m.to.length<=6 * m.refs.countP (fun x=>decide (x ≠ 0))
 tv:∀ v ∈ m.to,0<=v/\v<=100000
 rv:∀ v ∈ m.refs,0<=v/\v<=100000
theorem MB.le {frm:List Int} {m:Mv} (h:MB frm m):m.to.length<=6 * frm.length:=by
 have h1:=h.tl
 have h2:m.refs.countP (fun x=>decide (x ≠ 0))<=m.refs.length:=List.countP_le_length
 rw [h.rl] at h2
 omega
theorem MB.start (frm:List Int):MB frm ⟨[],List.replicate frm.length 0⟩:=by
 refine ⟨by simp,by simp,by simp,fun v hv=>?_⟩
 rw [List.mem_replicate] at hv;omega
theorem MB.mv {ls:List (List Int)} {frm:List Int} {m:Mv} (h:MB frm m) (hf:∀ v ∈ frm,0<=v/\v<=65535) (hl:frm.length<=4000) (h5:∀ t,(flds ls t).length<=5) (ref:Int):MB frm (mvP ls frm m ref).2/\0<=(mvP ls frm m ref).1/\(mvP ls frm m ref).1<=100000:=by
 by_cases h1:ref - 1 < 0 \/ (frm.length:Int)<=ref - 1
 ·rw [mvP_out h1];exact ⟨h,by simp,by simp⟩
 obtain ⟨a,rfl⟩:∃ a:Nat,ref=(a:Int)+1:=⟨(ref - 1).toNat,by omega⟩
 have ha:a < frm.length:=by omega
 have hra:a < m.refs.length:=by rw [h.rl];exact ha
 have hg:m.refs.getD a 0=m.refs[a]:=by rw [List.getD_eq_getElem?_getD,List.getElem?_eq_getElem hra];rfl
 by_cases h2:m.refs.getD a 0=0
 ·by_cases h3:frm.length < a+1+(flds ls (frm.getD a 0)).length
  ·rw [mvP_bad ha h2 h3];exact ⟨h,by simp,by simp⟩
  ·rw [mvP_new ha h2 (by omega)]
   have hle:=h.le
   refine ⟨⟨by simp [h.rl],?_,?_,?_⟩,by simp only;omega,by simp only;omega⟩
   ·simp only
    have h0:m.refs[a]=0:=by rw [<-hg];exact h2
    have p0:decide (m.refs[a] ≠ 0)=false:=by simp [h0]
    have p1:decide ((m.to.length:Int)+1 ≠ 0)=true:=by simp;omega
    have ec:(m.refs.set a ((m.to.length:Int)+1)).countP (fun x=>decide (x ≠ 0))=m.refs.countP (fun x=>decide (x ≠ 0))+1:=by
     rw [List.countP_set hra,p0,p1];simp
    have hc:=h.tl
    have h55:=h5 (frm.getD a 0)
    rw [List.length_append,List.length_take,List.length_drop,ec]
    omega
   ·intro v hv
    simp only at hv
    rcases List.mem_append.1 hv with hv | hv
    ·exact h.tv v hv
    ·have:=hf v (List.mem_of_mem_drop (List.mem_of_mem_take hv));omega
   ·intro v hv
    simp only at hv
    rcases List.mem_or_eq_of_mem_set hv with hv | rfl
    ·exact h.rv v hv
    ·omega
 ·rw [mvP_old ha h2]
  refine ⟨h,?_⟩
  rw [hg]
  exact h.rv _ (List.getElem_mem hra)
def OnlyF (S:Nat->Prop) (W2:World):Prop:=∀ j cs e,Blk W2 j cs e->S j->e=63 \/ e=65
theorem OnlyF.ints {S:Nat->Prop} {W2 w:World} (h:OnlyF S W2) (k:Chg S W2 w) {b:Nat} {v:Value} {l:List Int} (hv:IntsV W2 b v l):IntsV w b v l:=
 hv.chg k (fun g cs hb hs=>by rcases h g cs 3 hb hs with q | q <;> exact absurd q (by decide))
theorem OnlyF.ro {S:Nat->Prop} {W2:World} (h:OnlyF S W2) {tv wv:Value} {ls:List (List Int)} {frm:List Int} (ht:TypesV W2 0 tv ls) (hw:IntsV W2 0 wv frm):MRo S W2 tv wv ls frm:=fun w k =>
 ⟨ht.chg k (fun g cs hb hs=>by rcases h g cs 3 hb hs with q | q <;> exact absurd q (by decide)) (fun g cs hb hs=>by rcases h g cs 24 hb hs with q | q <;> exact absurd q (by decide)),h.ints k hw⟩
section
variable {S:Nat->Prop} {W2 w:World} {mb:Nat} {tv wv tov rv:Value} {m:Mv} {ls:List (List Int)} {frm:List Int}
theorem move_any (h:MI S W2 w mb tv wv tov rv m) (ro:MRo S W2 tv wv ls frm) (hb:MB frm m) (hl:frm.length<=4000) (hls:ls.length<=10000) (h5:∀ t,(flds ls t).length<=5) (ref:Int) (h0:0<=ref) (h1:ref<=100000) :
 Calls Try.prog 66 #[.pointer mb,ref] w (MvEnd S W2 w mb tv wv tov rv (mvP ls frm m ref)):=by
 by_cases hr:ref - 1 < 0 \/ (frm.length:Int)<=ref - 1
 ·exact move_out h ro ref (by omega) (by omega) hr
 obtain ⟨a,rfl⟩:∃ a:Nat,ref=(a:Int)+1:=⟨(ref - 1).toNat,by omega⟩
 have ha:a < frm.length:=by omega
 by_cases h2:m.refs.getD a 0=0
 ·have h55:=h5 (frm.getD a 0)
  by_cases h3:frm.length < a+1+(flds ls (frm.getD a 0)).length
  ·exact move_bad h ro a ha (by omega) hb.rl h2 hls h3 (by omega)
  ·have:=hb.le
   exact move_new h ro a ha (by omega) hb.rl h2 hls (by omega) (by omega)
 ·exact move_old h ro a ha (by omega) hb.rl h2
def MlEnd (S:Nat->Prop) (W2 w:World) (mb:Nat) (tv wv tov rv:Value) (r:List Int × Mv) (ex:Ending) (w':World):Prop:=
 ∃ u tov',ex=.returned u/\IntsV w' w.heap.size u r.1/\Sep u tov'/\MI S W2 w' mb tv wv tov' rv r.2/\Lies w tov tov'/\Chg (MS mb tov rv) w w'
theorem mvL_cons (ls:List (List Int)) (frm ks:List Int) (k:Nat) (v:Int) (vs:List Int) (m:Mv):mvL ls frm ks k (v::vs) m=((mv1 ls frm (tyAt ks k) v m).1::(mvL ls frm ks (k+1) vs (mv1 ls frm (tyAt ks k) v m).2).1,(mvL ls frm ks (k+1) vs (mv1 ls frm (tyAt ks k) v m).2).2):=rfl
theorem MS.lies {w':World} {tov':Value} (hL:Lies w tov tov') (k:Chg (MS mb tov rv) w w') {w'':World} (k':Chg (MS mb tov' rv) w' w''):Chg (MS mb tov rv) w w'':=
 k.trans' k' (fun i hi q=>by
  rcases q with q | q | q
  ·exact .inl q
  ·rcases hL with r | ⟨g,r,hg⟩
   ·exact .inr (.inl (by rw [<-r];exact q))
   ·rw [r] at q;simp at q;omega
  ·exact .inr (.inr q))
theorem MI.new {w':World} (h:MI S W2 w mb tv wv tov rv m) (k:Chg () w w'):MI S W2 w' mb tv wv tov rv m:=
 ⟨h.ch.trans (k.mono (fun _ _ q=>q.elim)),h.bx.chg k (fun q=>q),h.nw,own_chg h.tt k (fun _ _ q=>q),own_chg h.rr k (fun _ _ q=>q),h.sp⟩
theorem MI.side {w':World} (h:MI S W2 w mb tv wv tov rv m) {u:Value} {l:List Int} (hu:IntsV w W2.heap.size u l) (hs1:Sep u tov) (hs2:Sep u rv) (k:Chg (fun j=>some j=u.ownBlock) w w'):MI S W2 w' mb tv wv tov rv m:=by
 refine ⟨h.ch.trans' k (fun i hi q=>by have:=(hu.lt i q.symm).1;omega),h.bx.chg k (fun q=>own_ne hu h.bx (by decide) q.symm),h.nw,own_chg h.tt k (fun g hg q=>hs1 g q.symm hg),own_chg h.rr k (fun g hg q=>hs2 g q.symm hg),h.sp⟩
theorem list_app {W w4:World} {a:Option Addr} {n c:Nat} {u:Value} {L:List Int} {w0:World} {tov0:Value} (hM:MI S W2 W mb tv wv tov rv m) (hI:IntsV W w0.heap.size (.slice a n c) L) (hs:Sep (.slice a n c) tov) (hr:∀ g,rv.ownBlock=some g->g < w0.heap.size) (hb:W2.heap.size<=w0.heap.size)
 (k:Chg (fun j=>some j=(Value.slice a n c).ownBlock) W w4) (hl:Lies W (.slice a n c) u) (kc:Chg (MS mb tov0 rv) w0 W):Sep u tov/\MI S W2 w4 mb tv wv tov rv m/\Chg (MS mb tov0 rv) w0 w4:=by
 have hsr:Sep (.slice a n c) rv:=(Sep.new hI hr).symm
 refine ⟨(hs.symm.lies hl hM.tt.lts).symm,hM.side (own_mono hI hb) hs hsr k,?_⟩
 exact kc.trans' k (fun i hi q=>by have:=(hI.lt i q.symm).1;omega)
set_option maxHeartbeats 2000000 in
set_option maxRecDepth 100000 in
theorem moveList_any (h:MI S W2 w mb tv wv tov rv m) (ro:MRo S W2 tv wv ls frm) (hS:OnlyF S W2) (hb:MB frm m) (hfv:∀ v ∈ frm,0<=v/\v<=65535) (hl:frm.length<=4000) (hls:ls.length<=10000) (h5:∀ t,(flds ls t).length<=5)
 (va ka:Option Addr) (vc kc:Nat) (vs ks:List Int) (hv:IntsV W2 0 (.slice va vs.length vc) vs) (hk:IntsV W2 0 (.slice ka ks.length kc) ks) (hvb:∀ v ∈ vs,0<=v/\v<=65535) (hvl:vs.length<=1000) :
 Calls Try.prog 64 #[.pointer mb,.slice va vs.length vc,.slice ka ks.length kc] w (MlEnd S W2 w mb tv wv tov rv (mvL ls frm ks 0 vs m)):=by
 have HV:=hid hv
 have HK:=hid hk
 have H0:=hid h
 have HB:=hid hb
 have HVB:=hid hvb
 have HFV:=hid hfv
 have H5:=hid h5
 have RO:=hid ro
 have HS:=hid hS
 obtain ⟨RR,hRR⟩:∃ r,mvL ls frm ks 0 vs m=r:=⟨_,rfl⟩
 rw [hRR]
 have HRR:=hid hRR
 clear hv hk h hb hvb hfv h5 ro hS hRR
 go_enter Try.func64,Try.ntmps64
 go_wp2
 go_loopw [7,12] (fun lv iv wr=>∃ (k n:Nat) (a:Option Addr) (c:Nat) (L:List Int) (m':Mv) (tov':Value),k<=vs.length/\iv=.int .i64 (k:Int)/\lv=.slice a n c/\IntsV wr w.heap.size (.slice a n c) L/\L.length=k/\Sep (.slice a n c) tov'/\MI S W2 wr mb tv wv tov' rv m'/\Lies w tov tov'/\Chg (MS mb tov rv) w wr/\MB frm m'/\(L++(mvL ls frm ks k (vs.drop k) m').1,(mvL ls frm ks k (vs.drop k) m').2)=RR) (fun _ iv _=>vs.length - (intOf iv).toNat)
 case atStart=>exact ⟨0,0,none,0,[],m,tov,Nat.zero_le _,rfl,rfl,World.ownsRow_nil _ _ _ _,rfl,(Sep.nil tov).symm,H0.out,.refl _ _,Chg.refl _ _,HB.out,by rw [List.drop_zero];exact HRR.out⟩
 case round =>
  obtain ⟨k,n,a,c,L,m',tov',hk,rfl,rfl,hI,hLk,hsp,hM,hLi,hCh,hMB,hE⟩:=hrel
  have HI:=hid hI
  have HM:=hid hM
  have HSP:=hid hsp
  have HLI:=hid hLi
  have HCH:=hid hCh
  have HMB:=hid hMB
  have HE:=hid hE
  have HLK:=hid hLk
  clear hI hM hsp hLi hCh hMB hE hLk
  by_cases hlt:k < vs.length
  ·have hlt':(k:Int) < (vs.length:Int):=by omega
   obtain ⟨g,vc',hve,_,_,_,hc⟩:=(HS.out.ints HM.out.ch HV.out).form (by omega)
   simp only [Value.slice.injEq] at hve
   obtain ⟨rfl,_,rfl⟩:=hve
   have y:=hc k hlt
   have hvk:0<=vs.getD k 0/\vs.getD k 0<=65535:=by
    rw [List.getD_eq_getElem?_getD,List.getElem?_eq_getElem hlt];exact HVB.out _ (List.getElem_mem hlt)
   have HD:Hid (vs.drop k=vs.getD k 0::vs.drop (k+1)):=by
    show vs.drop k=vs.getD k 0::vs.drop (k+1)
    rw [List.drop_eq_getElem_cons hlt,List.getD_eq_getElem?_getD,List.getElem?_eq_getElem hlt];rfl
   clear hc
   generalize vs.getD k 0=v at *
   have hsz:=HCH.out.size
   have HKK:Hid (IntsV wr 0 (.slice ka ks.length kc) ks):=HS.out.ints HM.out.ch HK.out
   go_wp2_with fail
   refine (typeAt_any _ ks (k:Int) _ 0 HKK.out).mono ?_
   rintro ex w1 ⟨rfl,rfl⟩
   have HE2:Hid ((L++(mv1 ls frm (tyAt ks k) v m').1::(mvL ls frm ks (k+1) (vs.drop (k+1)) (mv1 ls frm (tyAt ks k) v m').2).1,(mvL ls frm ks (k+1) (vs.drop (k+1)) (mv1 ls frm (tyAt ks k) v m').2).2)=RR):=by
    show _=RR
    rw [<-HE.out,HD.out,mvL_cons]
   clear HE HD
   by_cases hz:tyAt ks (k:Int)=0
   ·have e1:mv1 ls frm (tyAt ks k) v m'=(v,m'):=by unfold mv1;rw [if_neg (by simp [hz])]
    rw [e1] at HE2
    clear e1
    have j1:Chg () w1 (w1.alloc (Obj.cells #[v] 3)):=(Chg.refl _ w1).alloc _
    have hLn:L.length<=1000:=by rw [HLK.out];omega
    go_wp2_with (at_builtin;refine wp_appL rfl _ _ rfl w.heap.size (.slice a n c) (.slice w1.heap.size 1 1) L [v] rfl rfl ?h1 ?h2 ?h3 ?h4 ?_)
    case h1=>exact HI.out.chg j1 (fun _ _ _ e=>e)
    case h2=>exact lit_rd [v] 1 rfl (by unfold maxLen;omega)
    case h3=>simp;omega
    case h4=>exact Nat.le_trans hsz j1.size
    intro a2 n2 c2 w4 hn2 hI2 hch2 hl2
    clear hn2
    have f1:=list_app (HM.out.new j1) (HI.out.chg j1 (fun _ _ _ e=>e)) HSP.out H0.out.rr.lts H0.out.ch.size hch2 hl2 ((HCH.out).trans (j1.mono (fun _ _ q=>q.elim)))
    go_wp2
    exact ⟨⟨k+1,n2,a2,c2,L++[v],m',tov',by omega,rfl,rfl,hI2,by rw [List.length_append,HLK.out];rfl,f1.1,f1.2.1,HLI.out,f1.2.2,HMB.out,by rw [<-HE2.out];simp⟩,by simp [intOf];omega⟩
   ·have e1:mv1 ls frm (tyAt ks k) v m'=mvP ls frm m' v:=by unfold mv1;rw [if_pos hz]
    rw [e1] at HE2
    clear e1
    have hbn:(tyAt ks (k:Int) == 0)=false:=by simp [hz]
    go_wp2_with fail
    refine (move_any HM.out RO.out HMB.out hl hls H5.out v hvk.1 (by omega)).mono ?_
    rintro ex w2 ⟨rfl,tov2,hM2,hL2,hC2⟩
    have HMB2:=HMB.out.mv (ls:=ls) HFV.out hl H5.out v
    have HI2:Hid (IntsV w2 w.heap.size (.slice a n c) L):=own_chg HI.out hC2 (fun g' hg' q=>by
     rcases q with q | q | q
     ·exact own_ne HI.out HM.out.bx (by decide) (by rw [hg',q])
     ·exact HSP.out g' hg' q.symm
     ·have h1:=(HI.out.lt g' hg').1
      have h2:=H0.out.rr.lts g' q.symm
      omega)
    have HSP2:Hid (Sep (.slice a n c) tov2):=HSP.out.lies hL2 HI.out.lts
    have HLI2:Hid (Lies w tov tov2):=HLI.out.trans hL2 HCH.out.size
    have HCH2:Hid (Chg (MS mb tov rv) w w2):=MS.lies HLI.out HCH.out hC2
    have HM2:=hid hM2
    have hsz2:=HCH2.out.size
    have MB2:Hid (MB frm (mvP ls frm m' v).2):=HMB2.1
    generalize hX:mvP ls frm m' v=X at *
    obtain ⟨x,mx⟩:=X
    simp only at *
    clear hM2 hL2 hC2 HI HSP HLI HCH HM HMB hX hsz hz hbn HMB2 HKK y
    have j1:Chg () w2 (w2.alloc (Obj.cells #[x] 3)):=(Chg.refl _ w2).alloc _
    have hLn:L.length<=1000:=by rw [HLK.out];omega
    go_wp2_with (at_builtin;refine wp_appL rfl _ _ rfl w.heap.size (.slice a n c) (.slice w2.heap.size 1 1) L [x] rfl rfl ?h1 ?h2 ?h3 ?h4 ?_)
    case h1=>exact HI2.out.chg j1 (fun _ _ _ e=>e)
    case h2=>exact lit_rd [x] 1 rfl (by unfold maxLen;omega)
    case h3=>simp;omega
    case h4=>exact Nat.le_trans hsz2 j1.size
    intro a2 n2 c2 w4 hn2 hI2 hch2 hl2
    clear hn2
    have f1:=list_app (HM2.out.new j1) (HI2.out.chg j1 (fun _ _ _ e=>e)) HSP2.out H0.out.rr.lts H0.out.ch.size hch2 hl2 ((HCH2.out).trans (j1.mono (fun _ _ q=>q.elim)))
    go_wp2
    exact ⟨⟨k+1,n2,a2,c2,L++[x],mx,tov2,by omega,rfl,rfl,hI2,by rw [List.length_append,HLK.out];rfl,f1.1,f1.2.1,HLI2.out,f1.2.2,MB2.out,by rw [<-HE2.out];simp⟩,by simp [intOf];omega⟩
  ·have hkk:k=vs.length:=by omega
   have hlt':(vs.length:Int)<=(k:Int):=by omega
   have HE2:Hid ((L,m')=RR):=by
    show (L,m')=RR
    rw [<-HE.out,List.drop_eq_nil_of_le (by omega)];simp [mvL]
   clear HE
   go_wp2
   go_ret
   rw [<-HE2.out]
   exact ⟨_,tov',rfl,HI.out,HSP.out,HM.out,HLI.out,HCH.out⟩
end
end Go.Proofs.Ytnfnbcbadakofab
namespace Go.Proofs.Ytnfnbcbadakofab
open Go.RowKit
theorem OnlyF.cell {S:Nat->Prop} {W2 w:World} (h:OnlyF S W2) (k:Chg S W2 w) {g i:Nat} {cs:Array Value} {e:TypeId} (hb:Blk W2 g cs e) (h1:e ≠ 63) (h2:e ≠ 65):w.cell? ⟨g,i,none⟩=W2.cell? ⟨g,i,none⟩:=
 World.cell?_of_block (k.block g hb.lt (fun q=>by rcases h g cs e hb q with r | r;exact h1 r;exact h2 r))
theorem fieldsOf_ro {S:Nat->Prop} {W2:World} (hS:OnlyF S W2) (tv:Value) (ls:List (List Int)) (t:Int) (base:Nat) (h:TypesV W2 base tv ls) (hn:ls.length<=10000) :
 ∃ u,IntsV W2 base u (flds ls t)/\∀ w,Chg S W2 w->Calls Try.prog 56 #[tv,t] w fun e w'=>e=.returned u/\w'=w:=by
 by_cases ht:t < 1 \/ (ls.length:Int) < t
 ·obtain ⟨a,cap,rfl⟩:=h.slice
  refine ⟨.slice none 0 0,?_,fun w _=>fieldsOf_no a _ cap t _ ht⟩
  unfold flds;rw [if_pos ht]
  exact World.ownsRow_nil _ _ _ _
 ·obtain ⟨j,rfl⟩:∃ j:Nat,t=(j:Int)+1:=⟨(t - 1).toNat,by omega⟩
  have h':=h
  obtain ⟨vs,hrow,_⟩:=h'
  obtain ⟨g,cap,u,rfl,hle,hc,hu⟩:=h.cell j (by omega)
  obtain ⟨cs,hb⟩:=own_blk hrow (g:=g) rfl
  obtain ⟨a,c,hs⟩:=hu.slice
  refine ⟨u,?_,fun w k=>fieldsOf_yes g _ cap j u _ (by omega) hn ((hS.cell k hb (by decide) (by decide)).trans hc) ⟨a,_,c,hs⟩⟩
  unfold flds;rw [if_neg ht]
  have e1:((j:Int)+1 - 1).toNat=j:=by omega
  rw [e1]
  exact hu
section
variable {S:Nat->Prop} {W2 w:World} {mb:Nat} {tv wv tov rv:Value} {m:Mv} {ls:List (List Int)} {frm:List Int}
theorem MI.setTo (h:MI S W2 w mb tv wv tov rv m) {g n c k:Nat} (ht:tov=.slice g n c) (hk:k < m.to.length) (v:Int):MI S W2 (w.setCell ⟨g,k,none⟩ v) mb tv wv tov rv ⟨m.to.set k v,m.refs⟩/\Chg (MS mb tov rv) w (w.setCell ⟨g,k,none⟩ v):=by
 subst ht
 obtain ⟨cs,hb⟩:=own_blk h.tt (g:=g) rfl
 have hg:=(h.tt.lt g rfl).1
 refine ⟨⟨h.ch.setCell _ _ (.inr hg),h.bx.setOther _ _ (h.bx.ne hb (by decide)),h.nw,h.tt.setIn k hk v,own_set h.rr _ _ (fun q=>h.sp g rfl q),h.sp⟩,(Chg.refl _ w).setCell _ _ (.inl (.inr (.inl rfl)))⟩
theorem MB.set (h:MB frm m) (k:Nat) {v:Int} (h0:0<=v) (h1:v<=100000):MB frm ⟨m.to.set k v,m.refs⟩:=
 ⟨h.rl,by simpa using h.tl,fun x hx=>by rcases List.mem_or_eq_of_mem_set hx with q | rfl;exact h.tv x q;exact ⟨h0,h1⟩,h.rv⟩
def MfEnd (S:Nat->Prop) (W2 w:World) (mb:Nat) (tv wv tov rv:Value) (m':Mv) (ex:Ending) (w':World):Prop:=
 ex=.returned (.tuple #[])/\∃ tov',MI S W2 w' mb tv wv tov' rv m'/\Lies w tov tov'/\Chg (MS mb tov rv) w w'
theorem mvW_0 {n k:Nat} {ks:List Int} {m:Mv} (hk:k < m.to.length):mvW ls frm (n+1) k ks 0 m=mvW ls frm n (k+1) (flds ls (m.to.getD k 0)) (flds ls (m.to.getD k 0)).length m:=by
 rw [mvW,if_pos hk,if_pos rfl]
theorem mvW_n {n k l:Nat} {ks:List Int} {m:Mv} (hk:k < m.to.length) (hz:tyAt ks ((ks.length:Int) - ((l+1:Nat):Int))=0):mvW ls frm (n+1) k ks (l+1) m=mvW ls frm n (k+1) ks l m:=by
 rw [mvW,if_pos hk,if_neg (by omega),if_neg (by rw [hz];simp)];rfl
theorem mvW_r {n k l:Nat} {ks:List Int} {m:Mv} (hk:k < m.to.length) (hz:tyAt ks ((ks.length:Int) - ((l+1:Nat):Int)) ≠ 0):mvW ls frm (n+1) k ks (l+1) m=mvW ls frm n (k+1) ks l ⟨(mvP ls frm m (m.to.getD k 0)).2.to.set k (mvP ls frm m (m.to.getD k 0)).1,(mvP ls frm m (m.to.getD k 0)).2.refs⟩:=by
 rw [mvW,if_pos hk,if_neg (by omega),if_pos hz];rfl
theorem mvW_e {n k l:Nat} {ks:List Int} {m:Mv} (hk:m.to.length<=k):mvW ls frm n k ks l m=m:=by
 cases n with
 | zero=>rfl
 | succ n=>rw [mvW,if_neg (by omega)]
theorem mvP_len (m:Mv) (ref:Int):m.to.length<=(mvP ls frm m ref).2.to.length:=by
 unfold mvP
 split
 ·exact Nat.le_refl _
 ·split
  ·exact Nat.le_refl _
  ·split
   ·exact Nat.le_refl _
   ·simp
set_option maxHeartbeats 2000000 in
set_option maxRecDepth 100000 in
theorem moveFields_any (h:MI S W2 w mb tv wv tov rv m) (hty:TypesV W2 0 tv ls) (hw:IntsV W2 0 wv frm) (hS:OnlyF S W2) (hb:MB frm m) (hfv:∀ v ∈ frm,0<=v/\v<=65535) (hl:frm.length<=4000) (hls:ls.length<=10000) (h5:∀ t,(flds ls t).length<=5) :
 Calls Try.prog 42 #[.pointer mb] w (MfEnd S W2 w mb tv wv tov rv (mvW ls frm (6 * frm.length) 0 [] 0 m)):=by
 have H0:=hid h
 have HB:=hid hb
 have HFV:=hid hfv
 have H5:=hid h5
 have RO:Hid (MRo S W2 tv wv ls frm):=hS.ro hty hw
 have HS:=hid hS
 obtain ⟨RR,hRR⟩:∃ r,mvW ls frm (6 * frm.length) 0 [] 0 m=r:=⟨_,rfl⟩
 rw [hRR]
 have HRR:=hid hRR
 have HTY:=hid hty
 obtain ⟨ta,tc,rfl⟩:=hty.slice
 clear h hb hfv h5 hS hRR hw
 go_enter Try.func42,Try.ntmps42
 go_wp2
 go_loopw [2,3,4] (fun kv lv iv wr=>∃ (k n l:Nat) (ka:Option Addr) (kc:Nat) (ks:List Int) (m':Mv) (tov':Value),iv=.int .i64 (k:Int)/\lv=.int .i64 (l:Int)/\kv=.slice ka ks.length kc/\IntsV W2 0 (.slice ka ks.length kc) ks/\l<=ks.length/\ks.length<=5/\k<=m'.to.length/\6 * frm.length<=k+n/\MI S W2 wr mb (.slice ta ls.length tc) wv tov' rv m'/\Lies w tov tov'/\Chg (MS mb tov rv) w wr/\MB frm m'/\mvW ls frm n k ks l m'=RR) (fun _ _ iv _=>6 * frm.length+1 - (intOf iv).toNat)
 case atStart=>exact ⟨0,6 * frm.length,0,none,0,[],m,tov,rfl,rfl,rfl,World.ownsRow_nil _ _ _ _,Nat.le_refl _,by simp,Nat.zero_le _,by omega,H0.out,.refl _ _,Chg.refl _ _,HB.out,HRR.out⟩
 case round =>
  obtain ⟨k,n,l,ka,kc,ks,m',tov',rfl,rfl,rfl,hks,hlk,hk5,hk,hn,hM,hLi,hCh,hMB,hE⟩:=hrel
  have HM:=hid hM
  have HLI:=hid hLi
  have HCH:=hid hCh
  have HMB:=hid hMB
  have HE:=hid hE
  have HKS:=hid hks
  have hle:=hMB.le
  have x0:wr.cell? ⟨mb,0,none⟩=some (.slice ta ls.length tc):=hM.bx.cell 0
  have x2:wr.cell? ⟨mb,2,none⟩=some tov':=hM.bx.cell 2
  have htt:=hM.tt
  clear hM hLi hCh hMB hE hks
  by_cases hlt:k < m'.to.length
  ·have hlt':(k:Int) < (m'.to.length:Int):=by omega
   obtain ⟨n,rfl⟩:∃ n',n=n'+1:=⟨n - 1,by omega⟩
   obtain ⟨gt,oc,rfl,_,_,_,hc⟩:=htt.form (by omega)
   have y:=hc k hlt
   have hvk:0<=m'.to.getD k 0/\m'.to.getD k 0<=100000:=by
    rw [List.getD_eq_getElem?_getD,List.getElem?_eq_getElem hlt];exact HMB.out.tv _ (List.getElem_mem hlt)
   clear hc htt
   cases l with
   | zero =>
    have HE2:Hid (mvW ls frm n (k+1) (flds ls (m'.to.getD k 0)) (flds ls (m'.to.getD k 0)).length m'=RR):=by
     show _=RR
     rw [<-HE.out,mvW_0 hlt]
    clear HE
    obtain ⟨u,hu,hq⟩:=fieldsOf_ro HS.out (.slice ta ls.length tc) ls (m'.to.getD k 0) 0 HTY.out hls
    obtain ⟨ua,uc,rfl⟩:=hu.slice
    have h5':=H5.out (m'.to.getD k 0)
    have HU:=hid hu
    have HQ:=hid hq
    clear hu hq
    generalize flds ls (m'.to.getD k 0)=F at *
    generalize m'.to.getD k 0=v at *
    go_wp2_with fail
    refine (HQ.out _ HM.out.ch).mono ?_
    rintro ex w1 ⟨rfl,rfl⟩
    go_wp2
    exact ⟨⟨k+1,n,F.length,ua,uc,F,m',_,rfl,rfl,rfl,HU.out,Nat.le_refl _,h5',by omega,by omega,HM.out,HLI.out,HCH.out,HMB.out,HE2.out⟩,by simp [intOf];omega⟩
   | succ l =>
    have HKK:Hid (IntsV wr 0 (.slice ka ks.length kc) ks):=HS.out.ints HM.out.ch HKS.out
    have hl1:¬ ((l+1:Nat):Int)=0:=by omega
    obtain ⟨L,hL⟩:∃ L:Int,((l+1:Nat):Int)=L:=⟨_,rfl⟩
    have hL1:1<=L:=by omega
    have hL2:L<=5:=by omega
    have hL3:L - 1=(l:Int):=by omega
    have hLb:(L == 0)=false:=by simp;omega
    have HLL:=hid hL
    rw [hL]
    clear hL hl1
    by_cases hz:tyAt ks ((ks.length:Int) - L)=0
    ·have HE2:Hid (mvW ls frm n (k+1) ks l m'=RR):=by
      show _=RR
      rw [<-HE.out,mvW_n hlt (by rw [HLL.out];exact hz)]
     clear HE
     generalize m'.to.getD k 0=v at *
     go_wp2_with fail
     refine (typeAt_any _ ks ((ks.length:Int) - L) _ 0 HKK.out).mono ?_
     rintro ex w1 ⟨rfl,rfl⟩
     go_wp2
     exact ⟨⟨k+1,n,l,ka,kc,ks,m',_,rfl,rfl,rfl,HKS.out,by omega,hk5,by omega,by omega,HM.out,HLI.out,HCH.out,HMB.out,HE2.out⟩,by simp [intOf];omega⟩
    ·have HE2:Hid (mvW ls frm n (k+1) ks l ⟨(mvP ls frm m' (m'.to.getD k 0)).2.to.set k (mvP ls frm m' (m'.to.getD k 0)).1,(mvP ls frm m' (m'.to.getD k 0)).2.refs⟩=RR):=by
      show _=RR
      rw [<-HE.out,mvW_r hlt (by rw [HLL.out];exact hz)]
     clear HE
     have hzb:(tyAt ks ((ks.length:Int) - L) == 0)=false:=by simp [hz]
     have MB2:=HMB.out.mv (ls:=ls) HFV.out hl H5.out (m'.to.getD k 0)
     have hln:=mvP_len (ls:=ls) (frm:=frm) m' (m'.to.getD k 0)
     generalize m'.to.getD k 0=v at *
     go_wp2_with fail
     refine (typeAt_any _ ks ((ks.length:Int) - L) _ 0 HKK.out).mono ?_
     rintro ex w1 ⟨rfl,rfl⟩
     go_wp2_with fail
     refine (move_any HM.out RO.out HMB.out hl hls H5.out v hvk.1 hvk.2).mono ?_
     rintro ex w2 ⟨rfl,tov2,hM2,hL2',hC2⟩
     have HM2:=hid hM2
     have HLI2:Hid (Lies w tov tov2):=HLI.out.trans hL2' HCH.out.size
     have HCH2:Hid (Chg (MS mb tov rv) w w2):=MS.lies HLI.out HCH.out hC2
     generalize mvP ls frm m' v=X at *
     obtain ⟨x,mx⟩:=X
     simp only at *
     have z2:w2.cell? ⟨mb,2,none⟩=some tov2:=hM2.bx.cell 2
     obtain ⟨g2,c2,rfl,_,_,_,hc2⟩:=hM2.tt.form (by omega)
     have y2:=hc2 k (by omega)
     obtain ⟨cs2,hb2⟩:=own_blk hM2.tt (g:=g2) rfl
     have f2:=hb2.frozen k
     have hk2:(k:Int) < (mx.to.length:Int):=by omega
     have hst:=hM2.setTo (k:=k) rfl (by omega) x
     have HST:Hid (MI S W2 (w2.setCell ⟨g2,k,none⟩ x) mb (.slice ta ls.length tc) wv (.slice g2 mx.to.length c2) rv ⟨mx.to.set k x,mx.refs⟩):=hst.1
     have HCH3:Hid (Chg (MS mb tov rv) w (w2.setCell ⟨g2,k,none⟩ x)):=MS.lies HLI2.out HCH2.out hst.2
     have HMB3:Hid (MB frm ⟨mx.to.set k x,mx.refs⟩):=MB2.1.set k MB2.2.1 MB2.2.2
     clear hM2 hL2' hC2 HM HCH HLI HMB hz hzb HKK y x0 x2 hb2 hc2 hst MB2 hvk
     go_wp2
     exact ⟨⟨k+1,n,l,ka,kc,ks,⟨mx.to.set k x,mx.refs⟩,_,rfl,rfl,rfl,HKS.out,by omega,hk5,by simp;omega,by omega,HST.out,HLI2.out,HCH3.out,HMB3.out,HE2.out⟩,by simp [intOf];omega⟩
  ·have hlt':(m'.to.length:Int)<=(k:Int):=by omega
   have HE2:Hid (m'=RR):=by
    show m'=RR
    rw [<-HE.out,mvW_e (by omega)]
   clear HE
   obtain ⟨oa,oc,rfl⟩:=htt.slice
   clear htt
   go_wp2
   refine bodyPost_end (v:=.tuple #[]) (by simp [results,Try.results42]) rfl ⟨rfl,_,?_,HLI.out,HCH.out⟩
   rw [<-HE2.out];exact HM.out
end
end Go.Proofs.Ytnfnbcbadakofab
namespace Go.Proofs.Ytnfnbcbadakofab
open Go.RowKit
set_option maxHeartbeats 1000000
set_option maxRecDepth 100000
theorem funcAt_ro {S:Nat->Prop} {W2:World} (hS:OnlyF S W2) (v:Value) (fs:List Fn) (k:Int) (base:Nat) (h:FuncsV 78 93 W2 base v fs) :
 ∃ la lc ca cc,IntsV W2 base (.slice la (fnAt fs k).locals.length lc) (fnAt fs k).locals/\InsV 93 W2 base (.slice ca (fnAt fs k).code.length cc) (fnAt fs k).code/\∀ w,Chg S W2 w->Calls Try.prog 32 #[v,k] w fun e w'=>e=.returned (.agg #[.int .i64 (fnAt fs k).args,.slice la (fnAt fs k).locals.length lc,.int .i64 (fnAt fs k).result,.slice ca (fnAt fs k).code.length cc])/\Chg () w w':=by
 by_cases hk:0<=k/\k.toNat < fs.length
 ·obtain ⟨j,rfl⟩:∃ j:Nat,k=(j:Int):=⟨k.toNat,by omega⟩
  have h':=h
  obtain ⟨xs,hx0,hrow,_⟩:=h'
  obtain ⟨g,c,rfl,_,hc⟩:=h.formS (by omega)
  have hj:j < fs.length:=by omega
  have e1:fnAt fs (j:Int)=fs[j]:=by unfold fnAt;rw [dif_pos hk];rfl
  rw [e1]
  obtain ⟨lv,cv,h0,h1,h2,h3,hl,hi⟩:=hc j hj
  obtain ⟨la,lc,rfl⟩:=hl.slice
  obtain ⟨ca,cc,rfl⟩:=hi.slice
  have hlen:xs.length=fs.length:=by rw [<-hx0,List.length_map]
  rw [hlen] at hrow
  obtain ⟨cs,hb⟩:=own_blk hrow (g:=g) rfl
  refine ⟨la,lc,ca,cc,hl,hi,fun w k=>?_⟩
  have hcell:=fun i=>hS.cell (i:=i) k hb (by decide) (by decide)
  exact funcAt_yes g _ c j _ lc _ cc la ca _ _ w hj (Nat.lt_of_lt_of_le hb.lt k.size) ((hcell _).trans h0) ((hcell _).trans h1) ((hcell _).trans h2) ((hcell _).trans h3)
 ·obtain ⟨a,c,rfl⟩:=h.slice
  have e1:fnAt fs k=⟨0,[],0,[]⟩:=by unfold fnAt;rw [dif_neg hk]
  rw [e1]
  exact ⟨none,0,none,0,World.ownsRow_nil _ _ _ _,World.ownsRow_nil _ _ _ _,fun w _=>funcAt_no a _ c k w (by omega)⟩
theorem spotAt_fv (a:Option Addr) (n c:Nat) (f i:Int) (w:World) (h:f < 0 \/ (n:Int)<=f):Calls Try.prog 63 #[.slice a n c,f,i] w fun e w'=>e=.returned (.agg #[.bool false,()])/\Chg () w w':=by
 by_cases h1:f < 0
 ·clear h
  go_enter Try.func63,Try.ntmps63
  go_wp2
  exact bodyPost_ret (v:=.agg #[.bool false,()]) (by simp [results,Try.results63,go_sem]) rfl ⟨rfl,(Chg.refl _ w).alloc _⟩
 ·have h2:(n:Int)<=f:=by omega
  clear h
  go_enter Try.func63,Try.ntmps63
  go_wp2
  exact bodyPost_ret (v:=.agg #[.bool false,()]) (by simp [results,Try.results63,go_sem]) rfl ⟨rfl,(Chg.refl _ w).alloc _⟩
theorem spotAt_iv (g n c k m mc:Nat) (ma:Option Addr) (i:Int) (w:World) (hk:k < n) (hc:w.cell? ⟨g,k,none⟩=some (.slice ma m mc)) (h:i < 0 \/ (m:Int)<=i):Calls Try.prog 63 #[.slice g n c,k,i] w fun e w'=>e=.returned (.agg #[.bool false,()])/\Chg () w w':=by
 have hk':(k:Int) < (n:Int):=by omega
 have hg:=World.block_lt_of_cell? w _ hc
 have hc':(w.alloc (Obj.cells #[.bool false,()] 125)).cell? ⟨g,k,none⟩=some (.slice ma m mc):=(World.cell?_of_block (Below.heap_alloc _ _ _ hg)).trans hc
 by_cases h1:i < 0
 ·clear h
  go_enter Try.func63,Try.ntmps63
  go_wp2
  exact bodyPost_ret (v:=.agg #[.bool false,()]) (by simp [results,Try.results63,go_sem]) rfl ⟨rfl,(Chg.refl _ w).alloc _⟩
 ·have h2:(m:Int)<=i:=by omega
  clear h
  go_enter Try.func63,Try.ntmps63
  go_wp2
  exact bodyPost_ret (v:=.agg #[.bool false,()]) (by simp [results,Try.results63,go_sem]) rfl ⟨rfl,(Chg.refl _ w).alloc _⟩
theorem spotAt_ro {S:Nat->Prop} {W2:World} (hS:OnlyF S W2) (v:Value) (sps:List Spots) (f i:Int) (base:Nat) (h:SpotsL W2 base v sps) :
 ∃ la lc,IntsV W2 base (.slice la (skP sps f i).length lc) (skP sps f i)/\∀ w,Chg S W2 w->Calls Try.prog 63 #[v,f,i] w fun e w'=>e=.returned (.agg #[.bool (spP sps f i).isSome,.slice la (skP sps f i).length lc])/\Chg () w w':=by
 have h':=h
 obtain ⟨vs,hrow,hvs⟩:=h'
 by_cases hf:f < 0 \/ (sps.length:Int)<=f
 ·obtain ⟨a,c,rfl⟩:=h.slice
  have e:spP sps f i=none:=if_pos hf
  have e2:skP sps f i=[]:=by unfold skP;rw [e];rfl
  rw [e,e2]
  exact ⟨none,0,World.ownsRow_nil _ _ _ _,fun w _=>spotAt_fv a _ c f i w hf⟩
 ·obtain ⟨k,rfl⟩:∃ k:Nat,f=(k:Int):=⟨f.toNat,by omega⟩
  obtain ⟨g,c,rfl,_,hc⟩:=h.form (by omega)
  obtain ⟨x,hx,hs⟩:=hc k (by omega)
  obtain ⟨cs,hb⟩:=own_blk hrow (g:=g) rfl
  have hcell:=fun (w:World) (kk:Chg S W2 w) i=>hS.cell (i:=i) kk hb (by decide) (by decide)
  by_cases hi:i < 0 \/ ((sps.getD k []).length:Int)<=i
  ·obtain ⟨ma,mc,rfl⟩:=hs.slice
   have e:spP sps (k:Int) i=none:=by unfold spP;rw [if_neg hf];exact if_pos hi
   have e2:skP sps (k:Int) i=[]:=by unfold skP;rw [e];rfl
   rw [e,e2]
   exact ⟨none,0,World.ownsRow_nil _ _ _ _,fun w kk=>spotAt_iv g _ c k _ mc ma i w (by omega) ((hcell w kk _).trans hx) hi⟩
  ·obtain ⟨j,rfl⟩:∃ j:Nat,i=(j:Int):=⟨i.toNat,by omega⟩
   have e:spP sps (k:Int) (j:Int)=(sps.getD k []).getD j none:=by unfold spP;rw [if_neg hf];exact if_neg hi
   have hs':=hs
   obtain ⟨xs,hxs,hrow2,_⟩:=hs'
   obtain ⟨g2,mc,rfl,_,hc2⟩:=hs.form (by omega)
   obtain ⟨y,h0,h1,hy⟩:=hc2 j (by omega)
   obtain ⟨ya,yc,rfl⟩:=hy.slice
   have hxl:xs.length=(sps.getD k []).length:=by rw [<-hxs,List.length_map]
   rw [hxl] at hrow2
   obtain ⟨cs2,hb2⟩:=own_blk hrow2 (g:=g2) rfl
   have hcell2:=fun (w:World) (kk:Chg S W2 w) i=>hS.cell (i:=i) kk hb2 (by decide) (by decide)
   have e2:skP sps (k:Int) (j:Int)=((sps.getD k []).getD j none).getD []:=by unfold skP;rw [e]
   rw [e,e2]
   exact ⟨ya,yc,hy,fun w kk=>spotAt_yes g _ c k g2 _ mc j _ yc ya _ w (by omega) (by omega) ((hcell w kk _).trans hx) ((hcell2 w kk _).trans h0) ((hcell2 w kk _).trans h1)⟩
end Go.Proofs.Ytnfnbcbadakofab
namespace Go.Proofs.Ytnfnbcbadakofab
open Go.RowKit
section
variable {S:Nat->Prop} {W2 w:World} {mb rb:Nat} {tv fv sv wv tov rv:Value} {m:Mv} {c:Cx} {frm:List Int}
def MfrEnd (S:Nat->Prop) (W2 w:World) (mb:Nat) (tv wv tov rv:Value) (r:Fr × Mv) (ex:Ending) (w':World):Prop:=
 ∃ lu ku tov',ex=.returned (.agg #[r.1.fn,r.1.pc,lu,ku])/\IntsV w' w.heap.size lu r.1.locals/\IntsV w' w.heap.size ku r.1.stack/\Sep lu ku/\Sep lu tov'/\Sep ku tov'/\MI S W2 w' mb tv wv tov' rv r.2/\Lies w tov tov'/\Chg (MS mb tov rv) w w'
theorem cells4 {w:World} {b:Nat} {v0 v1 v2 v3:Value} {e:TypeId} (h:Blk w b #[v0,v1,v2,v3] e):w.cell? ⟨b,0,none⟩=some v0/\w.cell? ⟨b,1,none⟩=some v1/\w.cell? ⟨b,2,none⟩=some v2/\w.cell? ⟨b,3,none⟩=some v3/\w.frozen? ⟨b,0,none⟩=false/\w.frozen? ⟨b,1,none⟩=false/\w.frozen? ⟨b,2,none⟩=false/\w.frozen? ⟨b,3,none⟩=false:=
 ⟨h.cell 0,h.cell 1,h.cell 2,h.cell 3,h.frozen 0,h.frozen 1,h.frozen 2,h.frozen 3⟩
theorem cells2 {w:World} {b:Nat} {v0 v1:Value} {e:TypeId} (h:Blk w b #[v0,v1] e):w.cell? ⟨b,0,none⟩=some v0/\w.cell? ⟨b,1,none⟩=some v1/\w.frozen? ⟨b,0,none⟩=false/\w.frozen? ⟨b,1,none⟩=false:=
 ⟨h.cell 0,h.cell 1,h.frozen 0,h.frozen 1⟩
theorem set4new {W0 w1:World} {b:Nat} {a0 a1 a2 a3:Value} {e:TypeId} (hb:Blk w1 b #[a0,a1,a2,a3] e) (k:Chg () W0 w1) (hn:W0.heap.size<=b) (v0 v1 v2 v3:Value) :
 Blk ((((w1.setCell ⟨b,0,none⟩ v0).setCell ⟨b,1,none⟩ v1).setCell ⟨b,2,none⟩ v2).setCell ⟨b,3,none⟩ v3) b #[v0,v1,v2,v3] e/\Chg () W0 ((((w1.setCell ⟨b,0,none⟩ v0).setCell ⟨b,1,none⟩ v1).setCell ⟨b,2,none⟩ v2).setCell ⟨b,3,none⟩ v3):=
 ⟨(((hb.set 0 v0).set 1 v1).set 2 v2).set 3 v3,(((k.setCell _ _ (.inr hn)).setCell _ _ (.inr hn)).setCell _ _ (.inr hn)).setCell _ _ (.inr hn)⟩
theorem set2new {W0 w1:World} {b:Nat} {a0 a1:Value} {e:TypeId} (hb:Blk w1 b #[a0,a1] e) (k:Chg () W0 w1) (hn:W0.heap.size<=b) (v0 v1:Value) :
 Blk ((w1.setCell ⟨b,0,none⟩ v0).setCell ⟨b,1,none⟩ v1) b #[v0,v1] e/\Chg () W0 ((w1.setCell ⟨b,0,none⟩ v0).setCell ⟨b,1,none⟩ v1):=
 ⟨(hb.set 0 v0).set 1 v1,(k.setCell _ _ (.inr hn)).setCell _ _ (.inr hn)⟩
theorem MI.blk {w':World} {b:Nat} {cs:Array Value} {e:TypeId} (h:MI S W2 w mb tv wv tov rv m) (k:Chg (MS mb tov rv) w w') (hb:Blk w b cs e) (h1:e ≠ 97) (h2:e ≠ 3):Blk w' b cs e:=
 hb.chg k (fun q=>by
  rcases q with q | q | q
  ·subst q;exact hb.ne h.bx h1 rfl
  ·obtain ⟨cs',hb'⟩:=own_blk h.tt q.symm;exact hb.ne hb' h2 rfl
  ·obtain ⟨cs',hb'⟩:=own_blk h.rr q.symm;exact hb.ne hb' h2 rfl)
theorem MI.off {w':World} {b:Nat} {cs:Array Value} {e:TypeId} (h:MI S W2 w mb tv wv tov rv m) (hb:Blk w b cs e) (h1:e ≠ 97) (h2:3 ≠ e) (hn:W2.heap.size<=b) (k:Chg (fun j=>j=b) w w'):MI S W2 w' mb tv wv tov rv m:=by
 refine ⟨h.ch.trans' k (fun i hi q=>by omega),h.bx.chg k (fun q=>by subst q;exact hb.ne h.bx h1 rfl),h.nw,own_chg h.tt k (fun g hg q=>own_ne h.tt hb h2 (by rw [hg,q])),own_chg h.rr k (fun g hg q=>own_ne h.rr hb h2 (by rw [hg,q])),h.sp⟩
theorem Chg.set4 {w:World} {b:Nat} (v0 v1 v2 v3:Value):Chg (fun j=>j=b) w ((((w.setCell ⟨b,0,none⟩ v0).setCell ⟨b,1,none⟩ v1).setCell ⟨b,2,none⟩ v2).setCell ⟨b,3,none⟩ v3):=
 ((((Chg.refl (fun j=>j=b) w).setCell ⟨b,0,none⟩ v0 (.inl rfl)).setCell ⟨b,1,none⟩ v1 (.inl rfl)).setCell ⟨b,2,none⟩ v2 (.inl rfl)).setCell ⟨b,3,none⟩ v3 (.inl rfl)
theorem MI.keepL {w':World} {u:Value} {l:List Int} {base:Nat} (h:MI S W2 w mb tv wv tov rv m) (k:Chg (MS mb tov rv) w w') (hu:IntsV w base u l) (h1:Sep u tov) (h2:Sep u rv):IntsV w' base u l:=
 own_chg hu k (fun g hg q=>by
  rcases q with q | q | q
  ·exact own_ne hu h.bx (by decide) (by rw [hg,q])
  ·exact h1 g hg q.symm
  ·exact h2 g hg q.symm)
theorem mvL_bd {ls:List (List Int)} {frm ks:List Int} (hfv:∀ v ∈ frm,0<=v/\v<=65535) (hl:frm.length<=4000) (h5:∀ t,(flds ls t).length<=5) (vs:List Int):∀ (k:Nat) (m:Mv),MB frm m->MB frm (mvL ls frm ks k vs m).2/\(mvL ls frm ks k vs m).1.length=vs.length:=by
 induction vs with
 | nil=>intro k m h;exact ⟨h,rfl⟩
 | cons v vs ih =>
  intro k m h
  rw [mvL_cons]
  have h1:MB frm (mv1 ls frm (tyAt ks k) v m).2:=by
   unfold mv1;split
   ·exact (h.mv hfv hl h5 v).1
   ·exact h
  obtain ⟨a,b⟩:=ih (k+1) _ h1
  exact ⟨a,by simp [b]⟩
set_option maxHeartbeats 2000000 in
set_option maxRecDepth 100000 in
theorem moveFrame_any (h:MI S W2 w mb tv wv tov rv m) (ro:MRo S W2 tv wv c.ls frm) (hS:OnlyF S W2) (hb:MB frm m) (hfv:∀ v ∈ frm,0<=v/\v<=65535) (hl:frm.length<=4000) (hls:c.ls.length<=10000) (h5:∀ t,(flds c.ls t).length<=5)
 (hfu:FuncsV 78 93 W2 0 fv c.fs) (hspt:SpotsL W2 0 sv c.sps) (rc:Array Value) (hrb:Blk w rb rc 65) (hr2:rc[2]?=some fv) (hr3:rc[3]?=some sv)
 (f:Fr) (la ka:Option Addr) (lc kc:Nat) (hlo:IntsV W2 0 (.slice la f.locals.length lc) f.locals) (hst:IntsV W2 0 (.slice ka f.stack.length kc) f.stack) (hlb:∀ v ∈ f.locals,0<=v/\v<=65535) (hsb:∀ v ∈ f.stack,0<=v/\v<=65535) (hll:f.locals.length<=1000) (hsl:f.stack.length<=1000) :
 Calls Try.prog 41 #[.pointer rb,.pointer mb,.agg #[f.fn,f.pc,.slice la f.locals.length lc,.slice ka f.stack.length kc]] w (MfrEnd S W2 w mb tv wv tov rv (mvFr c frm f m)):=by
 obtain ⟨fa,fc,hfa⟩:=hfu.slice
 obtain ⟨sa,sc,hsa⟩:=hspt.slice
 generalize c.fs.length=fn at hfa
 generalize c.sps.length=sn at hsa
 subst hfa;subst hsa
 obtain ⟨xla,xlc,xca,xcc,hxl,_,hq1⟩:=funcAt_ro hS _ c.fs f.fn 0 hfu
 obtain ⟨yla,ylc,hyl,hq2⟩:=spotAt_ro hS _ c.sps f.fn f.pc 0 hspt
 have ML1:=fun (w':World) (h':MI S W2 w' mb tv wv tov rv m)=>moveList_any h' ro hS hb hfv hl hls h5 la xla lc xlc f.locals (fnAt c.fs f.fn).locals hlo hxl hlb hll
 have hbd:=mvL_bd (ls:=c.ls) (ks:=(fnAt c.fs f.fn).locals) hfv hl h5 f.locals 0 m hb
 have ML2:=fun (w':World) (tov':Value) (h':MI S W2 w' mb tv wv tov' rv (mvL c.ls frm (fnAt c.fs f.fn).locals 0 f.locals m).2)=>moveList_any h' ro hS hbd.1 hfv hl hls h5 ka yla kc ylc f.stack (skP c.sps f.fn f.pc) hst hyl hsb hsl
 have kb:Chg () w ((w.alloc (Obj.cells #[f.fn,f.pc,.slice la f.locals.length lc,.slice ka f.stack.length kc] 63)).alloc (Obj.cells #[oO,oO,(),()] 63)):=((Chg.refl _ w).alloc _).alloc _
 have bx:Blk ((w.alloc (Obj.cells #[f.fn,f.pc,.slice la f.locals.length lc,.slice ka f.stack.length kc] 63)).alloc (Obj.cells #[oO,oO,(),()] 63)) w.heap.size #[f.fn,f.pc,.slice la f.locals.length lc,.slice ka f.stack.length kc] 63:=(Blk.new w _ 63).alloc _
 have br:Blk ((w.alloc (Obj.cells #[f.fn,f.pc,.slice la f.locals.length lc,.slice ka f.stack.length kc] 63)).alloc (Obj.cells #[oO,oO,(),()] 63)) (w.heap.size+1) #[oO,oO,(),()] 63:=Blk.new' (w:=w.alloc (Obj.cells #[f.fn,f.pc,.slice la f.locals.length lc,.slice ka f.stack.length kc] 63)) (by simp) _ 63
 have H0:=hid (h.new kb)
 have hrb0:=hrb.chg kb (fun q=>q)
 have HW:=hid h
 obtain ⟨RL,hRL⟩:∃ r,mvL c.ls frm (fnAt c.fs f.fn).locals 0 f.locals m=r:=⟨_,rfl⟩
 have eR:mvFr c frm f m=(⟨f.fn,f.pc,RL.1,(mvL c.ls frm (skP c.sps f.fn f.pc) 0 f.stack RL.2).1⟩,(mvL c.ls frm (skP c.sps f.fn f.pc) 0 f.stack RL.2).2):=by unfold mvFr;rw [hRL]
 rw [eR]
 rw [hRL] at ML2
 have ML1':∀ (w':World),MI S W2 w' mb tv wv tov rv m->Calls Try.prog 64 #[.pointer mb,.slice la f.locals.length lc,.slice xla (fnAt c.fs f.fn).locals.length xlc] w' (MlEnd S W2 w' mb tv wv tov rv RL):=by rw [<-hRL];exact ML1
 obtain ⟨RK,hRK⟩:∃ r,mvL c.ls frm (skP c.sps f.fn f.pc) 0 f.stack RL.2=r:=⟨_,rfl⟩
 rw [hRK] at ML2 ⊢
 have HQ1:Hid _:=hq1
 have HQ2:Hid _:=hq2
 have HM1:Hid _:=ML1'
 have HM2:Hid _:=ML2
 clear hq1 hq2 ML1 ML2 ML1' eR hbd ro hfv h5 hfu hspt hlo hst hlb hsb h hb hS hrb hRL hRK hxl hyl
 generalize (fnAt c.fs f.fn).locals.length=xln at *
 generalize (fnAt c.fs f.fn).code.length=xcn at *
 generalize (fnAt c.fs f.fn).args=xar at *
 generalize (fnAt c.fs f.fn).result=xre at *
 generalize (skP c.sps f.fn f.pc).length=yln at *
 generalize (spP c.sps f.fn f.pc).isSome=ysm at *
 go_enter Try.func41,Try.ntmps41
 go_wp2
 generalize hW0:((w.alloc (Obj.cells #[f.fn,f.pc,.slice la f.locals.length lc,.slice ka f.stack.length kc] 63)).alloc (Obj.cells #[oO,oO,(),()] 63))=W0 at *
 clear hW0
 have kA:Chg () W0 (W0.alloc (Obj.cells #[oO,(),oO,()] 78)).drew:=((Chg.refl _ W0).alloc _).drew
 have HA:=hid (H0.out.new kA)
 have bA:=bx.chg kA (fun q=>q)
 have nbA:Blk (W0.alloc (Obj.cells #[oO,(),oO,()] 78)).drew W0.heap.size #[oO,(),oO,()] 78:=(Blk.new W0 _ 78).drew
 have rA:=hrb0.chg kA (fun q=>q)
 have x2:W0.cell? ⟨rb,2,none⟩=some (.slice fa fn fc):=(hrb0.cell 2).trans hr2
 have b0:W0.cell? ⟨w.heap.size,0,none⟩=some (.int .i64 f.fn):=bx.cell 0
 have fA:∀ (w1:World),Chg () (W0.alloc (Obj.cells #[oO,(),oO,()] 78)).drew w1->w1.cell? ⟨rb,2,none⟩=some (.slice fa fn fc)/\w1.cell? ⟨w.heap.size,0,none⟩=some (.int .i64 f.fn):=fun w1 k1=>⟨((rA.chg k1 (fun q=>q)).cell 2).trans hr2,(bA.chg k1 (fun q=>q)).cell 0⟩
 have fB:∀ (w1:World),Chg () W0.drew w1->w1.cell? ⟨rb,2,none⟩=some (.slice fa fn fc)/\w1.cell? ⟨w.heap.size,0,none⟩=some (.int .i64 f.fn):=fun w1 k1=>⟨((hrb0.drew.chg k1 (fun q=>q)).cell 2).trans hr2,(bx.drew.chg k1 (fun q=>q)).cell 0⟩
 have n1:rb ≠ W0.heap.size:=Nat.ne_of_lt hrb0.lt
 have n2:w.heap.size ≠ W0.heap.size:=Nat.ne_of_lt bx.lt
 have n1':W0.heap.size ≠ rb:=n1.symm
 have n2':W0.heap.size ≠ w.heap.size:=n2.symm
 go_region_held3 (fun w'=>w'.cell? ⟨rb,2,none⟩=some (.slice fa fn fc)/\w'.cell? ⟨w.heap.size,0,none⟩=some (.int .i64 f.fn)) (go_keep) (first | (go_at_call 32;first | (refine (HQ1.out _ HA.out.ch).mono ?_;rintro e w1 ⟨rfl,k1⟩;have q2:=(fA w1 k1).1;have q0:=(fA w1 k1).2;obtain ⟨o0,o1,o2,o3,z0,z1,z2,z3⟩:=cells4 (nbA.chg k1 (fun q=>q))) | (refine (HQ1.out _ H0.out.drew.ch).mono ?_;rintro e w1 ⟨rfl,k1⟩;have q2:=(fB w1 k1).1;have q0:=(fB w1 k1).2)))
 all_goals
  first
  | (obtain ⟨nX,kX⟩:=set4new (nbA.chg k1 (fun q=>q)) (kA.trans k1) (Nat.le_refl _) (.int .i64 xar) (.slice xla xln xlc) (.int .i64 xre) (.slice xca xcn xcc)
     generalize ((((w1.setCell ⟨W0.heap.size,0,none⟩ xar).setCell ⟨W0.heap.size,1,none⟩ (.slice xla xln xlc)).setCell ⟨W0.heap.size,2,none⟩ xre).setCell ⟨W0.heap.size,3,none⟩ (.slice xca xcn xcc))=wX at nX kX ⊢
     generalize hfb:W0.heap.size=fb at nX ⊢
     clear hfb o0 o1 o2 o3 z0 z1 z2 z3)
  | (have nX:=Blk.new w1 #[.int .i64 xar,.slice xla xln xlc,.int .i64 xre,.slice xca xcn xcc] 78
     have kX:Chg () W0 _:=(((Chg.refl _ W0).drew).trans k1).alloc (Obj.cells #[xar,.slice xla xln xlc,xre,.slice xca xcn xcc] 78)
     generalize w1.alloc (Obj.cells #[xar,.slice xla xln xlc,xre,.slice xca xcn xcc] 78)=wX at nX kX ⊢
     generalize hfb:w1.heap.size=fb at nX ⊢
     clear hfb)
  clear q0 q2 k1 fA fB nbA bA rA HA kA x2 b0 n1 n2 n1' n2' HQ1
  have x3:wX.cell? ⟨rb,3,none⟩=some (.slice sa sn sc):=((hrb0.chg kX (fun q=>q)).cell 3).trans hr3
  have b0:wX.cell? ⟨w.heap.size,0,none⟩=some (.int .i64 f.fn):=(bx.chg kX (fun q=>q)).cell 0
  have b1:wX.cell? ⟨w.heap.size,1,none⟩=some (.int .i64 f.pc):=(bx.chg kX (fun q=>q)).cell 1
  have kA:Chg () W0 (wX.alloc (Obj.cells #[.bool false,()] 125)).drew:=(kX.alloc _).drew
  have HA:=hid (H0.out.new kA)
  have HB:=hid (H0.out.new kX.drew)
  have nbA:Blk (wX.alloc (Obj.cells #[.bool false,()] 125)).drew wX.heap.size #[.bool false,()] 125:=(Blk.new wX _ 125).drew
  have fA:∀ (w1:World),Chg () (wX.alloc (Obj.cells #[.bool false,()] 125)).drew w1->w1.cell? ⟨rb,3,none⟩=some (.slice sa sn sc)/\w1.cell? ⟨w.heap.size,0,none⟩=some (.int .i64 f.fn)/\w1.cell? ⟨w.heap.size,1,none⟩=some (.int .i64 f.pc):=fun w1 k1=>⟨((hrb0.chg (kA.trans k1) (fun q=>q)).cell 3).trans hr3,(bx.chg (kA.trans k1) (fun q=>q)).cell 0,(bx.chg (kA.trans k1) (fun q=>q)).cell 1⟩
  have fB:∀ (w1:World),Chg () wX.drew w1->w1.cell? ⟨rb,3,none⟩=some (.slice sa sn sc)/\w1.cell? ⟨w.heap.size,0,none⟩=some (.int .i64 f.fn)/\w1.cell? ⟨w.heap.size,1,none⟩=some (.int .i64 f.pc):=fun w1 k1=>⟨((hrb0.chg (kX.drew.trans k1) (fun q=>q)).cell 3).trans hr3,(bx.chg (kX.drew.trans k1) (fun q=>q)).cell 0,(bx.chg (kX.drew.trans k1) (fun q=>q)).cell 1⟩
  have n1:rb ≠ wX.heap.size:=Nat.ne_of_lt (hrb0.chg kX (fun q=>q)).lt
  have n2:w.heap.size ≠ wX.heap.size:=Nat.ne_of_lt (bx.chg kX (fun q=>q)).lt
  have n1':wX.heap.size ≠ rb:=n1.symm
  have n2':wX.heap.size ≠ w.heap.size:=n2.symm
  go_wp2
  go_region_held3 (fun w'=>w'.cell? ⟨rb,3,none⟩=some (.slice sa sn sc)/\w'.cell? ⟨w.heap.size,0,none⟩=some (.int .i64 f.fn)/\w'.cell? ⟨w.heap.size,1,none⟩=some (.int .i64 f.pc)) (go_keep) (first | (go_at_call 63;first | (refine (HQ2.out _ HA.out.ch).mono ?_;rintro e w1 ⟨rfl,k1⟩;obtain ⟨q3,q0,q1⟩:=fA w1 k1;obtain ⟨o0,o1,z0,z1⟩:=cells2 (nbA.chg k1 (fun q=>q))) | (refine (HQ2.out _ HB.out.ch).mono ?_;rintro e w1 ⟨rfl,k1⟩;obtain ⟨q3,q0,q1⟩:=fB w1 k1)))
 all_goals
  first
  | (obtain ⟨nY,kY⟩:=set2new (nbA.chg k1 (fun q=>q)) (kA.trans k1) kX.size (.bool ysm) (.slice yla yln ylc)
     have kZ:Chg () wX _:=(set2new (nbA.chg k1 (fun q=>q)) ((((Chg.refl _ wX).alloc _).drew).trans k1) (Nat.le_refl _) (.bool ysm) (.slice yla yln ylc)).2
     generalize ((w1.setCell ⟨wX.heap.size,0,none⟩ (.bool ysm)).setCell ⟨wX.heap.size,1,none⟩ (.slice yla yln ylc))=wY at nY kY kZ ⊢
     generalize hsb:wX.heap.size=sb at nY ⊢
     clear hsb o0 o1 z0 z1)
  | (have nY:=Blk.new w1 #[.bool ysm,.slice yla yln ylc] 125
     have kZ:Chg () wX _:=(((Chg.refl _ wX).drew).trans k1).alloc (Obj.cells #[.bool ysm,.slice yla yln ylc] 125)
     have kY:=kX.trans kZ
     generalize w1.alloc (Obj.cells #[.bool ysm,.slice yla yln ylc] 125)=wY at nY kY kZ ⊢
     generalize hsb:w1.heap.size=sb at nY ⊢
     clear hsb)
  have nX:=nX.chg kZ (fun q=>q)
  clear q0 q1 q3 k1 fA fB nbA HA HB kA x3 b0 b1 n1 n2 n1' n2' HQ2 kX kZ
  have b2:wY.cell? ⟨w.heap.size,2,none⟩=some (.slice la f.locals.length lc):=(bx.chg kY (fun q=>q)).cell 2
  have u1:wY.cell? ⟨fb,1,none⟩=some (.slice xla xln xlc):=nX.cell 1
  have HY:=hid (H0.out.new kY)
  have kW:=kb.trans kY
  go_wp2_with fail
  refine (HM1.out _ HY.out).mono ?_
  rintro e w3 ⟨lu,tov3,rfl,hlu,hsep,hM3,hL3,hC3⟩
  have HM3:=hid hM3
  have bx3:=HY.out.blk hC3 (bx.chg kY (fun q=>q)) (by decide) (by decide)
  have br3:=HY.out.blk hC3 (br.chg kY (fun q=>q)) (by decide) (by decide)
  have nY3:=HY.out.blk hC3 nY (by decide) (by decide)
  obtain ⟨lua,luc,rfl⟩:=hlu.slice
  have HLU:=hid hlu
  have b3:w3.cell? ⟨w.heap.size,3,none⟩=some (.slice ka f.stack.length kc):=bx3.cell 3
  have u2:w3.cell? ⟨sb,1,none⟩=some (.slice yla yln ylc):=nY3.cell 1
  have HSR:Hid (Sep (.slice lua RL.1.length luc) rv):=(Sep.new hlu (fun g hg=>HY.out.rr.lts g hg)).symm
  clear hM3 hlu b2 u1
  go_wp2_with fail
  refine (HM2.out _ _ HM3.out).mono ?_
  rintro e w4 ⟨ku,tov4,rfl,hku,hsep2,hM4,hL4,hC4⟩
  have bx4:=HM3.out.blk hC4 bx3 (by decide) (by decide)
  have br4:=HM3.out.blk hC4 br3 (by decide) (by decide)
  have hlu4:=HM3.out.keepL hC4 HLU.out hsep HSR.out
  have hsz3:=hC3.size
  obtain ⟨kua,kuc,rfl⟩:=hku.slice
  have b0:w4.cell? ⟨w.heap.size,0,none⟩=some (.int .i64 f.fn):=bx4.cell 0
  have b1:w4.cell? ⟨w.heap.size,1,none⟩=some (.int .i64 f.pc):=bx4.cell 1
  obtain ⟨o0,o1,o2,o3,z0,z1,z2,z3⟩:=cells4 br4
  have hsLK:Sep (.slice lua RL.1.length luc) (.slice kua RK.1.length kuc):=Sep.new hku HLU.out.lts
  have hsLT:Sep (.slice lua RL.1.length luc) tov4:=hsep.lies hL4 HLU.out.lts
  have hLL:Lies w tov tov4:=(hL3.mono kW.size).trans hL4 (Nat.le_trans kW.size hsz3)
  have hCC:Chg (MS mb tov rv) w w4:=MS.lies (hL3.mono kW.size) ((kW.mono (fun _ _ q=>q.elim)).trans hC3) hC4
  have hW2:W2.heap.size<=w.heap.size+1:=Nat.le_succ_of_le HW.out.ch.size
  have s4:=Chg.set4 (w:=w4) (b:=w.heap.size+1) (.int .i64 f.fn) (.int .i64 f.pc) (.slice lua RL.1.length luc) (.slice kua RK.1.length kuc)
  have FIN:Hid (MfrEnd S W2 w mb tv wv tov rv (⟨f.fn,f.pc,RL.1,RK.1⟩,RK.2) (.returned (.agg #[f.fn,f.pc,.slice lua RL.1.length luc,.slice kua RK.1.length kuc])) ((((w4.setCell ⟨w.heap.size+1,0,none⟩ f.fn).setCell ⟨w.heap.size+1,1,none⟩ f.pc).setCell ⟨w.heap.size+1,2,none⟩ (.slice lua RL.1.length luc)).setCell ⟨w.heap.size+1,3,none⟩ (.slice kua RK.1.length kuc))):=
   ⟨_,_,tov4,rfl,own_chg (own_mono hlu4 kW.size) s4 (fun g hg q=>own_ne hlu4 br4 (by decide) (by rw [hg,q])),own_chg (own_mono hku (Nat.le_trans kW.size hsz3)) s4 (fun g hg q=>own_ne hku br4 (by decide) (by rw [hg,q])),hsLK,hsLT,hsep2,hM4.off br4 (by decide) (by decide) hW2 s4,hLL,hCC.trans' s4 (fun i hi q=>by omega)⟩
  have hBF:Blk ((((w4.setCell ⟨w.heap.size+1,0,none⟩ f.fn).setCell ⟨w.heap.size+1,1,none⟩ f.pc).setCell ⟨w.heap.size+1,2,none⟩ (.slice lua RL.1.length luc)).setCell ⟨w.heap.size+1,3,none⟩ (.slice kua RK.1.length kuc)) (w.heap.size+1) #[f.fn,f.pc,.slice lua RL.1.length luc,.slice kua RK.1.length kuc] 63:=(((br4.set 0 _).set 1 _).set 2 _).set 3 _
  clear hku hsep2 hM4 hL4 hC4 hL3 hC3 hlu4 hsLK hsLT hLL hCC s4 bx4 hsep bx3 br3 nY3 b3 u2 br4
  go_wp2
  generalize ((((w4.setCell ⟨w.heap.size+1,0,none⟩ f.fn).setCell ⟨w.heap.size+1,1,none⟩ f.pc).setCell ⟨w.heap.size+1,2,none⟩ (.slice lua RL.1.length luc)).setCell ⟨w.heap.size+1,3,none⟩ (.slice kua RK.1.length kuc))=wF at *
  obtain ⟨y0,y1,y2,y3,_,_,_,_⟩:=cells4 hBF
  exact bodyPost_ret (v:=.agg #[f.fn,f.pc,.slice lua RL.1.length luc,.slice kua RK.1.length kuc]) (by simp [results,Try.results41,go_sem,y0,y1,y2,y3]) rfl FIN.out
end
end Go.Proofs.Ytnfnbcbadakofab
namespace Go.Proofs.Ytnfnbcbadakofab
open Go.RowKit
def flx (xs:List (Fr × Value × Value)):List Value:=xs.flatMap fun x=>[x.2.1,x.2.2]
theorem flx_mem {xs:List (Fr × Value × Value)} {u:Value} (h:u ∈ flx xs):∃ x ∈ xs,u=x.2.1 \/ u=x.2.2:=by
 unfold flx at h
 rw [List.mem_flatMap] at h
 obtain ⟨x,hx,hu⟩:=h
 exact ⟨x,hx,by simpa using hu⟩
theorem flx_1 {xs:List (Fr × Value × Value)} {x:Fr × Value × Value} (h:x ∈ xs):x.2.1 ∈ flx xs:=List.mem_flatMap.2 ⟨x,h,by simp⟩
theorem flx_2 {xs:List (Fr × Value × Value)} {x:Fr × Value × Value} (h:x ∈ xs):x.2.2 ∈ flx xs:=List.mem_flatMap.2 ⟨x,h,by simp⟩
theorem flx_snoc (xs:List (Fr × Value × Value)) (x:Fr × Value × Value):flx (xs++[x])=flx xs++[x.2.1,x.2.2]:=by simp [flx]
def Cst (rb:Nat) (bv:Value) (j:Nat):Prop:=j=rb \/ some j=bv.ownBlock
theorem frC_app (xs ys:List (Fr × Value × Value)):frC (xs++ys)=frC xs++frC ys:=by simp [frC]
theorem frC_set (xs ys:List (Fr × Value × Value)) (x:Fr × Value × Value) (f:Fr) (lu ku:Value) :
 ((((frC (xs++x::ys)).set (xs.length * 4) (.int .i64 f.fn)).set (xs.length * 4+1) (.int .i64 f.pc)).set (xs.length * 4+2) lu).set (xs.length * 4+3) ku=frC (xs++(f,lu,ku)::ys):=by
 have e:∀ z:Fr × Value × Value,frC (z::ys)=.int .i64 z.1.fn::.int .i64 z.1.pc::z.2.1::z.2.2::frC ys:=fun z=>by simp [frC]
 rw [frC_app,frC_app,e,e]
 have hl:=frC_len xs
 rw [List.set_append_right _ _ (by omega),List.set_append_right _ _ (by omega),List.set_append_right _ _ (by omega),List.set_append_right _ _ (by omega),hl]
 simp
section
variable {W1 w wr w':World} {rb mb:Nat} {s:ByteArray} {tv fv sv iv tov tov' rv bv wv:Value} {R:Rn} {V:RV} {m m':Mv} {cs:Array Value} {n:Nat} {xs ys:List (Fr × Value × Value)}
theorem RI.onlyF (h:RI W1 w rb s tv fv sv iv R V):OnlyF (Cst rb V.bv) w:=fun j cs e hb hs=>by
 rcases hs with q | q
 ·subst q
  by_cases he:e=65
  ·exact .inr he
  ·exact absurd rfl (hb.ne h.bx he)
 ·obtain ⟨cs',hb'⟩:=own_blk h.bb q.symm
  by_cases he:e=63
  ·exact .inl he
  ·exact absurd rfl (hb.ne hb' he)
structure CI (W1 w wr:World) (rb:Nat) (tv bv wv:Value) (mb:Nat) (tov rv:Value) (m:Mv) (cs:Array Value) (xs:List (Fr × Value × Value)) (n:Nat) (ys:List (Fr × Value × Value)):Prop where
 mi:MI (Cst rb bv) w wr mb tv wv tov rv m
 bx:Blk wr rb cs 65
 bb:wr.ownsRow W1.heap.size 63 4 bv n (frC ys)
 xx:∀ x ∈ xs,IntsV wr w.heap.size x.2.1 x.1.locals/\IntsV wr w.heap.size x.2.2 x.1.stack
 xt:∀ u ∈ flx xs,Sep u tov
 xr:∀ u ∈ flx xs,Sep u rv
 ff:(flx xs).Pairwise Sep
theorem CI.lts (h:CI W1 w wr rb tv bv wv mb tov rv m cs xs n ys) {u:Value} (hu:u ∈ flx xs):∀ g,u.ownBlock=some g->g < wr.heap.size:=by
 obtain ⟨x,hx,rfl | rfl⟩:=flx_mem hu
 ·exact (h.xx x hx).1.lts
 ·exact (h.xx x hx).2.lts
theorem CI.new (h:CI W1 w wr rb tv bv wv mb tov rv m cs xs n ys) (k:Chg () wr w'):CI W1 w w' rb tv bv wv mb tov rv m cs xs n ys:=
 ⟨h.mi.new k,h.bx.chg k (fun q=>q),own_chg h.bb k (fun _ _ q=>q),fun x hx=>⟨own_chg (h.xx x hx).1 k (fun _ _ q=>q),own_chg (h.xx x hx).2 k (fun _ _ q=>q)⟩,h.xt,h.xr,h.ff⟩
theorem CI.mv (h:CI W1 w wr rb tv bv wv mb tov rv m cs xs n ys) (hM:MI (Cst rb bv) w w' mb tv wv tov' rv m') (hL:Lies wr tov tov') (hC:Chg (MS mb tov rv) wr w'):CI W1 w w' rb tv bv wv mb tov' rv m' cs xs n ys:=by
 refine ⟨hM,h.mi.blk hC h.bx (by decide) (by decide),own_chg h.bb hC (fun g hg q=>?_),fun x hx=>⟨h.mi.keepL hC (h.xx x hx).1 (h.xt _ (flx_1 hx)) (h.xr _ (flx_1 hx)),h.mi.keepL hC (h.xx x hx).2 (h.xt _ (flx_2 hx)) (h.xr _ (flx_2 hx))⟩,fun u hu=>(h.xt u hu).lies hL (h.lts hu),h.xr,h.ff⟩
 obtain ⟨cs',hb⟩:=own_blk h.bb hg
 rcases q with q | q | q
 ·subst q;exact hb.ne h.mi.bx (by decide) rfl
 ·obtain ⟨c2,hb'⟩:=own_blk h.mi.tt q.symm;exact hb.ne hb' (by decide) rfl
 ·obtain ⟨c2,hb'⟩:=own_blk h.mi.rr q.symm;exact hb.ne hb' (by decide) rfl
theorem CI.frame (h:CI W1 w wr rb tv bv wv mb tov rv m cs xs n ys) {f:Fr} {lu ku:Value} (hlu:IntsV w' wr.heap.size lu f.locals) (hku:IntsV w' wr.heap.size ku f.stack) (s1:Sep lu ku) (s2:Sep lu tov') (s3:Sep ku tov') (hM:MI (Cst rb bv) w w' mb tv wv tov' rv m') (hL:Lies wr tov tov') (hC:Chg (MS mb tov rv) wr w') :
 CI W1 w w' rb tv bv wv mb tov' rv m' cs (xs++[(f,lu,ku)]) n ys:=by
 have h2:=h.mv hM hL hC
 have hs:w.heap.size<=wr.heap.size:=h.mi.ch.size
 refine ⟨hM,h2.bx,h2.bb,fun x hx=>?_,fun u hu=>?_,fun u hu=>?_,?_⟩
 ·rcases List.mem_append.1 hx with q | q
  ·exact h2.xx x q
  ·simp at q;subst q;exact ⟨own_mono hlu hs,own_mono hku hs⟩
 ·rw [flx_snoc] at hu
  rcases List.mem_append.1 hu with q | q
  ·exact h2.xt u q
  ·simp at q;rcases q with rfl | rfl
   ·exact s2
   ·exact s3
 ·rw [flx_snoc] at hu
  rcases List.mem_append.1 hu with q | q
  ·exact h2.xr u q
  ·simp at q;rcases q with rfl | rfl
   ·exact (Sep.new hlu h.mi.rr.lts).symm
   ·exact (Sep.new hku h.mi.rr.lts).symm
 ·rw [flx_snoc,List.pairwise_append]
  refine ⟨h.ff,by simpa using s1,fun u hu v hv=>?_⟩
  simp at hv;rcases hv with rfl | rfl
  ·exact Sep.new hlu (h.lts hu)
  ·exact Sep.new hku (h.lts hu)
theorem CI.turn (h:CI W1 w wr rb tv bv wv mb tov rv m cs xs n ys) {b:Nat} {c0 cs':Array Value} {e:TypeId} (hb:Blk wr b c0 e) (he:e=63 \/ e=65) (hs:Cst rb bv b) (k:Chg (fun j=>j=b) wr w') (hbx:Blk w' rb cs' 65) {ys':List (Fr × Value × Value)} (hbb:w'.ownsRow W1.heap.size 63 4 bv n (frC ys')):CI W1 w w' rb tv bv wv mb tov rv m cs' xs n ys':=by
 have e3:3 ≠ e:=by rcases he with rfl | rfl <;> decide
 have e158:e ≠ 97:=by rcases he with rfl | rfl <;> decide
 have q3:∀ (u:Value) (l:List Int) (base:Nat),IntsV wr base u l->IntsV w' base u l:=fun u l base hu=>own_chg hu k (fun g hg q=>own_ne hu hb e3 (by rw [hg,q]))
 refine ⟨⟨h.mi.ch.trans' k (fun i hi q=>by subst q;exact hs),h.mi.bx.chg k (fun q=>by subst q;exact hb.ne h.mi.bx e158 rfl),h.mi.nw,q3 _ _ _ h.mi.tt,q3 _ _ _ h.mi.rr,h.mi.sp⟩,hbx,hbb,fun x hx=>⟨q3 _ _ _ (h.xx x hx).1,q3 _ _ _ (h.xx x hx).2⟩,h.xt,h.xr,h.ff⟩
theorem CI.row {g bc:Nat} {zs:List (Fr × Value × Value)} {z:Fr × Value × Value} (h:CI W1 w wr rb tv (.slice (some ⟨g,0,none⟩) n bc) wv mb tov rv m cs xs n (zs++z::ys)) (hn:zs.length < n) (f:Fr) (lu ku:Value) :
 CI W1 w ((((wr.setCell ⟨g,zs.length * 4,none⟩ f.fn).setCell ⟨g,zs.length * 4+1,none⟩ f.pc).setCell ⟨g,zs.length * 4+2,none⟩ lu).setCell ⟨g,zs.length * 4+3,none⟩ ku) rb tv (.slice (some ⟨g,0,none⟩) n bc) wv mb tov rv m cs xs n (zs++(f,lu,ku)::ys):=by
 obtain ⟨c0,hb⟩:=own_blk h.bb (g:=g) rfl
 have k:Chg (fun j=>j=g) wr ((((wr.setCell ⟨g,zs.length * 4,none⟩ f.fn).setCell ⟨g,zs.length * 4+1,none⟩ f.pc).setCell ⟨g,zs.length * 4+2,none⟩ lu).setCell ⟨g,zs.length * 4+3,none⟩ ku):=
  ((((Chg.refl (fun j=>j=g) wr).setCell ⟨g,_,none⟩ _ (.inl rfl)).setCell ⟨g,_,none⟩ _ (.inl rfl)).setCell ⟨g,_,none⟩ _ (.inl rfl)).setCell ⟨g,_,none⟩ _ (.inl rfl)
 refine h.turn hb (.inl rfl) (.inr rfl) k (h.bx.chg k (fun q=>by subst q;exact h.bx.ne hb (by decide) rfl)) ?_
 have:=own_setIn (own_setIn (own_setIn (own_setIn h.bb (zs.length * 4) (by omega) (.int .i64 f.fn)) (zs.length * 4+1) (by omega) (.int .i64 f.pc)) (zs.length * 4+2) (by omega) lu) (zs.length * 4+3) (by omega) ku
 rwa [frC_set] at this
theorem row_slice {base:Nat} {e:TypeId} {sz:Nat} {v:Value} {l:List Value} (h:w.ownsRow base e sz v n l):∃ a c,v=.slice a n c:=by
 rcases h.2 with ⟨h1,h2⟩ | ⟨g,cap,cur,rfl,_⟩
 ·exact ⟨none,0,by rw [h1,h2]⟩
 ·exact ⟨_,_,rfl⟩
theorem CI.cells {zs:List (Fr × Value × Value)} {z:Fr × Value × Value} (h:CI W1 w wr rb tv bv wv mb tov rv m cs xs n (zs++z::ys)) (hn:zs.length < n) :
 ∃ g bc,bv=.slice (some ⟨g,0,none⟩) n bc/\n<=bc/\wr.cell? ⟨g,zs.length * 4,none⟩=some (.int .i64 z.1.fn)/\wr.cell? ⟨g,zs.length * 4+1,none⟩=some (.int .i64 z.1.pc)/\wr.cell? ⟨g,zs.length * 4+2,none⟩=some z.2.1/\wr.cell? ⟨g,zs.length * 4+3,none⟩=some z.2.2/\∃ c0,Blk wr g c0 63:=by
 have hb:=h.bb
 have hc:=fun g=>World.ownsRow.cells (g:=g) hb
 rcases hb.2 with ⟨_,h0⟩ | ⟨g,cap,cur,rfl,hb',hgg,hle,hcap,_⟩
 ·omega
 ·have hadd:∀ j,(⟨g,0,none⟩:Addr).add j=⟨g,j,none⟩:=by intro j;unfold Addr.add;split <;> simp_all
  have hj:zs.length < (zs++z::ys).length:=by simp
  obtain ⟨k1,k2,k3,k4⟩:=frC_get (zs++z::ys) zs.length hj
  have e:(zs++z::ys)[zs.length]=z:=by simp
  rw [e] at k1 k2 k3 k4
  have a1:=hc g rfl _ _ k1
  have a2:=hc g rfl _ _ k2
  have a3:=hc g rfl _ _ k3
  have a4:=hc g rfl _ _ k4
  rw [hadd] at a1 a2 a3 a4
  exact ⟨g,cap,rfl,hle,a1,a2,a3,a4,cur,hgg⟩
theorem CI.start (h:RI W1 w rb s tv fv sv iv R V) {to re:Nat} {W:World} (k:Chg () w W) (bt:Blk W to (madeCells #[oO] R.words.length) 3) (br:Blk W re (madeCells #[oO] R.words.length) 3) (bm:Blk W mb #[tv,V.wv,.slice to 0 R.words.length,.slice re R.words.length R.words.length] 97)
 (h1:w.heap.size<=to) (h2:w.heap.size<=re) (h3:w.heap.size<=mb) (hne:to ≠ re) (hl:R.words.length<=4000) :
 CI W1 w W rb tv V.bv V.wv mb (.slice to 0 R.words.length) (.slice re R.words.length R.words.length) ⟨[],List.replicate R.words.length 0⟩ (rcs s tv fv sv iv R V) [] V.xs.length V.xs:=by
 have hm:R.words.length<=maxLen:=by unfold maxLen;omega
 refine ⟨⟨k.ofNew,bm,h3,?_,?_,?_⟩,h.bx.chg k (fun q=>q),own_chg h.bb k (fun _ _ q=>q),by simp,by simp [flx],by simp [flx],by simp [flx]⟩
 ·exact ⟨by simp [ints],.inr ⟨to,R.words.length,_,rfl,h1,bt,Nat.zero_le _,hm,by rw [size_madeCells,Nat.mul_one],by simp [ints]⟩⟩
 ·have:=own_made (base:=w.heap.size) br h2 hm
  unfold IntsV ints
  simpa using this
 ·intro g hg hg'
  simp [Value.ownBlock] at hg hg'
  omega
theorem CI.fin (h0:RI W1 w rb s tv fv sv iv R V) {f:Fr} {lu ku:Value} (hn:xs.length=V.xs.length) (h:CI W1 w wr rb tv V.bv V.wv mb tov rv m (rcs s tv fv sv iv { R with words:=m.to,below:=xs.map (·.1),top:=f } ⟨tov,V.bv,lu,ku,V.ov,xs⟩) (xs++[(f,lu,ku)]) V.xs.length xs):KR w wr/\RI W1 wr rb s tv fv sv iv { R with words:=m.to,below:=xs.map (·.1),top:=f } ⟨tov,V.bv,lu,ku,V.ov,xs⟩:=by
 have hS:OnlyF (Cst rb V.bv) w:=h0.onlyF
 have hle:W1.heap.size<=w.heap.size:=h0.ch.size
 have hf:=h.xx (f,lu,ku) (by simp)
 have ho:IntsV wr W1.heap.size V.ov R.out:=hS.ints h.mi.ch h0.oo
 have hff:=h.ff
 rw [flx_snoc,List.pairwise_append] at hff
 obtain ⟨f1,f2,f3⟩:=hff
 have hlk:Sep lu ku:=by simpa using f2
 have hnew:∀ (u:Value) (l:List Int),IntsV wr w.heap.size u l->Sep u V.ov:=fun u l hu=>(Sep.new hu h0.oo.lts).symm
 have hmem:∀ x ∈ xs,x ∈ xs++[(f,lu,ku)]:=fun x hx=>List.mem_append_left _ hx
 have hmu:∀ u ∈ flx xs,u ∈ flx (xs++[(f,lu,ku)]):=fun u hu=>by rw [flx_snoc];exact List.mem_append_left _ hu
 refine ⟨⟨h.mi.ch.size,fun b cs e hb h3 h123 h125=>hb.chg h.mi.ch (fun q=>by rcases hS b cs e hb q with r | r;exact h123 r;exact h125 r)⟩,?_⟩
 refine ⟨h0.ch.trans' h.mi.ch (fun i hi q=>?_),h.bx,own_mono h.mi.tt hle,own_mono hf.1 hle,own_mono hf.2 hle,ho,rfl,by rw [hn];exact h.bb,fun x hx=>⟨own_mono (h.xx x (hmem x hx)).1 hle,own_mono (h.xx x (hmem x hx)).2 hle⟩,?_⟩
 ·rcases q with q | q
  ·exact q
  ·have hbk:∀ {b':Nat} {e:TypeId} {sz n':Nat} {l:List Value},w.ownsRow b' e sz V.bv n' l->b'<=i:=fun {b' e sz n' l} ho=>by
    rcases ho.2 with ⟨r,_⟩ | ⟨g,cap,cur,r,hb,_⟩
    ·rw [r] at q;cases q
    ·rw [r] at q;simp [Value.ownBlock] at q;omega
   have:=hbk h0.bb
   omega
 ·refine ⟨(h.xt _ (flx_1 (x:=(f,lu,ku)) (by simp))).symm,(h.xt _ (flx_2 (x:=(f,lu,ku)) (by simp))).symm,hnew _ _ h.mi.tt,hlk,hnew _ _ hf.1,hnew _ _ hf.2,fun u hu=>h.xt u (hmu u hu),fun u hu=>f3 u hu lu (by simp),fun u hu=>f3 u hu ku (by simp),fun u hu=>?_,f1⟩
  obtain ⟨x,hx,rfl | rfl⟩:=flx_mem (xs:=xs) hu
  ·exact hnew _ _ (h.xx x (hmem x hx)).1
  ·exact hnew _ _ (h.xx x (hmem x hx)).2
theorem mvFr_bd {c:Cx} {frm:List Int} (hfv:∀ v ∈ frm,0<=v/\v<=65535) (hl:frm.length<=4000) (h5:∀ t,(flds c.ls t).length<=5) (f:Fr) (m:Mv) (h:MB frm m):MB frm (mvFr c frm f m).2:=
 (mvL_bd hfv hl h5 f.stack 0 _ (mvL_bd hfv hl h5 f.locals 0 m h).1).1
end
theorem cut4 {K:Act->World->Prop} {Q:Exit->Act->World->Prop} {act:World->Nat->Nat->Nat->Act} {C:World->Nat->Nat->Nat->Prop} {G:Prop} (h2:(∀ W a b c,C W a b c->Exit.then K Q .normal (act W a b c) W)->G) (h1:∀ W a b c,C W a b c->Exit.then K Q .normal (act W a b c) W):G:=h2 h1
theorem three_blk (w:World) (c0 c1 c2:Array Value) (e0 e1 e2:TypeId):Blk (((w.alloc (.cells c0 e0)).alloc (.cells c1 e1)).alloc (.cells c2 e2)).drew w.heap.size c0 e0/\Blk (((w.alloc (.cells c0 e0)).alloc (.cells c1 e1)).alloc (.cells c2 e2)).drew (w.heap.size+1) c1 e1/\Blk (((w.alloc (.cells c0 e0)).alloc (.cells c1 e1)).alloc (.cells c2 e2)).drew (w.heap.size+1+1) c2 e2/\Chg () w (((w.alloc (.cells c0 e0)).alloc (.cells c1 e1)).alloc (.cells c2 e2)).drew:=
 ⟨((((Blk.new w c0 e0).alloc _).alloc _)).drew,((Blk.new' (w:=w.alloc (.cells c0 e0)) (by simp) c1 e1).alloc _).drew,(Blk.new' (w:=(w.alloc (.cells c0 e0)).alloc (.cells c1 e1)) (by simp) c2 e2).drew,((((Chg.refl _ w).alloc _).alloc _).alloc _).drew⟩
end Go.Proofs.Ytnfnbcbadakofab
