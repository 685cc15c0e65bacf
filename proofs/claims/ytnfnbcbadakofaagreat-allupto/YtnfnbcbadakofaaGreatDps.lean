import Derived.Test.YtnfnbcbadakofaaGreatRin
namespace Go.Proofs.YtnfnbcbadakofaaGreat
open Go.RowKit
set_option maxHeartbeats 2000000
set_option maxRecDepth 100000
theorem aT (rb m fc:Nat) (fa:Option Addr) (w:World) (h:w.cell? ⟨rb,5,none⟩=some (.slice fa (m+1) fc)) (hm:m<=10000) :
 Calls Tryz.prog 56 #[.pointer rb] w fun e w'=>e=.returned (.int .i64 (m:Int))/\w'=w:=by
 go_enter Tryz.func56,Tryz.ntmps56
 go_wp2
 go_ret
 exact ⟨by simp,rfl⟩
section
variable {W1 w w':World} {rb:Nat} {tv fv:Value} {D:Dn} {V:DV}
theorem DI.fv_blk (h:DI W1 w rb tv fv D V) {g n cap:Nat} (hg:V.fv=.slice g n cap):rb ≠ g/\(frw V).v.ownBlock=some g:=by
 have hfv:(frw V).v.ownBlock=some g:=by show V.fv.ownBlock=_;rw [hg];rfl
 exact ⟨fun q=>h.nrb ⟨frw V,by simp [aw],by rw [hfv,q]⟩,hfv⟩
theorem DI.fe_top (h:DI W1 w rb tv fv D V) (hs:D.status=0 \/ D.status=2) {xs:List (DFr × Value × Value)} {lv kv:Value} (e:V.fs=xs++[(D.top,lv,kv)]) {t:DFr} {lv' kv':Value} {D':Dn} (hb:D'.below=D.below) (ht:D'.top=t) (hs':D'.status=D.status):(xs++[(t,lv',kv')]).map (·.1)=az D':=by
 have e':=h.fe
 rw [e] at e'
 unfold az at e' ⊢
 rw [if_pos hs] at e'
 rw [hs',if_pos hs,hb,ht]
 simp only [List.map_append,List.map_cons,List.map_nil] at e' ⊢
 obtain ⟨q,_⟩:=List.append_inj' e' rfl
 rw [q]
theorem pq {base:Nat} {g cap:Nat} (h:DI W1 w rb tv fv D V) (hg:V.fv=.slice g V.fs.length cap) {L:List Rw} {w0:World} {L0:List Rw} (o:OE base rb w0 L0 w' (frw V::L)) {i:Nat} (hi:i < V.fs.length * 4) {u:Value} {V':DV} (hV:V'.fv=V.fv) (hl:V'.fs.length=V.fs.length) (es:(dfC V.fs).set i u=dfC V'.fs) :
 OE base rb w0 L0 (w'.setCell ⟨g,i,none⟩ u) (frw V'::L):=by
 have hx:=o.ow.ok (frw V) (by simp)
 unfold frw at hx
 simp only [hg] at hx
 have hx2:=a8 hx i hi u
 rw [es] at hx2
 refine o.upd (r':=frw V') (S:=fun j=>j=g) ((Chg.refl _ _).setCell _ _ (.inl rfl)) (fun j q=>.inr (by rw [q];exact (h.fv_blk hg).2)) ?_ (.inl (by show V'.fv.ownBlock=V.fv.ownBlock;rw [hV]))
 unfold frw
 simp only [hV,hl,hg]
 exact hx2
theorem DI.frame (h:DI W1 w rb tv fv D V) (hs:D.status=0 \/ D.status=2) {xs:List (DFr × Value × Value)} {lv kv kv':Value} {l':List (Int × Bool)} {g cap:Nat} (e:V.fs=xs++[(D.top,lv,kv)]) (hg:V.fv=.slice g (xs.length+1) cap)
 (k:Chg (fun j=>some j=kv.ownBlock) w w') (ho:aO w' W1.heap.size kv' l') (hl:bD w kv kv') :
 ∃ V',DI W1 (w'.setCell ⟨g,xs.length * 4+3,none⟩ kv') rb tv fv { D with top:={ D.top with stack:=l' } } V'/\Ev rb (aw V D.out) w (aw V' D.out) (w'.setCell ⟨g,xs.length * 4+3,none⟩ kv')/\∀ j,bN (aw V' D.out) j->bN (aw V D.out) j \/ kv'.ownBlock=some j:=by
 have hlen:V.fs.length=xs.length+1:=by rw [e];simp
 have p1:(aw V D.out).Perm (vrw kv D.top.stack::frw V::rrw V::orw V D.out::(fsr xs++vrw lv D.top.locals::rsr V.rs)):=by
  have:aw V D.out=(frw V::rrw V::orw V D.out::(fsr xs++[vrw lv D.top.locals]))++vrw kv D.top.stack::rsr V.rs:=by simp [aw,e,fsr]
  rw [this]
  refine List.perm_middle.trans ?_
  simp
 have o2:=(h.oe.perm p1).upd (r':=vrw kv' l') k (fun j q=>.inr q.symm) ho hl
 have o4:=pq (V':={ V with fs:=xs++[({ D.top with stack:=l' },lv,kv')] }) (i:=xs.length * 4+3) (u:=kv') h (by rw [hlen];exact hg) (o2.perm (List.Perm.swap _ _ _)) (by rw [hlen];omega) rfl (by simp [hlen]) (by
  rw [e,dy,dy,List.set_append_right _ _ (by rw [dE];omega),dE,show xs.length * 4+3 - xs.length * 4=3 by omega];rfl)
 have hb:=(h.bx.chg k (fun q=>h.nrb ((ck p1).2 ⟨vrw kv D.top.stack,by simp,q.symm⟩))).setOther ⟨g,xs.length * 4+3,none⟩ kv' (h.fv_blk hg).1
 obtain ⟨V',hV'⟩:∃ V':DV,V' = { V with fs:=xs++[({ D.top with stack:=l' },lv,kv')] }:=⟨_,rfl⟩
 rw [<-hV'] at o4
 have hp:(frw V'::vrw kv' l'::rrw V::orw V D.out::(fsr xs++vrw lv D.top.locals::rsr V.rs)).Perm (aw V' D.out):=by
  have:aw V' D.out=(frw V'::rrw V::orw V D.out::(fsr xs++[vrw lv D.top.locals]))++vrw kv' l'::rsr V.rs:=by rw [hV'];simp [aw,fsr,rrw,orw]
  rw [this]
  refine List.Perm.trans ?_ List.perm_middle.symm
  simpa using List.Perm.swap (vrw kv' l') (frw V') _
 refine ⟨V',⟨h.ev o4.ev,by rw [hV'];exact hb,h.rn,o4.ow.perm hp,by rw [hV'];exact h.fe_top hs e rfl rfl rfl,by rw [hV'];exact h.re⟩,o4.ev.perm (.refl _) hp,fun j hj=>?_⟩
 obtain ⟨r,hr,q⟩:=(ck hp).2 hj
 simp only [List.mem_cons] at hr
 rcases hr with rfl | rfl | hr
 ·exact .inl ⟨frw V,by simp [aw],by rw [<-q,hV'];rfl⟩
 ·exact .inr q
 ·exact .inl ((ck p1).2 ⟨r,by simp only [List.mem_cons];exact .inr (.inr hr),q⟩)
theorem aO.snoc {base:Nat} {g cap n:Nat} {l:List (Int × Bool)} {x:Int × Bool} (hn:n=l.length) (h:w.ownsRow base 104 2 (.slice g (n+1) cap) (n+1) (vlC l++[.int .i64 x.1,.bool x.2])):aO w base (.slice g (n+1) cap) (l++[x]):=by
 subst hn;unfold aO;rw [jI,List.length_append];exact h
theorem aG.off {wA w'':World} {b:Nat} {out:List Int} {D':Dn} (h:aG W1 wA rb tv fv V out D' w') (k0:Chg () w wA) (hW:W1.heap.size<=w.heap.size) (hb:w.heap.size<=b) (hb2:b < wA.heap.size) (hrb:b ≠ rb) (hnb:¬ bN (aw V out) b) (k:Chg (fun j=>j=b) w' w''):aG W1 w rb tv fv V out D' w'':=by
 obtain ⟨V',d,ev⟩:=h
 have hn:¬ bN (aw V' D'.out) b:=fun q=>(ev.nw b q).elim hnb (fun z=>by omega)
 refine ⟨V',⟨d.ch.trans' k (fun i hi q=>by omega),d.bx.chg k (fun q=>hrb q.symm),d.rn,d.ow.off k (fun j hj q=>hn (by rw [<-q];exact hj)),d.fe,d.re⟩,⟨?_,fun j hj=>(ev.nw j hj).imp id (fun z=>Nat.le_trans k0.size z)⟩⟩
 exact ((k0.mono (fun _ _ q=>q.elim)).trans ev.ch).trans' k (fun i hi q=>by omega)
theorem DI.old (h:DI W1 w rb tv fv D V) {b:Nat} (hb:w.heap.size<=b):¬ bN (aw V D.out) b:=fun q=>by have:=h.ow.lt q;omega
theorem bS (h:DI W1 w rb tv fv D V) (hs:D.status=0 \/ D.status=2) (n:Int) (b:Bool) (hb:D.below.length<=1000) (hl:D.top.stack.length<=1000) :
 Calls Tryz.prog 57 #[.pointer rb,n,.bool b] w fun e w'=>e=.returned (.tuple #[])/\aG W1 w rb tv fv V D.out { D with top:=aD D.top (n,b) } w':=by
 obtain ⟨xs,lv,kv,e,hxs⟩:=h.top hs
 obtain ⟨g,cap,hg,hg1,hg2,hc1,hc2,c0,c1,c2,c3,fz,gcs,gb⟩:=h.frs e
 have hxl:xs.length<=1000:=by rw [<-hxs,List.length_map] at hb;exact hb
 have hk:aO w W1.heap.size kv D.top.stack:=h.ow.ok (vrw kv D.top.stack) (by simp [aw,fsr,e])
 obtain ⟨ka,kc,rfl⟩:=hk.slice
 have x5:w.cell? ⟨rb,5,none⟩=some (.slice g (xs.length+1) cap):=by rw [<-hg];exact h.bx.cell 5
 obtain ⟨i,hi1,hi2,hi3,hi4⟩:=gQ
 have Hi1:=hid hi1
 have Hi2:=hid hi2
 have Hi3:=hid hi3
 have Hi4:=hid hi4
 have H:=hid h
 have HS:=hid hs
 have HE:=hid e
 have HG:=hid hg
 have HK:=hid hk
 have f3:=fz (xs.length * 4+3)
 clear hi1 hi2 hi3 hi4 h hs e hg hxs hb fz hk
 go_enter Tryz.func57,Tryz.ntmps57
 go_wp2_with fail
 refine (aT rb xs.length cap _ w x5 (by omega)).mono ?_
 rintro e w' ⟨rfl,hw⟩
 have hw:=hw.symm
 subst hw
 have hrl:=H.out.bx.lt
 have hr1:rb ≠ w.heap.size:=Nat.ne_of_lt hrl
 have hr1':=hr1.symm
 have hg3:g ≠ w.heap.size:=Nat.ne_of_lt hg2
 have hg3':=hg3.symm
 have j1:Chg () w (w.alloc (Obj.cells #[n,.bool b] 104)).drew:=((Chg.refl _ w).alloc _).drew
 have HROW:Hid ((w.alloc (Obj.cells #[n,.bool b] 104)).drew.ownsRow W1.heap.size 104 2 (.slice ka D.top.stack.length kc) D.top.stack.length (vlC D.top.stack)):=af HK.out j1 (fun _ _ q=>q)
 have HNW:Hid (∀ j u,[Value.int .i64 n,.bool b][j]?=some u->(w.alloc (Obj.cells #[n,.bool b] 104)).drew.cell? ((⟨w.heap.size,0,none⟩:Addr).add j)=some u):=World.news_of_block (B:=w.heap.size) (cs:=#[.int .i64 n,.bool b]) (Blk.new' rfl _ 104).drew
 have hb3:W1.heap.size<=w.heap.size:=H.out.ch.size
 have hix:(xs.length:Int) < (xs.length:Int)+1:=by omega
 have H5:=hid (H.out.new j1)
 go_wp2_with fail
 go_region_law (refine step_append_lies _ rfl (.tmp 21) (.tmp 25) 70 rfl W1.heap.size 104 i (.agg #[oO,.bool false]) 2 16 Tryz.underlying70 Hi1.out Hi2.out Hi3.out Hi4.out rfl (by decide) (.slice ka D.top.stack.length kc) D.top.stack.length (vlC D.top.stack) (by simp [Act.eval]) (by exact HROW.out) ⟨w.heap.size,0,none⟩ 1 1 [.int .i64 n,.bool b] (by simp [Act.eval]) rfl (by exact HNW.out) (by intro u hu;simp only [List.mem_cons,List.not_mem_nil,or_false] at hu;rcases hu with rfl | rfl <;> rfl) (by decide) (by unfold maxLen;omega) (by omega) (by simp;omega) (w.heap.size+1) (by simp) ?_;intro gg cap2 w4 hown hgrow hat hlt4;have hch4:Chg (fun j=>some j=(Value.slice ka D.top.stack.length kc).ownBlock) (w.alloc (Obj.cells #[n,.bool b] 104)).drew w4:=(aM hgrow).mono (fun _ _ q=>q);have hbk:=H5.out.bx.chg hch4 (fun q=>ao HROW.out H5.out.bx (by decide) q.symm);have hgk:Blk w4 g gcs 72:=(gb.chg j1 (fun q=>q)).chg hch4 (fun q=>ao HROW.out (gb.chg j1 (fun q=>q)) (by decide) q.symm);have yf:=hgk.frozen (xs.length * 4+3);have yc:w4.cell? ⟨g,xs.length * 4+3,none⟩=some (.slice ka D.top.stack.length kc):=(hgk.cell _).trans ((gb.cell _).symm.trans c3);have y5:w4.cell? ⟨rb,5,none⟩=some (.slice g (xs.length+1) cap):=by rw [<-HG.out];exact hbk.cell 5)
 all_goals
  obtain ⟨V',d',ev',_⟩:=H5.out.frame HS.out HE.out HG.out hch4 (aO.snoc (x:=(n,b)) rfl hown) (by
   rcases hat with q | q
   ·exact .inl q.symm
   ·exact .inr ⟨gg,rfl,by rw [q];simp [World.drew]⟩)
  have FIN:Hid (aG W1 w rb tv fv V D.out { D with top:=aD D.top (n,b) } (w4.setCell ⟨g,xs.length * 4+3,none⟩ (.slice gg (D.top.stack.length+1) cap2))):=⟨V',d',(Ev.new rb _ j1).trans ev'⟩
  clear hbk y5 yf yc hgk hown hgrow hat hch4 d' ev'
  go_wp2
  exact bodyPost_end (v:=.tuple #[]) (by simp [results,Tryz.results57]) rfl ⟨rfl,FIN.out⟩
end
end Go.Proofs.YtnfnbcbadakofaaGreat
