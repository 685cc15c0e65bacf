import Derived.Test.YtnfnbcbadakofaaGreatDps
namespace Go.Proofs.YtnfnbcbadakofaaGreat
open Go.RowKit
theorem aO.form {w:World} {base:Nat} {v:Value} {l:List (Int × Bool)} (h:aO w base v l) (hl:0 < l.length):∃ g cap,v=.slice (some ⟨g,0,none⟩) l.length cap/\base<=g/\g < w.heap.size/\l.length<=cap/\cap<=maxLen /\
 (∀ j,j < l.length->w.cell? ⟨g,j * 2,none⟩=some (.int .i64 (l.getD j (0,false)).1)/\w.cell? ⟨g,j * 2+1,none⟩=some (.bool (l.getD j (0,false)).2))/\∃ cs,Blk w g cs 104:=by
 have hc:=fun g=>World.ownsRow.cells (g:=g) h
 rcases h.2 with ⟨_,h0⟩ | ⟨g,cap,cur,hv,hb,hgg,hle,hcap,_⟩
 ·omega
 ·have hq:∀ i v,(vlC l)[i]?=some v->w.cell? ⟨g,i,none⟩=some v:=fun i v hi=>by
   have:=hc g (by rw [hv];rfl) i v hi
   have hadd:(⟨g,0,none⟩:Addr).add i=⟨g,i,none⟩:=by unfold Addr.add;split <;> simp_all
   rwa [hadd] at this
  have hv2:∀ (l:List (Int × Bool)) j,j < l.length->(vlC l)[j * 2]?=some (.int .i64 (l.getD j (0,false)).1)/\(vlC l)[j * 2+1]?=some (.bool (l.getD j (0,false)).2):=by
   intro l
   induction l with
   | nil=>intro j hj;simp at hj
   | cons x l ih =>
    intro j hj
    cases j with
    | zero=>exact ⟨rfl,rfl⟩
    | succ j =>
     have:=ih j (by simpa using hj)
     rw [show (j+1) * 2=j * 2+2 by omega]
     simpa [vlC] using this
  refine ⟨g,cap,hv,hb,(Array.getElem?_eq_some_iff.1 hgg).1,by omega,hcap,fun j hj=>⟨hq _ _ (hv2 l j hj).1,hq _ _ (hv2 l j hj).2⟩,cur,hgg⟩
theorem aO.take {w:World} {base:Nat} {a:Option Addr} {n cap:Nat} {l:List (Int × Bool)} (h:aO w base (.slice a n cap) l) (k:Nat) (hk:k<=l.length) (hl:0 < l.length):aO w base (.slice a k cap) (l.take k):=by
 have hlen:(l.take k).length=k:=by rw [List.length_take];omega
 have ht:∀ (l:List (Int × Bool)) k,vlC (l.take k)=(vlC l).take (k * 2):=by
  intro l
  induction l with
  | nil=>intro k;simp [vlC]
  | cons x l ih=>intro k;cases k with | zero=>rfl | succ k=>rw [show (k+1) * 2=k * 2+2 by omega];simpa [vlC] using ih k
 unfold aO
 rw [hlen]
 refine ⟨by rw [lK,hlen],?_⟩
 rcases h.2 with ⟨_,h0⟩ | ⟨g,cap',cur,hv,hb,hgg,hle,hcap,hcs,htk⟩
 ·omega
 ·simp only [Value.slice.injEq] at hv
  obtain ⟨rfl,_,rfl⟩:=hv
  refine .inr ⟨g,cap,cur,rfl,hb,hgg,by omega,hcap,hcs,?_⟩
  rw [ht,<-htk,List.take_take]
  congr 1
  omega
section
variable {W1 w w':World} {rb:Nat} {tv fv:Value} {D:Dn} {V:DV}
set_option maxHeartbeats 2000000 in
set_option maxRecDepth 100000 in
theorem cA (h:DI W1 w rb tv fv D V) (hs:D.status=0 \/ D.status=2) (hb:D.below.length<=1000) (hl:D.top.stack.length<=1000) (h0:0 < D.top.stack.length) :
 Calls Tryz.prog 59 #[.pointer rb] w fun e w'=>e=.returned (.agg #[.int .i64 (au D.top.stack).1,.bool (au D.top.stack).2])/\aG W1 w rb tv fv V D.out { D with top:=ax D.top } w':=by
 have k0:Chg () w (w.alloc (Obj.cells #[oO,.bool false] 104)):=(Chg.refl _ w).alloc _
 have nB:=Blk.new w #[.int .i64 0,.bool false] 104
 have hwl:w.heap.size<=w.heap.size:=Nat.le_refl _
 have hrb:rb ≠ w.heap.size:=Nat.ne_of_lt h.bx.lt
 have h1:=h.new k0
 obtain ⟨xs,lv,kv,e,hxs⟩:=h1.top hs
 obtain ⟨g,cap,hg,hg1,hg2,hc1,hc2,c0,c1,c2,c3,fz,gcs,gb⟩:=h1.frs e
 have hxl:xs.length<=1000:=by rw [<-hxs,List.length_map] at hb;exact hb
 have hk0:aO w W1.heap.size kv D.top.stack:=h.ow.ok (vrw kv D.top.stack) (by simp [aw,fsr,e])
 have hk:aO (w.alloc (Obj.cells #[oO,.bool false] 104)) W1.heap.size kv D.top.stack:=af hk0 k0 (fun _ _ q=>q)
 obtain ⟨g2,kc,rfl,_,_,hkc,_,hcc,gcs2,gb2⟩:=hk.form h0
 have hg2n:g2 ≠ w.heap.size:=Nat.ne_of_lt (cy hk0 rfl).2
 have hgn:g ≠ w.heap.size:=gb.ne nB (by decide)
 obtain ⟨m,hm⟩:∃ m,D.top.stack.length=m+1:=⟨D.top.stack.length - 1,by omega⟩
 obtain ⟨y0,y1⟩:=hcc m (by omega)
 have hgl:D.top.stack.getD m (0,false)=au D.top.stack:=by
  unfold au
  rw [List.getD_eq_getElem?_getD,List.getLastD_eq_getLast?,List.getLast?_eq_getElem?,hm];rfl
 rw [hgl] at y0 y1
 have x5:(w.alloc (Obj.cells #[oO,.bool false] 104)).cell? ⟨rb,5,none⟩=some (.slice g (xs.length+1) cap):=by rw [<-hg];exact h1.bx.cell 5
 have hdl:ax D.top = { D.top with stack:=D.top.stack.take m }:=by unfold ax;rw [List.dropLast_eq_take,hm];rfl
 have FIN:Hid (∀ w',Chg () (w.alloc (Obj.cells #[oO,.bool false] 104)) w'->aG W1 (w.alloc (Obj.cells #[oO,.bool false] 104)) rb tv fv V D.out { D with top:=ax D.top } (w'.setCell ⟨g,xs.length * 4+3,none⟩ (.slice g2 m kc))):=fun w' k=>by
  rw [hdl]
  obtain ⟨V',d',ev',_⟩:=(h1.new k).frame hs (kv':=.slice g2 m kc) (l':=D.top.stack.take m) e hg (Chg.refl _ _) (aO.take (af hk k (fun _ _ q=>q)) m (by omega) h0) (.inl rfl)
  exact ⟨V',d',(Ev.new rb _ k).trans ev'⟩
 have f3:=fz (xs.length * 4+3)
 rw [hm] at c3 hkc hl
 generalize au D.top.stack=x at *
 have hix:(xs.length:Int) < (xs.length:Int)+1:=by omega
 have hmm:(m:Int) < (m:Int)+1:=by omega
 have GB:=hid gb
 have HOFF:Hid (∀ (w' w'':World),aG W1 (w.alloc (Obj.cells #[oO,.bool false] 104)) rb tv fv V D.out { D with top:=ax D.top } w'->Chg (fun j=>j=w.heap.size) w' w''->aG W1 w rb tv fv V D.out { D with top:=ax D.top } w''):=fun w' w'' hd k=>hd.off k0 h.ch.size (Nat.le_refl _) nB.lt hrb.symm (h.old (Nat.le_refl _)) k
 have HRB:=hid (h1.bx)
 have HG:=hid hg
 clear h h1 hs e hg hxs hb fz hk hk0 hcc gb hdl hgl gb2
 go_enter Tryz.func59,Tryz.ntmps59
 go_wp2_with fail
 refine (aT rb xs.length cap _ _ x5 (by omega)).mono ?_
 rintro e w' ⟨rfl,hw⟩
 have hw:=hw.symm
 subst hw
 go_wp2
 have k2:Chg () (w.alloc (Obj.cells #[oO,.bool false] 104)) ((w.alloc (Obj.cells #[oO,.bool false] 104)).alloc (Obj.cells #[x.1,.bool x.2] 104)):=(Chg.refl _ _).alloc _
 have z5:((w.alloc (Obj.cells #[oO,.bool false] 104)).alloc (Obj.cells #[x.1,.bool x.2] 104)).cell? ⟨rb,5,none⟩=some (.slice g (xs.length+1) cap):=by rw [<-HG.out];exact (HRB.out.chg k2 (fun q=>q)).cell 5
 have z3:((w.alloc (Obj.cells #[oO,.bool false] 104)).alloc (Obj.cells #[x.1,.bool x.2] 104)).cell? ⟨g,xs.length * 4+3,none⟩=some (.slice g2 (m+1) kc):=((GB.out.chg k2 (fun q=>q)).cell _).trans ((GB.out.cell _).symm.trans c3)
 have zf:=(GB.out.chg k2 (fun q=>q)).frozen (xs.length * 4+3)
 have FI:=FIN.out _ k2.drew
 have nV:Blk ((w.alloc (Obj.cells #[oO,.bool false] 104)).alloc (Obj.cells #[x.1,.bool x.2] 104)) (w.alloc (Obj.cells #[oO,.bool false] 104)).heap.size #[x.1,.bool x.2] 104:=Blk.new _ _ 104
 have kg:Chg (fun j=>j=g) ((w.alloc (Obj.cells #[oO,.bool false] 104)).alloc (Obj.cells #[x.1,.bool x.2] 104)) (((w.alloc (Obj.cells #[oO,.bool false] 104)).alloc (Obj.cells #[x.1,.bool x.2] 104)).setCell ⟨g,xs.length * 4+3,none⟩ (.slice g2 m kc)).drew:=(Chg.setCell (S:=fun j=>j=g) (Chg.refl _ _) _ _ (.inl rfl)).drew
 have bR:=(nB.chg k2 (fun q=>q)).chg kg (fun q=>hgn q.symm)
 have bV:=nV.chg kg (fun q=>(GB.out.chg k2 (fun q=>q)).ne nV (by decide) q.symm)
 have FI':Hid (aG W1 (w.alloc (Obj.cells #[oO,.bool false] 104)) rb tv fv V D.out { D with top:=ax D.top } (((w.alloc (Obj.cells #[oO,.bool false] 104)).alloc (Obj.cells #[x.1,.bool x.2] 104)).setCell ⟨g,xs.length * 4+3,none⟩ (.slice g2 m kc)).drew):=FI
 clear x5 c0 c1 c2 c3 f3 y0 y1 FIN FI nV nB kg
 go_region
 clear z5 z3 zf GB HRB HG k2
 generalize (((w.alloc (Obj.cells #[oO,.bool false] 104)).alloc (Obj.cells #[x.1,.bool x.2] 104)).setCell ⟨g,xs.length * 4+3,none⟩ (.slice g2 m kc)).drew=W3 at *
 have hsz:(w.alloc (Obj.cells #[oO,.bool false] 104)).heap.size=w.heap.size+1:=by simp
 rw [hsz] at bV
 have v0:W3.cell? ⟨w.heap.size+1,0,none⟩=some (.int .i64 x.1):=bV.cell 0
 have v1:W3.cell? ⟨w.heap.size+1,1,none⟩=some (.bool x.2):=bV.cell 1
 have r0:W3.cell? ⟨w.heap.size,0,none⟩=some (.int .i64 0):=bR.cell 0
 have r1:W3.cell? ⟨w.heap.size,1,none⟩=some (.bool false):=bR.cell 1
 have q0:=bR.frozen 0
 have q1:=bR.frozen 1
 go_wp2
 have kB:Chg (fun j=>j=w.heap.size) W3 ((W3.setCell ⟨w.heap.size,0,none⟩ x.1).setCell ⟨w.heap.size,1,none⟩ (.bool x.2)):=Chg.setCell (S:=fun j=>j=w.heap.size) (Chg.setCell (S:=fun j=>j=w.heap.size) (Chg.refl _ _) _ _ (.inl rfl)) _ _ (.inl rfl)
 have bF:=(bR.set 0 (.int .i64 x.1)).set 1 (.bool x.2)
 have FF:=HOFF.out _ _ FI'.out kB
 clear kB v0 v1 r0 r1 q0 q1 bR bV FI' HOFF
 generalize ((W3.setCell ⟨w.heap.size,0,none⟩ x.1).setCell ⟨w.heap.size,1,none⟩ (.bool x.2))=WF at *
 have q0:WF.cell? ⟨w.heap.size,0,none⟩=some (.int .i64 x.1):=bF.cell 0
 have q1:WF.cell? ⟨w.heap.size,1,none⟩=some (.bool x.2):=bF.cell 1
 exact bodyPost_ret (v:=.agg #[x.1,.bool x.2]) (by simp [results,Tryz.results59,go_sem,q0,q1]) rfl ⟨rfl,FF⟩
end
end Go.Proofs.YtnfnbcbadakofaaGreat
namespace Go.Proofs.YtnfnbcbadakofaaGreat
open Go.RowKit
set_option maxHeartbeats 1000000
set_option maxRecDepth 100000
theorem i7 (b:Bool) (w:World):Calls Tryz.prog 84 #[.bool b] w fun e w'=>e=.returned (.int .i64 (if b then 1 else 0))/\w'=w:=by
 cases b
 ·go_enter Tryz.func84,Tryz.ntmps84
  go_wp2
  go_ret
  exact ⟨rfl,rfl⟩
 ·go_enter Tryz.func84,Tryz.ntmps84
  go_wp2
  go_ret
  exact ⟨rfl,rfl⟩
theorem kU (n:Int) (w:World):Calls Tryz.prog 62 #[n] w fun e w'=>e=.returned (.int .i64 (n % 65536))/\w'=w:=by
 have hb:=Int.emod_nonneg n (show (65536:Int) ≠ 0 by decide)
 have hc:=Int.emod_lt_of_pos n (show (0:Int) < 65536 by decide)
 have he:(0<=n.tmod 65536/\n.tmod 65536=n % 65536) \/ (n.tmod 65536 < 0 /\ -65536 < n.tmod 65536/\n.tmod 65536+65536=n % 65536) \/ (n.tmod 65536=0/\n % 65536=0):=by
  rw [Int.tmod_eq_emod]
  split
  ·omega
  ·have:((65536:Int).natAbs:Int)=65536:=rfl
   omega
 rcases he with ⟨h0,h1⟩ | ⟨h0,h1,h2⟩ | ⟨h0,h1⟩
 ·have H:=hid h1
  clear h1 hb hc
  go_enter Tryz.func62,Tryz.ntmps62
  go_wp2
  go_ret
  exact ⟨by rw [<-H.out];rfl,rfl⟩
 ·have H:=hid h2
  clear h2 hb hc
  have hw:wrap64 (n.tmod 65536+65536)=n.tmod 65536+65536:=by unfold wrap64;omega
  go_enter Tryz.func62,Tryz.ntmps62
  go_wp2
  go_ret
  exact ⟨by rw [<-H.out];first | rfl | (simp only [hw];rfl),rfl⟩
 ·have H:=hid h1
  clear h1 hb hc
  go_enter Tryz.func62,Tryz.ntmps62
  go_wp2
  go_ret
  exact ⟨by rw [H.out];first | rfl | (simp only [h0];rfl),rfl⟩
section
variable {W1 w w':World} {rb:Nat} {tv fv:Value} {D:Dn} {V:DV}
theorem fJ (h:DI W1 w rb tv fv D V) (s:Int) (hs:s=1 \/ s=3 \/ s=4 \/ s=5) :
 Calls Tryz.prog 85 #[.pointer rb,s] w fun e w'=>e=.returned (.tuple #[])/\aG W1 w rb tv fv V D.out { D with status:=s } w':=by
 have x4:w.cell? ⟨rb,4,none⟩=some (.int .i64 D.status):=h.bx.cell 4
 have x5:w.cell? ⟨rb,5,none⟩=some V.fv:=h.bx.cell 5
 have f4:=h.bx.frozen 4
 have f5:=h.bx.frozen 5
 have FIN:Hid (aG W1 w rb tv fv V D.out { D with status:=s } ((w.setCell ⟨rb,4,none⟩ s).setCell ⟨rb,5,none⟩ ())):=by
  have p:(frw { V with fv:=.slice none 0 0,fs:=[] }::rrw V::orw V D.out::rsr V.rs).Perm (aw { V with fv:=.slice none 0 0,fs:=[] } D.out):=by simp [aw,fsr,rrw,orw]
  have k:Chg (fun j=>j=rb) w ((w.setCell ⟨rb,4,none⟩ s).setCell ⟨rb,5,none⟩ ()):=Chg.setCell (S:=fun j=>j=rb) (Chg.setCell (S:=fun j=>j=rb) (Chg.refl _ _) _ _ (.inl rfl)) _ _ (.inl rfl)
  have o:=(h.oe.box k).sub (M:=rrw V::orw V D.out::rsr V.rs) (by unfold aw;exact (((List.sublist_append_right _ _).cons_cons _).cons_cons _).cons _)
  refine h.fin (V':={ V with fv:=.slice none 0 0,fs:=[] }) (o.add (r':=frw { V with fv:=.slice none 0 0,fs:=[] }) (Chg.refl _ _) (World.ownsRow_nil _ _ _ _) (fun g hg=>by cases hg)) p ?_ ?_ h.re
  ·have:=(h.bx.set 4 (.int .i64 s)).set 5 (.slice none 0 0)
   exact this
  ·unfold az;rw [if_neg (by simp only;omega)];rfl
 clear h
 go_enter Tryz.func85,Tryz.ntmps85
 go_wp2
 exact bodyPost_end (v:=.tuple #[]) (by simp [results,Tryz.results85]) rfl ⟨rfl,FIN.out⟩
end
end Go.Proofs.YtnfnbcbadakofaaGreat
namespace Go.Proofs.YtnfnbcbadakofaaGreat
open Go.RowKit
def RdV (w:World) (v:Value) (l:List (Int × Bool)):Prop:=
 (v=.slice none 0 0/\l=[]) \/ ∃ g off c,v=.slice (some ⟨g,off,none⟩) l.length c/\l.length<=c/\c<=maxLen/\∀ j u,(vlC l)[j]?=some u->w.cell? ((⟨g,off,none⟩:Addr).add j)=some u
theorem aO.rd {w:World} {base:Nat} {v:Value} {l:List (Int × Bool)} (h:aO w base v l):RdV w v l:=by
 have hc:=fun g=>World.ownsRow.cells (g:=g) h
 rcases h.2 with ⟨hv,h0⟩ | ⟨g,cap,cur,hv,hb,hgg,hle,hcap,_⟩
 ·exact .inl ⟨hv,List.eq_nil_of_length_eq_zero h0⟩
 ·exact .inr ⟨g,0,cap,hv,hle,hcap,fun j u hj=>hc g (by rw [hv];rfl) j u hj⟩
theorem qq {l:List (Int × Bool)}:∀ u ∈ vlC l,u.oneCell'=true:=by
 intro u hu
 simp only [vlC,List.mem_flatMap,List.mem_cons,List.not_mem_nil,or_false] at hu
 obtain ⟨x,_,rfl | rfl⟩:=hu <;> rfl
theorem lw {ops:Array Oper} {rest:List Oper} {o:Oper} {a:Act} {Q:Exit->Act->World->Prop} {w:World} (hgd:o.guard=none) (s x:Operand)
 (ho:o.op=.call { callee:=.builtin .append,args:=#[s,x],argTypes:=#[70,70] }) (base:Nat) (v u:Value) (l l':List (Int × Bool)) (hs:a.eval s=v) (hx:a.eval x=u) (hown:aO w base v l) (hu:RdV w u l')
 (hlen:l.length+l'.length<=1000000) (hbase:base<=w.heap.size)
 (h:∀ x n c w',n=l.length+l'.length->aO w' base (.slice x n c) (l++l')->Chg (fun j=>some j=v.ownBlock) w w'->bD w v (.slice x n c)->wpList Tryz.prog ops Q rest (a.put o.dst (.slice x n c)) w'):wpList Tryz.prog ops Q (o::rest) a w:=by
 obtain ⟨i,hi1,hi2,hi3,hi4⟩:=gQ
 rcases hu with ⟨rfl,rfl⟩ | ⟨g,off,c,rfl,hle,hcap,hc⟩
 ·refine wpList_append_own_none hgd s x 70 ho base 104 i 2 Tryz.underlying70 hi1 v _ _ hs hown hx ?_
  obtain ⟨b,c,hv⟩:=hown.slice
  have:=h b l.length c w (by simp) (by rw [List.append_nil];rw [hv] at hown;exact hown) (Chg.refl _ w) (.inl (by rw [hv]))
  rw [hv];exact this
 ·by_cases h0:l'=[]
  ·subst h0
   rcases hown.2 with ⟨hv,h0⟩ | ⟨g0,cap,cur,hv,_,_,hle0,hcap0,_⟩
   ·refine wpList_append_own _ hgd s x 70 ho base 104 i (.agg #[oO,.bool false]) 2 16 Tryz.underlying70 hi1 hi2 hi3 hi4 rfl (by decide) v _ _ hs hown ⟨g,off,none⟩ 0 c [] hx rfl (fun j u hu=>by simp at hu) (fun u hu=>by simp at hu) (by unfold maxLen;simp at hlen;omega) (by simp at hlen;omega) hbase ?_
    intro v' w' hown' hgrow hnil
    have e:=hnil.2 ⟨hv,rfl⟩
    subst e
    have hI:aO w' base (.slice none 0 0) (l++[]):=by
     have:l=[]:=List.eq_nil_of_length_eq_zero h0
     subst this;exact World.ownsRow_nil _ _ _ _
    exact h none 0 0 w' (by simp [h0]) hI (aM hgrow |>.mono (fun j _ e=>e)) (.inl (by rw [hv]))
   ·refine wpList_append_own_spare (w:=w) hgd s x 70 ho base 104 i 2 Tryz.underlying70 hi1 hi3 g0 l.length cap (vlC l) (by rw [hs,hv]) (by rw [<-hv];exact hown) ⟨g,off,none⟩ 0 c [] hx rfl (fun j u hu=>by simp at hu) (fun u hu=>by simp at hu) (by omega) ?_
    intro w' hown' hgrow
    have hI:aO w' base (.slice g0 (l.length+0) cap) (l++[]):=by unfold aO;simpa [vlC] using hown'
    exact h _ _ cap w' (by simp) hI (by rw [hv];exact (aM hgrow).mono (fun j _ e=>e)) (.inl (by rw [hv];rfl))
  ·refine wpList_append_lies w hgd s x 70 ho base 104 i (.agg #[oO,.bool false]) 2 16 Tryz.underlying70 hi1 hi2 hi3 hi4 rfl (by decide) v _ _ hs hown ⟨g,off,none⟩ l'.length c (vlC l') hx (lK l') hc qq (List.length_pos_iff.2 h0) (by unfold maxLen;omega) (by omega) hbase _ rfl ?_
   intro g' cap w' hown' hgrow hlies _
   have hI:aO w' base (.slice g' (l.length+l'.length) cap) (l++l'):=by
    unfold aO;rw [List.length_append,show vlC (l++l')=vlC l++vlC l' by simp [vlC]];exact hown'
   refine h _ _ cap w' rfl hI (aM hgrow |>.mono (fun j _ e=>e)) ?_
   rcases hlies with q | q
   ·exact .inl (by rw [q];rfl)
   ·exact .inr ⟨g',rfl,by omega⟩
theorem dV (g a j:Nat):(⟨g,a,none⟩:Addr).add j=⟨g,a+j,none⟩:=by unfold Addr.add;split <;> simp_all
theorem qU (w:World):(Go.sizeOf 104).run Tryz.prog w=.ok 2 w:=by
 obtain ⟨i,i1,_,i3,_⟩:=gQ
 simp [Go.sizeOf,typeInfo,i1,i3,go_sem]
theorem kQ {ka:Option Addr} {kc m n:Nat} (w:World):(Instr.slice 70 (.slice ka (m+n) kc) (some (.int .i64 (m:Int))) none none).run Tryz.prog w=.ok (.slice (if kc=m then ka else ka.map (·.add (m * 2))) n (kc - m)) w:=by
 have ht:Tryz.prog.underlying 70=some (.slice (Tryz.prog.elem 70)):=by simp [Program.elem,Tryz.underlying70]
 have he:Tryz.prog.elem 70=104:=by simp [Program.elem,Tryz.underlying70]
 rw [run_slice_l (P:=Tryz.prog) (w:=w) 70 ka (m+n) kc ht .i64 (m:Int) (by omega) (by omega),he,qU]
 simp [Result.andThen,sliced]
theorem RdV.drop {w:World} {base:Nat} {a:Option Addr} {n c:Nat} {l:List (Int × Bool)} (h:aO w base (.slice a n c) l) (k:Nat) (hk:k<=l.length):RdV w (.slice (if c=k then a else a.map (·.add (k * 2))) (l.length - k) (c - k)) (l.drop k):=by
 have hc:=fun g=>World.ownsRow.cells (g:=g) h
 have hd:∀ (l:List (Int × Bool)) k,vlC (l.drop k)=(vlC l).drop (k * 2):=by
  intro l
  induction l with
  | nil=>intro k;simp [vlC]
  | cons x l ih=>intro k;cases k with | zero=>rfl | succ k=>rw [show (k+1) * 2=k * 2+2 by omega];simpa [vlC] using ih k
 rcases h.2 with ⟨hv,h0⟩ | ⟨g,cap,cur,hv,hb,hgg,hle,hcap,_⟩
 ·simp only [Value.slice.injEq] at hv
  obtain ⟨rfl,rfl,rfl⟩:=hv
  refine .inl ⟨?_,by rw [List.drop_eq_nil_of_le (by omega)]⟩
  rw [show k=0 by omega,h0];simp
 ·simp only [Value.slice.injEq] at hv
  obtain ⟨rfl,rfl,rfl⟩:=hv
  have hl:(l.drop k).length=l.length - k:=List.length_drop
  by_cases hck:c=k
  ·refine .inr ⟨g,0,c - k,by rw [if_pos hck,hl],by rw [hl];omega,by omega,fun j u hj=>?_⟩
   rw [List.drop_eq_nil_of_le (by omega)] at hj
   simp [vlC] at hj
  ·refine .inr ⟨g,k * 2,c - k,by rw [if_neg hck,hl,Option.map_some,dV,Nat.zero_add],by rw [hl];omega,by omega,fun j u hj=>?_⟩
   rw [hd,List.getElem?_drop] at hj
   have:=hc g rfl _ u hj
   rw [dV,Nat.zero_add] at this
   rwa [dV]
section
variable {W1 w w':World} {rb:Nat} {tv fv:Value} {D:Dn} {V:DV}
def jX (W1 w:World) (rb:Nat) (tv fv:Value) (V:DV) (D:Dn) (n:Nat) (e:Ending) (w':World):Prop:=
 ∃ u V',e=.returned u/\aO w' w.heap.size u (D.top.stack.drop (D.top.stack.length - n))/\DI W1 w' rb tv fv { D with top:={ D.top with stack:=D.top.stack.take (D.top.stack.length - n) } } V'/\Ev rb (aw V D.out) w (aw V' D.out) w'/\∀ j,bN (aw V' D.out) j->bN (aw V D.out) j
set_option maxHeartbeats 2000000 in
set_option maxRecDepth 100000 in
theorem gC (h:DI W1 w rb tv fv D V) (hs:D.status=0 \/ D.status=2) (hb:D.below.length<=1000) (hl:D.top.stack.length<=1000) (n:Nat) (hn:n<=D.top.stack.length) :
 Calls Tryz.prog 86 #[.pointer rb,n] w (jX W1 w rb tv fv V D n):=by
 obtain ⟨xs,lv,kv,e,hxs⟩:=h.top hs
 obtain ⟨g,cap,hg,hg1,hg2,hc1,hc2,c0,c1,c2,c3,fz,gcs,gb⟩:=h.frs e
 have hxl:xs.length<=1000:=by rw [<-hxs,List.length_map] at hb;exact hb
 have hk:aO w W1.heap.size kv D.top.stack:=h.ow.ok (vrw kv D.top.stack) (by simp [aw,fsr,e])
 obtain ⟨ka,kc,rfl⟩:=hk.slice
 obtain ⟨m,hm⟩:∃ m,D.top.stack.length=m+n:=⟨D.top.stack.length - n,by omega⟩
 have hm':D.top.stack.length - n=m:=by omega
 have hkc:m+n<=kc:=by
  rcases hk.2 with ⟨q,q0⟩ | ⟨_,_,_,q,_,_,z,_⟩
  ·omega
  ·simp only [Value.slice.injEq] at q;rw [q.2.2];omega
 have x5:w.cell? ⟨rb,5,none⟩=some (.slice g (xs.length+1) cap):=by rw [<-hg];exact h.bx.cell 5
 have f3:=fz (xs.length * 4+3)
 have hix:(xs.length:Int) < (xs.length:Int)+1:=by omega
 have HR:Hid (RdV w (.slice (if kc=m then ka else ka.map (·.add (m * 2))) n (kc - m)) (D.top.stack.drop m)):=by
  have:=RdV.drop hk m (by omega)
  rw [show D.top.stack.length - m=n by omega] at this
  exact this
 have hdl:(D.top.stack.drop m).length=n:=by rw [List.length_drop];omega
 have FIN:Hid (∀ w' u,aO w' w.heap.size u (D.top.stack.drop m)->Chg () w w'->jX W1 w rb tv fv V D n (.returned u) (w'.setCell ⟨g,xs.length * 4+3,none⟩ (.slice ka m kc))):=fun w' u hu k=>by
  have ht:aO w' W1.heap.size (.slice ka m kc) (D.top.stack.take m):=by
   by_cases h0:0 < D.top.stack.length
   ·exact aO.take (af hk k (fun _ _ q=>q)) m (by omega) h0
   ·have:D.top.stack=[]:=List.eq_nil_of_length_eq_zero (by omega)
    have hm0:m=0:=by omega
    rw [this,hm0]
    rw [this] at hk
    exact af hk k (fun _ _ q=>q)
  obtain ⟨V',d',ev',hbk⟩:=(h.new k).frame hs (kv':=.slice ka m kc) (l':=D.top.stack.take m) e hg (Chg.refl _ _) ht (.inl (by cases ka <;> rfl))
  refine ⟨u,V',rfl,?_,?_,(Ev.new rb _ k).trans ev',fun j hj=>?_⟩
  ·rw [hm']
   refine aH hu _ _ (fun q=>?_)
   have:=cy hu q
   simp only at this
   omega
  ·rw [hm'];exact d'
  ·rcases hbk j hj with q | q
   ·exact q
   ·exact ⟨vrw (.slice ka D.top.stack.length kc) D.top.stack,by simp [aw,fsr,e],by rw [<-q];cases ka <;> rfl⟩
 rw [hm] at c3 hl
 have HRB:=hid (h.bx)
 have HG:=hid hg
 have GB:=hid gb
 have HDL:=hid hdl
 clear h hs e hg hxs hb fz hk hdl gb hm hn
 generalize D.top.stack.drop m=pl at *
 have hmn:((m+n:Nat):Int) - (n:Int)=(m:Int):=by omega
 have hsl:=fun wx=>kQ (ka:=ka) (kc:=kc) (m:=m) (n:=n) wx
 generalize (if kc=m then ka else ka.map (·.add (m * 2)))=ra at *
 generalize kc - m=rc at *
 go_enter Tryz.func86,Tryz.ntmps86
 go_wp2_with fail
 refine (aT rb xs.length cap _ _ x5 (by omega)).mono ?_
 rintro e w' ⟨rfl,hw⟩
 have hw:=hw.symm
 subst hw
 go_wp2_with (at_builtin;refine lw rfl _ _ rfl w.heap.size (.slice none 0 0) (.slice ra n rc) [] pl rfl rfl (World.ownsRow_nil _ _ _ _) HR.out (by have:=HDL.out;simp;omega) (Nat.le_refl _) ?_)
 intro ua un uc w2 hun hu2 hch2 _
 have k2:Chg () w w2:=hch2.mono (fun _ _ q=>by cases q)
 have HU:=hid hu2
 have z5:w2.cell? ⟨rb,5,none⟩=some (.slice g (xs.length+1) cap):=k2.cellF x5
 have z3:w2.cell? ⟨g,xs.length * 4+3,none⟩=some (.slice ka (m+n) kc):=k2.cellF c3
 have zf:=(GB.out.chg k2 (fun q=>q)).frozen (xs.length * 4+3)
 have K2:=hid k2
 clear k2 hch2 hu2 hun x5 c0 c1 c2 c3 f3
 have FI:=FIN.out w2.drew _ HU.out K2.out.drew
 have HFI:Hid (jX W1 w rb tv fv V D n (.returned (.slice ua un uc)) (w2.setCell ⟨g,xs.length * 4+3,none⟩ (.slice ka m kc)).drew):=FI
 clear FI FIN HU HR
 go_wp2
 go_region
 go_wp2
 go_ret
 exact HFI.out
end
end Go.Proofs.YtnfnbcbadakofaaGreat
namespace Go.Proofs.YtnfnbcbadakofaaGreat
open Go.RowKit
section
variable {W1 w w':World} {rb:Nat} {tv fv:Value} {D:Dn} {V:DV}
structure DB (D:Dn):Prop where
 st:D.status=0 \/ D.status=2
 bl:D.below.length<=1000
 sl:D.top.stack.length<=1000
set_option maxHeartbeats 2000000 in
set_option maxRecDepth 100000 in
theorem dh (h:DI W1 w rb tv fv D V) (hb:DB D) (op:Int) (hop:op=1 \/ op=2 \/ op=3 \/ op=4) (h2:2<=D.top.stack.length) (ra:0<=(au D.top.stack.dropLast).1/\(au D.top.stack.dropLast).1 < 65536) (rr:0<=(au D.top.stack).1/\(au D.top.stack).1 < 65536) :
 Calls Tryz.prog 58 #[.pointer rb,op] w fun e w'=>e=.returned (.tuple #[])/\aG W1 w rb tv fv V D.out { D with top:=aD (ax (ax D.top)) (bz op (au D.top.stack.dropLast).1 (au D.top.stack).1,false) } w':=by
 have HP1:Hid (∀ (w:World) (V:DV),DI W1 w rb tv fv D V->Calls Tryz.prog 59 #[.pointer rb] w fun e w'=>e=.returned (.agg #[.int .i64 (au D.top.stack).1,.bool (au D.top.stack).2])/\aG W1 w rb tv fv V D.out { D with top:=ax D.top } w'):=fun w V h=>cA h hb.st hb.bl hb.sl (by omega)
 have HP2:Hid (∀ (w:World) (V:DV),DI W1 w rb tv fv { D with top:=ax D.top } V->Calls Tryz.prog 59 #[.pointer rb] w fun e w'=>e=.returned (.agg #[.int .i64 (au D.top.stack.dropLast).1,.bool (au D.top.stack.dropLast).2])/\aG W1 w rb tv fv V D.out { D with top:=ax (ax D.top) } w'):=fun w V h=>cA h hb.st hb.bl (by show D.top.stack.dropLast.length<=1000;rw [List.length_dropLast];have:=hb.sl;omega) (by show 0 < D.top.stack.dropLast.length;rw [List.length_dropLast];omega)
 have HP3:Hid (∀ (w:World) (V:DV) (n:Int),DI W1 w rb tv fv { D with top:=ax (ax D.top) } V->Calls Tryz.prog 57 #[.pointer rb,n,.bool false] w fun e w'=>e=.returned (.tuple #[])/\aG W1 w rb tv fv V D.out { D with top:=aD (ax (ax D.top)) (n,false) } w'):=fun w V n h=>bS h hb.st n false hb.bl (by show D.top.stack.dropLast.dropLast.length<=1000;rw [List.length_dropLast,List.length_dropLast];have:=hb.sl;omega)
 have H:=hid h
 generalize (au D.top.stack.dropLast)=a at *
 generalize (au D.top.stack)=b at *
 obtain ⟨an,ab⟩:=a
 obtain ⟨bn,bb⟩:=b
 simp only at ra rr HP1 HP2 ⊢
 obtain ⟨ra0,ra1⟩:=ra
 obtain ⟨rr0,rr1⟩:=rr
 clear h hb h2
 have HM:Hid (0<=an * bn/\an * bn < 4294967296):=⟨Int.mul_nonneg ra0 rr0,by
  have h1:an * bn<=65535 * bn:=Int.mul_le_mul_of_nonneg_right (by omega) rr0
  omega⟩
 rcases hop with rfl | rfl | rfl | rfl
 all_goals
  go_enter Tryz.func58,Tryz.ntmps58
  go_wp2_with fail
  refine (HP1.out _ _ H.out).mono ?_
  rintro e w1 ⟨rfl,V1,d1,e1⟩
  go_wp2_with fail
  have k1:Chg () w1 (w1.alloc (Obj.cells #[bn,.bool bb] 104)):=(Chg.refl _ _).alloc _
  have n1:=Blk.new w1 #[.int .i64 bn,.bool bb] 104
  have hn1:=d1.old (Nat.le_refl _)
  have hr1:w1.heap.size ≠ rb:=Nat.ne_of_gt d1.bx.lt
  refine (HP2.out _ _ (d1.new k1)).mono ?_
  rintro e w2 ⟨rfl,V2,d2,e2⟩
  have n2:=e2.blk n1 hr1 hn1
  have E2:Hid (Ev rb (aw V D.out) w (aw V2 D.out) w2):=e1.trans ((Ev.new rb _ k1).trans e2)
  clear n1 hn1 hr1 k1 e1 e2 d1
  generalize w1.heap.size=bb1 at *
  have k2:Chg () w2 (w2.alloc (Obj.cells #[an,.bool ab] 104)):=(Chg.refl _ _).alloc _
  have n3:=Blk.new w2 #[.int .i64 an,.bool ab] 104
  have D2:=hid (d2.new k2)
  have E3:Hid (Ev rb (aw V D.out) w (aw V2 D.out) (w2.alloc (Obj.cells #[an,.bool ab] 104))):=E2.out.trans (Ev.new rb _ k2)
  have y0:(w2.alloc (Obj.cells #[an,.bool ab] 104)).cell? ⟨bb1,0,none⟩=some (.int .i64 bn):=(n2.chg k2 (fun q=>q)).cell 0
  have x0:(w2.alloc (Obj.cells #[an,.bool ab] 104)).cell? ⟨w2.heap.size,0,none⟩=some (.int .i64 an):=n3.cell 0
  clear k2 n2 n3 d2 E2
  go_wp2_with fail
 ·have ee:(an+bn) % 65536=bz 1 an bn:=by simp [bz]
  rw [ee]
  refine (HP3.out _ _ _ D2.out).mono ?_
  rintro e w3 ⟨rfl,V3,d3,e3⟩
  have FIN:Hid (aG W1 w rb tv fv V D.out { D with top:=aD (ax (ax D.top)) (bz 1 an bn,false) } w3):=⟨V3,d3,E3.out.trans e3⟩
  clear ee d3 e3
  go_wp2
  exact bodyPost_end (v:=.tuple #[]) (by simp [results,Tryz.results58]) rfl ⟨rfl,FIN.out⟩
 ·have ee:(an - bn) % 65536=bz 2 an bn:=by simp [bz]
  rw [ee]
  refine (HP3.out _ _ _ D2.out).mono ?_
  rintro e w3 ⟨rfl,V3,d3,e3⟩
  have FIN:Hid (aG W1 w rb tv fv V D.out { D with top:=aD (ax (ax D.top)) (bz 2 an bn,false) } w3):=⟨V3,d3,E3.out.trans e3⟩
  clear ee d3 e3
  go_wp2
  exact bodyPost_end (v:=.tuple #[]) (by simp [results,Tryz.results58]) rfl ⟨rfl,FIN.out⟩
 ·have ee:(wrap64 (an * bn)).tmod 65536=bz 3 an bn:=by
   have:=HM.out
   have e1:wrap64 (an * bn)=an * bn:=by unfold wrap64;omega
   rw [e1,Int.tmod_eq_emod_of_nonneg this.1];simp [bz]
  rw [ee]
  refine (HP3.out _ _ _ D2.out).mono ?_
  rintro e w3 ⟨rfl,V3,d3,e3⟩
  have FIN:Hid (aG W1 w rb tv fv V D.out { D with top:=aD (ax (ax D.top)) (bz 3 an bn,false) } w3):=⟨V3,d3,E3.out.trans e3⟩
  clear ee d3 e3
  go_wp2
  exact bodyPost_end (v:=.tuple #[]) (by simp [results,Tryz.results58]) rfl ⟨rfl,FIN.out⟩
 ·have ee:(if decide (an < bn)=true then (1:Int) else 0)=bz 4 an bn:=by simp [bz]
  have HB:Hid (∀ w,Calls Tryz.prog 84 #[.bool (decide (an < bn))] w fun e w'=>e=.returned (.int .i64 (bz 4 an bn))/\w'=w):=fun w=>by rw [<-ee];exact i7 _ w
  clear ee
  refine (HB.out _).mono ?_
  rintro e w3 ⟨rfl,hw3⟩
  have hw3:=hw3.symm
  subst hw3
  go_wp2_with fail
  refine (HP3.out _ _ _ D2.out).mono ?_
  rintro e w3 ⟨rfl,V3,d3,e3⟩
  have FIN:Hid (aG W1 w rb tv fv V D.out { D with top:=aD (ax (ax D.top)) (bz 4 an bn,false) } w3):=⟨V3,d3,E3.out.trans e3⟩
  clear d3 e3
  go_wp2
  exact bodyPost_end (v:=.tuple #[]) (by simp [results,Tryz.results58]) rfl ⟨rfl,FIN.out⟩
end
end Go.Proofs.YtnfnbcbadakofaaGreat
