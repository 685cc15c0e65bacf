import Derived.Test.YtnfnbcbadakofabRchk2
import Derived.Test.YtnfnbcbadakofabPass
namespace Go.Proofs.Ytnfnbcbadakofab
open Go.RowKit
def afterP (ls:List (List Int)) (fs:List Fn) (f:Fn) (op A B:Int) (s:List Int):Option (List Int):=
 if s.length < (ahead ls fs f op A B).length \/ (op=16/\(ahead ls fs f op A B).length < s.length) then none
 else if (s.drop (s.length - (ahead ls fs f op A B).length) == ahead ls fs f op A B)=false then none
 else if 8 < (s.take (s.length - (ahead ls fs f op A B).length)++behind ls fs f op A B).length then none
 else some (s.take (s.length - (ahead ls fs f op A B).length)++behind ls fs f op A B)
def AfPost (w w':World) (base:Nat) (v:Value) (b:Bool) (R:Option (List Int)):Prop:=
 Chg () w w'/\(∃ a n c,v=.slice a n c)/\(R=none->b=false)/\∀ l,R=some l->b=true/\IntsV w' base v l
theorem AfPost.no {w w':World} {base:Nat} {R:Option (List Int)} (k:Chg () w w') (h:R=none):AfPost w w' base (.slice none 0 0) false R:=
 ⟨k,⟨_,_,_,rfl⟩,fun _=>rfl,fun l e=>by rw [h] at e;cases e⟩
theorem AfPost.fin {w w':World} {base m:Nat} {v:Value} {R:Option (List Int)} (L:List Int) (k:Chg () w w') (hv:IntsV w' base v L) (hm:m=L.length) (h:R=if 8 < L.length then none else some L):AfPost w w' base v (decide ((m:Int)<=8)) R:=by
 obtain ⟨a,c,rfl⟩:=hv.slice
 subst hm
 refine ⟨k,⟨_,_,_,rfl⟩,fun e=>?_,fun l e=>?_⟩
 ·rw [e] at h;split at h
  ·exact decide_eq_false (by omega)
  ·cases h
 ·rw [e] at h;split at h
  ·cases h
  ·simp only [Option.some.injEq] at h;subst h
   exact ⟨decide_eq_true (by omega),hv⟩
theorem af_then {ls:List (List Int)} {fs:List Fn} {f:Fn} {op A B:Int} {s N:List Int} {R:Option (List Int)} {r:Nat} (HP:afterP ls fs f op A B s=R) (HN:ahead ls fs f op A B=N) (hr:s.length=r+N.length) :
 (op=16->0 < r->R=none)/\(¬ (op=16/\0 < r)->((s.drop r == N)=false->R=none)/\((s.drop r == N)=true->R=if 8 < (s.take r++behind ls fs f op A B).length then none else some (s.take r++behind ls fs f op A B))):=by
 have er:s.length - N.length=r:=by omega
 subst HP
 unfold afterP
 simp only [HN,er]
 refine ⟨fun h1 h2=>by rw [if_pos (.inr ⟨h1,by omega⟩)],fun h=>⟨fun hb=>?_,fun hb=>?_⟩⟩
 ·rw [if_neg (by omega),if_pos hb]
 ·rw [if_neg (by omega),if_neg (by rw [hb];decide)]
theorem own_base {w:World} {b b':Nat} {v:Value} {l:List Int} (h:IntsV w b v l) (hb:b'<=b):IntsV w b' v l:=by
 refine ⟨h.1,?_⟩
 rcases h.2 with h | ⟨g,cap,cur,hv,hg,hr⟩
 ·exact .inl h
 ·exact .inr ⟨g,cap,cur,hv,Nat.le_trans hb hg,hr⟩
set_option maxHeartbeats 2000000 in
set_option maxRecDepth 100000 in
theorem after_core (ta fa sa:Option Addr) (tc fc sc:Nat) (ls:List (List Int)) (fs:List Fn) (fi:Nat) (hfi:fi < fs.length) (op A B:Int) (s:List Int) (w:World) (base:Nat) (hbase:base<=w.heap.size) (ht:TypesV w base (.slice ta ls.length tc) ls) (hf:FuncsV 107 131 w base (.slice fa fs.length fc) fs)
 (hs:IntsV w base (.slice sa s.length sc) s) (hsl:s.length<=10000) (hNl:(ahead ls fs fs[fi] op A B).length<=10000) (hGl:(behind ls fs fs[fi] op A B).length<=10000) (hn:ls.length<=10000) (h1:0<=op) (h2:op<=18) (hok:OkI ls fs fs[fi] op A B) (hargs:∀ f ∈ fs,0<=f.args/\f.args<=(f.locals.length:Int)) (R:Option (List Int)) (HR:Hid (afterP ls fs fs[fi] op A B s=R)) :
 Calls Try.prog 70 #[.agg #[.slice ta ls.length tc,.slice fa fs.length fc],fi,.agg #[op,A,B],.slice sa s.length sc] w fun e w' =>
  ∃ v b,e=.returned (.tuple #[v,.bool b])/\AfPost w w' base v b R:=by
 obtain ⟨i,hi1,hi2,hi3,hi4⟩:=info3
 have Hi1:=hid hi1
 have Hi2:=hid hi2
 have Hi3:=hid hi3
 have Hi4:=hid hi4
 clear hi1 hi2 hi3 hi4
 have kb:Chg () w ((w.alloc (Obj.cells #[.slice ta ls.length tc,.slice fa fs.length fc] 44)).alloc (Obj.cells #[op,A,B] 131)):=((Chg.refl () w).alloc _).alloc _
 have b0:Blk ((w.alloc (Obj.cells #[.slice ta ls.length tc,.slice fa fs.length fc] 44)).alloc (Obj.cells #[op,A,B] 131)) w.heap.size #[.slice ta ls.length tc,.slice fa fs.length fc] 44:=(Blk.new' rfl _ 44).alloc _
 have b1:Blk ((w.alloc (Obj.cells #[.slice ta ls.length tc,.slice fa fs.length fc] 44)).alloc (Obj.cells #[op,A,B] 131)) (w.heap.size+1) #[op,A,B] 131:=Blk.new' (by simp) _ 131
 have HOK:=hid hok
 have HARG:=hid hargs
 clear hok hargs
 go_enter Try.func70,Try.ntmps70
 go_wp2_with fail
 refine (takes_any _ _ ls fs fi hfi op A B _ base (Nat.le_trans hbase kb.size) (ht.new kb) (hf.chg kb (fun _ _ _ e=>e) (fun _ _ _ e=>e) (fun _ _ _ e=>e)) hn h1 h2 HOK.out HARG.out).mono ?_
 rintro e w1 ⟨nv,rfl,hnv,hch1⟩
 have k1:=kb.trans hch1
 have c0:=b0.chg hch1 (fun e=>e)
 have c1:=b1.chg hch1 (fun e=>e)
 clear kb b0 b1 hch1
 obtain ⟨na,nc,rfl⟩:=hnv.slice
 generalize hN:ahead ls fs fs[fi] op A B=N at *
 have HN:=hid hN
 clear hN
 have m0:w1.cell? ⟨w.heap.size+1,0,none⟩=some (.int .i64 op):=c1.cell 0
 by_cases hlt:s.length < N.length
 ·have hR:R=none:=by rw [<-HR.out];unfold afterP;simp only [HN.out];rw [if_pos (.inl hlt)]
  have HRR:=hid hR
  clear hR HR
  have hlt':(s.length:Int) < (N.length:Int):=by omega
  go_wp2
  exact bodyPost_ret (v:=.tuple #[(),.bool false]) (by simp [results,Try.results70,go_sem]) rfl ⟨_,_,rfl,AfPost.no k1 HRR.out⟩
 ·obtain ⟨r,hr⟩:∃ r:Nat,s.length=r+N.length:=⟨s.length - N.length,by omega⟩
  have HQ:Hid _:=af_then HR.out HN.out hr
  have hr1:(s.length:Int) - (N.length:Int)=(r:Int):=by omega
  have hr2:r<=s.length:=by omega
  have hr3:(r:Int)<=(s.length:Int):=by omega
  have HRN:=hid hr
  have hle:N.length<=s.length:=by omega
  clear hr hlt HR
  by_cases hno:op=16/\0 < r
  ·have HRR:Hid (R=none):=HQ.out.1 hno.1 hno.2
   have h16':(op == 16)=true:=by simp [hno.1]
   have hr0:(0:Int) < (r:Int):=by omega
   clear HQ hno
   go_wp2
   exact bodyPost_ret (v:=.tuple #[(),.bool false]) (by simp [results,Try.results70,go_sem]) rfl ⟨_,_,rfl,AfPost.no k1 HRR.out⟩
  ·have HQ2:Hid _:=HQ.out.2 hno
   clear HQ
   have hs1:=IntsV.chg hs k1 (fun _ _ _ e=>e)
   have hnR:RdI w1 (.slice na N.length nc) N:=hnv.rdI
   have hsf:(sa=none/\s=[]/\sc=0) \/ ∃ gs,sa=some ⟨gs,0,none⟩:=by
    rcases hs1.2 with ⟨hv,h0⟩ | ⟨gs,cap,cur,hv,_⟩
    ·simp only [Value.slice.injEq] at hv
     exact .inl ⟨hv.1,List.eq_nil_of_length_eq_zero h0,hv.2.2⟩
    ·simp only [Value.slice.injEq] at hv
     exact .inr ⟨gs,hv.1⟩
   have hdl:(s.drop r).length<=10000:=by simp;omega
   have cases3:(sa=none/\s.length=0/\sc=0/\r=0) \/ (∃ gs,sa=some ⟨gs,0,none⟩/\r=sc/\RdI w1 (.slice (some ⟨gs,0,none⟩) (s.length - r) 0) (s.drop r)) \/ (∃ gs,sa=some ⟨gs,0,none⟩/\r < sc/\RdI w1 (.slice (some ⟨gs,r,none⟩) (s.length - r) (sc - r)) (s.drop r)):=by
    rcases hsf with ⟨h1,h2,h3⟩ | ⟨gs,rfl⟩
    ·exact .inl ⟨h1,by rw [h2];rfl,h3,by rw [h2] at hr2;simpa using hr2⟩
    ·obtain ⟨hcap,hrd⟩:=hs1.dropR r hr2
     by_cases hc:sc=r
     ·refine .inr (.inl ⟨gs,rfl,hc.symm,?_⟩)
      have h0:s.drop r=[]:=List.drop_eq_nil_of_le (by omega)
      rw [h0,show s.length - r=0 by omega]
      exact .inr ⟨gs,0,0,rfl,Nat.le_refl _,Nat.zero_le _,fun j hj=>by simp at hj⟩
     ·exact .inr (.inr ⟨gs,rfl,by omega,hrd⟩)
   have TK:IntsV w1 base (.slice sa r sc) (s.take r):=hs1.take r hr2 (fun e=>by
    rcases hsf with ⟨h1,h2,h3⟩ | ⟨gs,h1⟩
    ·exact ⟨by rw [h2] at hr2;simpa using hr2,h3⟩
    ·rw [h1] at e;cases e)
   clear hsf
   by_cases h16:op=16
   ·have hr0:r=0:=by omega
    subst hr0
    have h16':(op == 16)=true:=by simp [h16]
    clear hno h16
    rcases cases3 with ⟨rfl,h01,rfl,_⟩ | ⟨gs,rfl,rfl,RD⟩ | ⟨gs,rfl,hrc,RD⟩
    ·have hs0:s=[]:=List.eq_nil_of_length_eq_zero h01
     subst hs0
     have hN0:N=[]:=List.eq_nil_of_length_eq_zero (by simpa using hle)
     subst hN0
     have HQ3:Hid (R=if 8 < (([]:List Int)++behind ls fs fs[fi] op A B).length then none else some (([]:List Int)++behind ls fs fs[fi] op A B)):=HQ2.out.2 rfl
     clear HQ2 hr1 hr3 h01 TK
     go_wp2_with fail
     refine (rsame_any _ _ ([]:List Int) [] w1 (by simp) (.inl ⟨rfl,rfl⟩) hnR).mono ?_
     rintro e w2 ⟨rfl,n2,rfl⟩
     have k3:=k1.drewN n2
     have e0:=c0.drewN n2
     have e1:=c1.drewN n2
     clear m0 hs1 hnR hnv c0 c1 k1
     generalize w1.drewN n2=w3 at *
     have hO:IntsV w3 w.heap.size (.slice none 0 0) []:=World.ownsRow_nil _ _ _ _
     have HTL:=True.intro
     have d0:w3.cell? ⟨w.heap.size,0,none⟩=some (.slice ta ls.length tc):=e0.cell 0
     have d1:w3.cell? ⟨w.heap.size,1,none⟩=some (.slice fa fs.length fc):=e0.cell 1
     have m0:w3.cell? ⟨w.heap.size+1,0,none⟩=some (.int .i64 op):=e1.cell 0
     have m1:w3.cell? ⟨w.heap.size+1,1,none⟩=some (.int .i64 A):=e1.cell 1
     have m2:w3.cell? ⟨w.heap.size+1,2,none⟩=some (.int .i64 B):=e1.cell 2
     clear e0 e1
     go_wp2_with (first | (at_builtin;refine wpList_append_own_none rfl _ _ 24 rfl w.heap.size 3 i 1 Try.underlying24 Hi1.out _ _ _ rfl hO rfl ?_))
     go_wp2_with fail
     refine (leaves_any _ _ ls fs fi hfi op A B _ base (Nat.le_trans hbase k3.size) (ht.new k3) (hf.chg k3 (fun _ _ _ e=>e) (fun _ _ _ e=>e) (fun _ _ _ e=>e)) hn h1 h2 HOK.out HARG.out).mono ?_
     rintro e w4 ⟨gv,rfl,hgv,hch4⟩
     have k4:=k3.trans hch4
     have hO4:IntsV w4 w.heap.size (.slice none 0 0) ([]:List Int):=IntsV.chg hO hch4 (fun _ _ _ e=>e)
     have hgr:=hgv.rdI
     have hsz4:=k4.size
     clear hO hch4 k3 d0 d1 m0 m1 m2
     generalize behind ls fs fs[fi] op A B=G at *
     rcases hgr with ⟨rfl,rfl⟩ | ⟨g2,o2,c2,rfl,hle2,hcap2,kk2⟩
     ·clear hgv
      go_wp2_with (first | (at_builtin;refine wpList_append_own_none rfl _ _ 24 rfl w.heap.size 3 i 1 Try.underlying24 Hi1.out _ _ _ rfl hO4 rfl ?_))
      exact bodyPost_ret (v:=.tuple #[(.slice none 0 0),.bool (decide (((([]:List Int)).length:Int)<=8))]) (by simp [results,Try.results70,go_sem]) rfl ⟨_,_,rfl,AfPost.fin ([]:List Int) k4 (own_base hO4 hbase) rfl (by have:=HQ3.out;rw [List.append_nil] at this;exact this)⟩
     ·have HN2:Hid (∀ j u,(ints G)[j]?=some u->w4.cell? ((⟨g2,o2,none⟩:Addr).add j)=some u):=RdI.news kk2
      clear kk2 hgv
      go_wp2_with (first | (at_builtin;refine wpList_append_own _ rfl _ _ 24 rfl w.heap.size 3 i (.int .i64 0) 1 8 Try.underlying24 Hi1.out Hi2.out Hi3.out Hi4.out rfl (by decide) _ _ _ rfl hO4 ⟨g2,o2,none⟩ G.length c2 (ints G) rfl ?c0 HN2.out ?c2 ?c3 ?c4 ?c5 ?_))
      case c0=>simp [ints]
      case c2=>intro u hu;simp [ints] at hu;obtain ⟨x,_,rfl⟩:=hu;rfl
      case c3=>unfold maxLen;simp;omega
      case c4=>simp;omega
      case c5=>omega
      ·intro v5 w5 hown5 hgrow5 hzz
       clear hzz
       have k5:=k4.grown hgrow5 (fun k hk=>.inr (hO4.lt k hk).1)
       have hO5:IntsV w5 w.heap.size v5 (([]:List Int)++G):=by unfold IntsV;simpa [ints] using hown5
       clear hown5 hgrow5 HN2
       generalize ([]:List Int)++G=L at *
       obtain ⟨a5,c5,rfl⟩:=hO5.slice
       go_wp2
       exact bodyPost_ret (v:=.tuple #[.slice a5 L.length c5,.bool (decide ((L.length:Int)<=8))]) (by simp [results,Try.results70,go_sem]) rfl ⟨_,_,rfl,AfPost.fin L k5 (own_base hO5 hbase) rfl HQ3.out⟩
    ·have hTL:(s.take (0)).length=0:=by rw [List.length_take];omega
     go_wp2_with fail
     refine (rsame_any _ _ (s.drop (0)) N _ hdl RD hnR).mono ?_
     rintro e w2 ⟨rfl,n2,rfl⟩
     have k2:=k1.drewN n2
     have TK2:IntsV (w1.drewN n2) base (.slice gs (0) 0) (s.take (0)):=own_drewN TK n2
     have e0:=c0.drewN n2
     have e1:=c1.drewN n2
     clear m0 hs1 RD hnR hnv TK c0 c1 k1
     generalize w1.drewN n2=w2 at *
     cases hb:(s.drop (0) == N) with
     | false =>
      have HRR:Hid (R=none):=HQ2.out.1 hb
      clear HQ2 hb
      go_wp2
      exact bodyPost_ret (v:=.tuple #[(),.bool false]) (by simp [results,Try.results70,go_sem]) rfl ⟨_,_,rfl,AfPost.no k2 HRR.out⟩
     | true =>
      have HQ3:Hid (R=if 8 < (s.take (0)++behind ls fs fs[fi] op A B).length then none else some (s.take (0)++behind ls fs fs[fi] op A B)):=HQ2.out.2 hb
      clear HQ2 hb
      generalize s.take (0)=T at *
      have HTL:=hid hTL
      clear hTL
      have HN1:Hid (∀ j u,(ints T)[j]?=some u->w2.cell? ((⟨gs,0,none⟩:Addr).add j)=some u):=fun j u=>World.ownsRow.cells (g:=gs) TK2 rfl j u
      have hsz2:=k2.size
      clear TK2
      have h0:w2.ownsRow w.heap.size 3 1 (.slice none 0 0) 0 []:=World.ownsRow_nil _ _ _ _
      go_wp2_with (first | (at_builtin;refine wpList_append_own _ rfl _ _ 24 rfl w.heap.size 3 i (.int .i64 0) 1 8 Try.underlying24 Hi1.out Hi2.out Hi3.out Hi4.out rfl (by decide) _ _ _ rfl h0 ⟨gs,0,none⟩ (0) 0 (ints T) rfl ?c0 HN1.out ?c2 ?c3 ?c4 ?c5 ?_))
      case c0=>have:=HTL.out;simp [ints,this]
      case c2=>intro u hu;simp [ints] at hu;obtain ⟨x,_,rfl⟩:=hu;rfl
      case c3=>unfold maxLen;omega
      case c4=>omega
      case c5=>omega
      ·intro v' w3 hown hgrow hzz
       clear hzz
       have k3:=k2.grown hgrow (fun k hk=>by cases hk)
       have e0:=e0.grown hgrow (fun e=>by cases e)
       have e1:=e1.grown hgrow (fun e=>by cases e)
       have hO:IntsV w3 w.heap.size v' T:=by unfold IntsV;rw [HTL.out];simpa using hown
       clear hown hgrow h0 HN1 k2
       obtain ⟨oa,oc,rfl⟩:=hO.slice
       have d0:w3.cell? ⟨w.heap.size,0,none⟩=some (.slice ta ls.length tc):=e0.cell 0
       have d1:w3.cell? ⟨w.heap.size,1,none⟩=some (.slice fa fs.length fc):=e0.cell 1
       have m0:w3.cell? ⟨w.heap.size+1,0,none⟩=some (.int .i64 op):=e1.cell 0
       have m1:w3.cell? ⟨w.heap.size+1,1,none⟩=some (.int .i64 A):=e1.cell 1
       have m2:w3.cell? ⟨w.heap.size+1,2,none⟩=some (.int .i64 B):=e1.cell 2
       clear e0 e1
       go_wp2_with fail
       refine (leaves_any _ _ ls fs fi hfi op A B _ base (Nat.le_trans hbase k3.size) (ht.new k3) (hf.chg k3 (fun _ _ _ e=>e) (fun _ _ _ e=>e) (fun _ _ _ e=>e)) hn h1 h2 HOK.out HARG.out).mono ?_
       rintro e w4 ⟨gv,rfl,hgv,hch4⟩
       have k4:=k3.trans hch4
       have hO4:IntsV w4 w.heap.size (.slice oa T.length oc) T:=IntsV.chg hO hch4 (fun _ _ _ e=>e)
       have hgr:=hgv.rdI
       have hsz4:=k4.size
       clear hO hch4 k3 d0 d1 m0 m1 m2
       generalize behind ls fs fs[fi] op A B=G at *
       rcases hgr with ⟨rfl,rfl⟩ | ⟨g2,o2,c2,rfl,hle2,hcap2,kk2⟩
       ·clear hgv
        go_wp2_with (first | (at_builtin;refine wpList_append_own_none rfl _ _ 24 rfl w.heap.size 3 i 1 Try.underlying24 Hi1.out _ _ _ rfl hO4 rfl ?_))
        exact bodyPost_ret (v:=.tuple #[(.slice oa T.length oc),.bool (decide (((T).length:Int)<=8))]) (by simp [results,Try.results70,go_sem]) rfl ⟨_,_,rfl,AfPost.fin T k4 (own_base hO4 hbase) rfl (by have:=HQ3.out;rw [List.append_nil] at this;exact this)⟩
       ·have HN2:Hid (∀ j u,(ints G)[j]?=some u->w4.cell? ((⟨g2,o2,none⟩:Addr).add j)=some u):=RdI.news kk2
        clear kk2 hgv
        go_wp2_with (first | (at_builtin;refine wpList_append_own _ rfl _ _ 24 rfl w.heap.size 3 i (.int .i64 0) 1 8 Try.underlying24 Hi1.out Hi2.out Hi3.out Hi4.out rfl (by decide) _ _ _ rfl hO4 ⟨g2,o2,none⟩ G.length c2 (ints G) rfl ?c0 HN2.out ?c2 ?c3 ?c4 ?c5 ?_))
        case c0=>simp [ints]
        case c2=>intro u hu;simp [ints] at hu;obtain ⟨x,_,rfl⟩:=hu;rfl
        case c3=>have:=HTL.out;unfold maxLen;simp;omega
        case c4=>have:=HTL.out;omega
        case c5=>omega
        ·intro v5 w5 hown5 hgrow5 hzz
         clear hzz
         have k5:=k4.grown hgrow5 (fun k hk=>.inr (hO4.lt k hk).1)
         have hO5:IntsV w5 w.heap.size v5 (T++G):=by unfold IntsV;simpa [ints] using hown5
         clear hown5 hgrow5 HN2
         generalize T++G=L at *
         obtain ⟨a5,c5,rfl⟩:=hO5.slice
         go_wp2
         exact bodyPost_ret (v:=.tuple #[.slice a5 L.length c5,.bool (decide ((L.length:Int)<=8))]) (by simp [results,Try.results70,go_sem]) rfl ⟨_,_,rfl,AfPost.fin L k5 (own_base hO5 hbase) rfl HQ3.out⟩
    ·have hcp:(0:Nat)<=sc:=by omega
     have hTL:(s.take (0)).length=0:=by rw [List.length_take];omega
     go_wp2_with fail
     refine (rsame_any _ _ (s.drop (0)) N _ hdl RD hnR).mono ?_
     rintro e w2 ⟨rfl,n2,rfl⟩
     have k2:=k1.drewN n2
     have TK2:IntsV (w1.drewN n2) base (.slice gs (0) sc) (s.take (0)):=own_drewN TK n2
     have e0:=c0.drewN n2
     have e1:=c1.drewN n2
     clear m0 hs1 RD hnR hnv TK c0 c1 k1
     generalize w1.drewN n2=w2 at *
     cases hb:(s.drop (0) == N) with
     | false =>
      have HRR:Hid (R=none):=HQ2.out.1 hb
      clear HQ2 hb
      go_wp2
      exact bodyPost_ret (v:=.tuple #[(),.bool false]) (by simp [results,Try.results70,go_sem]) rfl ⟨_,_,rfl,AfPost.no k2 HRR.out⟩
     | true =>
      have HQ3:Hid (R=if 8 < (s.take (0)++behind ls fs fs[fi] op A B).length then none else some (s.take (0)++behind ls fs fs[fi] op A B)):=HQ2.out.2 hb
      clear HQ2 hb
      generalize s.take (0)=T at *
      have HTL:=hid hTL
      clear hTL
      have HN1:Hid (∀ j u,(ints T)[j]?=some u->w2.cell? ((⟨gs,0,none⟩:Addr).add j)=some u):=fun j u=>World.ownsRow.cells (g:=gs) TK2 rfl j u
      have hsz2:=k2.size
      clear TK2
      have h0:w2.ownsRow w.heap.size 3 1 (.slice none 0 0) 0 []:=World.ownsRow_nil _ _ _ _
      go_wp2_with (first | (at_builtin;refine wpList_append_own _ rfl _ _ 24 rfl w.heap.size 3 i (.int .i64 0) 1 8 Try.underlying24 Hi1.out Hi2.out Hi3.out Hi4.out rfl (by decide) _ _ _ rfl h0 ⟨gs,0,none⟩ (0) sc (ints T) rfl ?c0 HN1.out ?c2 ?c3 ?c4 ?c5 ?_))
      case c0=>have:=HTL.out;simp [ints,this]
      case c2=>intro u hu;simp [ints] at hu;obtain ⟨x,_,rfl⟩:=hu;rfl
      case c3=>unfold maxLen;omega
      case c4=>omega
      case c5=>omega
      ·intro v' w3 hown hgrow hzz
       clear hzz
       have k3:=k2.grown hgrow (fun k hk=>by cases hk)
       have e0:=e0.grown hgrow (fun e=>by cases e)
       have e1:=e1.grown hgrow (fun e=>by cases e)
       have hO:IntsV w3 w.heap.size v' T:=by unfold IntsV;rw [HTL.out];simpa using hown
       clear hown hgrow h0 HN1 k2
       obtain ⟨oa,oc,rfl⟩:=hO.slice
       have d0:w3.cell? ⟨w.heap.size,0,none⟩=some (.slice ta ls.length tc):=e0.cell 0
       have d1:w3.cell? ⟨w.heap.size,1,none⟩=some (.slice fa fs.length fc):=e0.cell 1
       have m0:w3.cell? ⟨w.heap.size+1,0,none⟩=some (.int .i64 op):=e1.cell 0
       have m1:w3.cell? ⟨w.heap.size+1,1,none⟩=some (.int .i64 A):=e1.cell 1
       have m2:w3.cell? ⟨w.heap.size+1,2,none⟩=some (.int .i64 B):=e1.cell 2
       clear e0 e1
       go_wp2_with fail
       refine (leaves_any _ _ ls fs fi hfi op A B _ base (Nat.le_trans hbase k3.size) (ht.new k3) (hf.chg k3 (fun _ _ _ e=>e) (fun _ _ _ e=>e) (fun _ _ _ e=>e)) hn h1 h2 HOK.out HARG.out).mono ?_
       rintro e w4 ⟨gv,rfl,hgv,hch4⟩
       have k4:=k3.trans hch4
       have hO4:IntsV w4 w.heap.size (.slice oa T.length oc) T:=IntsV.chg hO hch4 (fun _ _ _ e=>e)
       have hgr:=hgv.rdI
       have hsz4:=k4.size
       clear hO hch4 k3 d0 d1 m0 m1 m2
       generalize behind ls fs fs[fi] op A B=G at *
       rcases hgr with ⟨rfl,rfl⟩ | ⟨g2,o2,c2,rfl,hle2,hcap2,kk2⟩
       ·clear hgv
        go_wp2_with (first | (at_builtin;refine wpList_append_own_none rfl _ _ 24 rfl w.heap.size 3 i 1 Try.underlying24 Hi1.out _ _ _ rfl hO4 rfl ?_))
        exact bodyPost_ret (v:=.tuple #[(.slice oa T.length oc),.bool (decide (((T).length:Int)<=8))]) (by simp [results,Try.results70,go_sem]) rfl ⟨_,_,rfl,AfPost.fin T k4 (own_base hO4 hbase) rfl (by have:=HQ3.out;rw [List.append_nil] at this;exact this)⟩
       ·have HN2:Hid (∀ j u,(ints G)[j]?=some u->w4.cell? ((⟨g2,o2,none⟩:Addr).add j)=some u):=RdI.news kk2
        clear kk2 hgv
        go_wp2_with (first | (at_builtin;refine wpList_append_own _ rfl _ _ 24 rfl w.heap.size 3 i (.int .i64 0) 1 8 Try.underlying24 Hi1.out Hi2.out Hi3.out Hi4.out rfl (by decide) _ _ _ rfl hO4 ⟨g2,o2,none⟩ G.length c2 (ints G) rfl ?c0 HN2.out ?c2 ?c3 ?c4 ?c5 ?_))
        case c0=>simp [ints]
        case c2=>intro u hu;simp [ints] at hu;obtain ⟨x,_,rfl⟩:=hu;rfl
        case c3=>have:=HTL.out;unfold maxLen;simp;omega
        case c4=>have:=HTL.out;omega
        case c5=>omega
        ·intro v5 w5 hown5 hgrow5 hzz
         clear hzz
         have k5:=k4.grown hgrow5 (fun k hk=>.inr (hO4.lt k hk).1)
         have hO5:IntsV w5 w.heap.size v5 (T++G):=by unfold IntsV;simpa [ints] using hown5
         clear hown5 hgrow5 HN2
         generalize T++G=L at *
         obtain ⟨a5,c5,rfl⟩:=hO5.slice
         go_wp2
         exact bodyPost_ret (v:=.tuple #[.slice a5 L.length c5,.bool (decide ((L.length:Int)<=8))]) (by simp [results,Try.results70,go_sem]) rfl ⟨_,_,rfl,AfPost.fin L k5 (own_base hO5 hbase) rfl HQ3.out⟩
   ·have h16':(op == 16)=false:=by simp [h16]
    clear hno h16
    rcases cases3 with ⟨rfl,h01,rfl,rfl⟩ | ⟨gs,rfl,rfl,RD⟩ | ⟨gs,rfl,hrc,RD⟩
    ·have hs0:s=[]:=List.eq_nil_of_length_eq_zero h01
     subst hs0
     have hN0:N=[]:=List.eq_nil_of_length_eq_zero (by simpa using hle)
     subst hN0
     have HQ3:Hid (R=if 8 < (([]:List Int)++behind ls fs fs[fi] op A B).length then none else some (([]:List Int)++behind ls fs fs[fi] op A B)):=HQ2.out.2 rfl
     clear HQ2 hr1 hr3 h01 TK
     go_wp2_with fail
     refine (rsame_any _ _ ([]:List Int) [] w1 (by simp) (.inl ⟨rfl,rfl⟩) hnR).mono ?_
     rintro e w2 ⟨rfl,n2,rfl⟩
     have k3:=k1.drewN n2
     have e0:=c0.drewN n2
     have e1:=c1.drewN n2
     clear m0 hs1 hnR hnv c0 c1 k1
     generalize w1.drewN n2=w3 at *
     have hO:IntsV w3 w.heap.size (.slice none 0 0) []:=World.ownsRow_nil _ _ _ _
     have HTL:=True.intro
     have d0:w3.cell? ⟨w.heap.size,0,none⟩=some (.slice ta ls.length tc):=e0.cell 0
     have d1:w3.cell? ⟨w.heap.size,1,none⟩=some (.slice fa fs.length fc):=e0.cell 1
     have m0:w3.cell? ⟨w.heap.size+1,0,none⟩=some (.int .i64 op):=e1.cell 0
     have m1:w3.cell? ⟨w.heap.size+1,1,none⟩=some (.int .i64 A):=e1.cell 1
     have m2:w3.cell? ⟨w.heap.size+1,2,none⟩=some (.int .i64 B):=e1.cell 2
     clear e0 e1
     go_wp2_with (first | (at_builtin;refine wpList_append_own_none rfl _ _ 24 rfl w.heap.size 3 i 1 Try.underlying24 Hi1.out _ _ _ rfl hO rfl ?_))
     go_wp2_with fail
     refine (leaves_any _ _ ls fs fi hfi op A B _ base (Nat.le_trans hbase k3.size) (ht.new k3) (hf.chg k3 (fun _ _ _ e=>e) (fun _ _ _ e=>e) (fun _ _ _ e=>e)) hn h1 h2 HOK.out HARG.out).mono ?_
     rintro e w4 ⟨gv,rfl,hgv,hch4⟩
     have k4:=k3.trans hch4
     have hO4:IntsV w4 w.heap.size (.slice none 0 0) ([]:List Int):=IntsV.chg hO hch4 (fun _ _ _ e=>e)
     have hgr:=hgv.rdI
     have hsz4:=k4.size
     clear hO hch4 k3 d0 d1 m0 m1 m2
     generalize behind ls fs fs[fi] op A B=G at *
     rcases hgr with ⟨rfl,rfl⟩ | ⟨g2,o2,c2,rfl,hle2,hcap2,kk2⟩
     ·clear hgv
      go_wp2_with (first | (at_builtin;refine wpList_append_own_none rfl _ _ 24 rfl w.heap.size 3 i 1 Try.underlying24 Hi1.out _ _ _ rfl hO4 rfl ?_))
      exact bodyPost_ret (v:=.tuple #[(.slice none 0 0),.bool (decide (((([]:List Int)).length:Int)<=8))]) (by simp [results,Try.results70,go_sem]) rfl ⟨_,_,rfl,AfPost.fin ([]:List Int) k4 (own_base hO4 hbase) rfl (by have:=HQ3.out;rw [List.append_nil] at this;exact this)⟩
     ·have HN2:Hid (∀ j u,(ints G)[j]?=some u->w4.cell? ((⟨g2,o2,none⟩:Addr).add j)=some u):=RdI.news kk2
      clear kk2 hgv
      go_wp2_with (first | (at_builtin;refine wpList_append_own _ rfl _ _ 24 rfl w.heap.size 3 i (.int .i64 0) 1 8 Try.underlying24 Hi1.out Hi2.out Hi3.out Hi4.out rfl (by decide) _ _ _ rfl hO4 ⟨g2,o2,none⟩ G.length c2 (ints G) rfl ?c0 HN2.out ?c2 ?c3 ?c4 ?c5 ?_))
      case c0=>simp [ints]
      case c2=>intro u hu;simp [ints] at hu;obtain ⟨x,_,rfl⟩:=hu;rfl
      case c3=>unfold maxLen;simp;omega
      case c4=>simp;omega
      case c5=>omega
      ·intro v5 w5 hown5 hgrow5 hzz
       clear hzz
       have k5:=k4.grown hgrow5 (fun k hk=>.inr (hO4.lt k hk).1)
       have hO5:IntsV w5 w.heap.size v5 (([]:List Int)++G):=by unfold IntsV;simpa [ints] using hown5
       clear hown5 hgrow5 HN2
       generalize ([]:List Int)++G=L at *
       obtain ⟨a5,c5,rfl⟩:=hO5.slice
       go_wp2
       exact bodyPost_ret (v:=.tuple #[.slice a5 L.length c5,.bool (decide ((L.length:Int)<=8))]) (by simp [results,Try.results70,go_sem]) rfl ⟨_,_,rfl,AfPost.fin L k5 (own_base hO5 hbase) rfl HQ3.out⟩
    ·have hTL:(s.take (r)).length=r:=by rw [List.length_take];omega
     go_wp2_with fail
     refine (rsame_any _ _ (s.drop (r)) N _ hdl RD hnR).mono ?_
     rintro e w2 ⟨rfl,n2,rfl⟩
     have k2:=k1.drewN n2
     have TK2:IntsV (w1.drewN n2) base (.slice gs (r) r) (s.take (r)):=own_drewN TK n2
     have e0:=c0.drewN n2
     have e1:=c1.drewN n2
     clear m0 hs1 RD hnR hnv TK c0 c1 k1
     generalize w1.drewN n2=w2 at *
     cases hb:(s.drop (r) == N) with
     | false =>
      have HRR:Hid (R=none):=HQ2.out.1 hb
      clear HQ2 hb
      go_wp2
      exact bodyPost_ret (v:=.tuple #[(),.bool false]) (by simp [results,Try.results70,go_sem]) rfl ⟨_,_,rfl,AfPost.no k2 HRR.out⟩
     | true =>
      have HQ3:Hid (R=if 8 < (s.take (r)++behind ls fs fs[fi] op A B).length then none else some (s.take (r)++behind ls fs fs[fi] op A B)):=HQ2.out.2 hb
      clear HQ2 hb
      generalize s.take (r)=T at *
      have HTL:=hid hTL
      clear hTL
      have HN1:Hid (∀ j u,(ints T)[j]?=some u->w2.cell? ((⟨gs,0,none⟩:Addr).add j)=some u):=fun j u=>World.ownsRow.cells (g:=gs) TK2 rfl j u
      have hsz2:=k2.size
      clear TK2
      have h0:w2.ownsRow w.heap.size 3 1 (.slice none 0 0) 0 []:=World.ownsRow_nil _ _ _ _
      go_wp2_with (first | (at_builtin;refine wpList_append_own _ rfl _ _ 24 rfl w.heap.size 3 i (.int .i64 0) 1 8 Try.underlying24 Hi1.out Hi2.out Hi3.out Hi4.out rfl (by decide) _ _ _ rfl h0 ⟨gs,0,none⟩ (r) r (ints T) rfl ?c0 HN1.out ?c2 ?c3 ?c4 ?c5 ?_))
      case c0=>have:=HTL.out;simp [ints,this]
      case c2=>intro u hu;simp [ints] at hu;obtain ⟨x,_,rfl⟩:=hu;rfl
      case c3=>unfold maxLen;omega
      case c4=>omega
      case c5=>omega
      ·intro v' w3 hown hgrow hzz
       clear hzz
       have k3:=k2.grown hgrow (fun k hk=>by cases hk)
       have e0:=e0.grown hgrow (fun e=>by cases e)
       have e1:=e1.grown hgrow (fun e=>by cases e)
       have hO:IntsV w3 w.heap.size v' T:=by unfold IntsV;rw [HTL.out];simpa using hown
       clear hown hgrow h0 HN1 k2
       obtain ⟨oa,oc,rfl⟩:=hO.slice
       have d0:w3.cell? ⟨w.heap.size,0,none⟩=some (.slice ta ls.length tc):=e0.cell 0
       have d1:w3.cell? ⟨w.heap.size,1,none⟩=some (.slice fa fs.length fc):=e0.cell 1
       have m0:w3.cell? ⟨w.heap.size+1,0,none⟩=some (.int .i64 op):=e1.cell 0
       have m1:w3.cell? ⟨w.heap.size+1,1,none⟩=some (.int .i64 A):=e1.cell 1
       have m2:w3.cell? ⟨w.heap.size+1,2,none⟩=some (.int .i64 B):=e1.cell 2
       clear e0 e1
       go_wp2_with fail
       refine (leaves_any _ _ ls fs fi hfi op A B _ base (Nat.le_trans hbase k3.size) (ht.new k3) (hf.chg k3 (fun _ _ _ e=>e) (fun _ _ _ e=>e) (fun _ _ _ e=>e)) hn h1 h2 HOK.out HARG.out).mono ?_
       rintro e w4 ⟨gv,rfl,hgv,hch4⟩
       have k4:=k3.trans hch4
       have hO4:IntsV w4 w.heap.size (.slice oa T.length oc) T:=IntsV.chg hO hch4 (fun _ _ _ e=>e)
       have hgr:=hgv.rdI
       have hsz4:=k4.size
       clear hO hch4 k3 d0 d1 m0 m1 m2
       generalize behind ls fs fs[fi] op A B=G at *
       rcases hgr with ⟨rfl,rfl⟩ | ⟨g2,o2,c2,rfl,hle2,hcap2,kk2⟩
       ·clear hgv
        go_wp2_with (first | (at_builtin;refine wpList_append_own_none rfl _ _ 24 rfl w.heap.size 3 i 1 Try.underlying24 Hi1.out _ _ _ rfl hO4 rfl ?_))
        exact bodyPost_ret (v:=.tuple #[(.slice oa T.length oc),.bool (decide (((T).length:Int)<=8))]) (by simp [results,Try.results70,go_sem]) rfl ⟨_,_,rfl,AfPost.fin T k4 (own_base hO4 hbase) rfl (by have:=HQ3.out;rw [List.append_nil] at this;exact this)⟩
       ·have HN2:Hid (∀ j u,(ints G)[j]?=some u->w4.cell? ((⟨g2,o2,none⟩:Addr).add j)=some u):=RdI.news kk2
        clear kk2 hgv
        go_wp2_with (first | (at_builtin;refine wpList_append_own _ rfl _ _ 24 rfl w.heap.size 3 i (.int .i64 0) 1 8 Try.underlying24 Hi1.out Hi2.out Hi3.out Hi4.out rfl (by decide) _ _ _ rfl hO4 ⟨g2,o2,none⟩ G.length c2 (ints G) rfl ?c0 HN2.out ?c2 ?c3 ?c4 ?c5 ?_))
        case c0=>simp [ints]
        case c2=>intro u hu;simp [ints] at hu;obtain ⟨x,_,rfl⟩:=hu;rfl
        case c3=>have:=HTL.out;unfold maxLen;simp;omega
        case c4=>have:=HTL.out;omega
        case c5=>omega
        ·intro v5 w5 hown5 hgrow5 hzz
         clear hzz
         have k5:=k4.grown hgrow5 (fun k hk=>.inr (hO4.lt k hk).1)
         have hO5:IntsV w5 w.heap.size v5 (T++G):=by unfold IntsV;simpa [ints] using hown5
         clear hown5 hgrow5 HN2
         generalize T++G=L at *
         obtain ⟨a5,c5,rfl⟩:=hO5.slice
         go_wp2
         exact bodyPost_ret (v:=.tuple #[.slice a5 L.length c5,.bool (decide ((L.length:Int)<=8))]) (by simp [results,Try.results70,go_sem]) rfl ⟨_,_,rfl,AfPost.fin L k5 (own_base hO5 hbase) rfl HQ3.out⟩
    ·have hcp:(r:Int)<=(sc:Int):=by omega
     have hTL:(s.take (r)).length=r:=by rw [List.length_take];omega
     go_wp2_with fail
     refine (rsame_any _ _ (s.drop (r)) N _ hdl RD hnR).mono ?_
     rintro e w2 ⟨rfl,n2,rfl⟩
     have k2:=k1.drewN n2
     have TK2:IntsV (w1.drewN n2) base (.slice gs (r) sc) (s.take (r)):=own_drewN TK n2
     have e0:=c0.drewN n2
     have e1:=c1.drewN n2
     clear m0 hs1 RD hnR hnv TK c0 c1 k1
     generalize w1.drewN n2=w2 at *
     cases hb:(s.drop (r) == N) with
     | false =>
      have HRR:Hid (R=none):=HQ2.out.1 hb
      clear HQ2 hb
      go_wp2
      exact bodyPost_ret (v:=.tuple #[(),.bool false]) (by simp [results,Try.results70,go_sem]) rfl ⟨_,_,rfl,AfPost.no k2 HRR.out⟩
     | true =>
      have HQ3:Hid (R=if 8 < (s.take (r)++behind ls fs fs[fi] op A B).length then none else some (s.take (r)++behind ls fs fs[fi] op A B)):=HQ2.out.2 hb
      clear HQ2 hb
      generalize s.take (r)=T at *
      have HTL:=hid hTL
      clear hTL
      have HN1:Hid (∀ j u,(ints T)[j]?=some u->w2.cell? ((⟨gs,0,none⟩:Addr).add j)=some u):=fun j u=>World.ownsRow.cells (g:=gs) TK2 rfl j u
      have hsz2:=k2.size
      clear TK2
      have h0:w2.ownsRow w.heap.size 3 1 (.slice none 0 0) 0 []:=World.ownsRow_nil _ _ _ _
      go_wp2_with (first | (at_builtin;refine wpList_append_own _ rfl _ _ 24 rfl w.heap.size 3 i (.int .i64 0) 1 8 Try.underlying24 Hi1.out Hi2.out Hi3.out Hi4.out rfl (by decide) _ _ _ rfl h0 ⟨gs,0,none⟩ (r) sc (ints T) rfl ?c0 HN1.out ?c2 ?c3 ?c4 ?c5 ?_))
      case c0=>have:=HTL.out;simp [ints,this]
      case c2=>intro u hu;simp [ints] at hu;obtain ⟨x,_,rfl⟩:=hu;rfl
      case c3=>unfold maxLen;omega
      case c4=>omega
      case c5=>omega
      ·intro v' w3 hown hgrow hzz
       clear hzz
       have k3:=k2.grown hgrow (fun k hk=>by cases hk)
       have e0:=e0.grown hgrow (fun e=>by cases e)
       have e1:=e1.grown hgrow (fun e=>by cases e)
       have hO:IntsV w3 w.heap.size v' T:=by unfold IntsV;rw [HTL.out];simpa using hown
       clear hown hgrow h0 HN1 k2
       obtain ⟨oa,oc,rfl⟩:=hO.slice
       have d0:w3.cell? ⟨w.heap.size,0,none⟩=some (.slice ta ls.length tc):=e0.cell 0
       have d1:w3.cell? ⟨w.heap.size,1,none⟩=some (.slice fa fs.length fc):=e0.cell 1
       have m0:w3.cell? ⟨w.heap.size+1,0,none⟩=some (.int .i64 op):=e1.cell 0
       have m1:w3.cell? ⟨w.heap.size+1,1,none⟩=some (.int .i64 A):=e1.cell 1
       have m2:w3.cell? ⟨w.heap.size+1,2,none⟩=some (.int .i64 B):=e1.cell 2
       clear e0 e1
       go_wp2_with fail
       refine (leaves_any _ _ ls fs fi hfi op A B _ base (Nat.le_trans hbase k3.size) (ht.new k3) (hf.chg k3 (fun _ _ _ e=>e) (fun _ _ _ e=>e) (fun _ _ _ e=>e)) hn h1 h2 HOK.out HARG.out).mono ?_
       rintro e w4 ⟨gv,rfl,hgv,hch4⟩
       have k4:=k3.trans hch4
       have hO4:IntsV w4 w.heap.size (.slice oa T.length oc) T:=IntsV.chg hO hch4 (fun _ _ _ e=>e)
       have hgr:=hgv.rdI
       have hsz4:=k4.size
       clear hO hch4 k3 d0 d1 m0 m1 m2
       generalize behind ls fs fs[fi] op A B=G at *
       rcases hgr with ⟨rfl,rfl⟩ | ⟨g2,o2,c2,rfl,hle2,hcap2,kk2⟩
       ·clear hgv
        go_wp2_with (first | (at_builtin;refine wpList_append_own_none rfl _ _ 24 rfl w.heap.size 3 i 1 Try.underlying24 Hi1.out _ _ _ rfl hO4 rfl ?_))
        exact bodyPost_ret (v:=.tuple #[(.slice oa T.length oc),.bool (decide (((T).length:Int)<=8))]) (by simp [results,Try.results70,go_sem]) rfl ⟨_,_,rfl,AfPost.fin T k4 (own_base hO4 hbase) rfl (by have:=HQ3.out;rw [List.append_nil] at this;exact this)⟩
       ·have HN2:Hid (∀ j u,(ints G)[j]?=some u->w4.cell? ((⟨g2,o2,none⟩:Addr).add j)=some u):=RdI.news kk2
        clear kk2 hgv
        go_wp2_with (first | (at_builtin;refine wpList_append_own _ rfl _ _ 24 rfl w.heap.size 3 i (.int .i64 0) 1 8 Try.underlying24 Hi1.out Hi2.out Hi3.out Hi4.out rfl (by decide) _ _ _ rfl hO4 ⟨g2,o2,none⟩ G.length c2 (ints G) rfl ?c0 HN2.out ?c2 ?c3 ?c4 ?c5 ?_))
        case c0=>simp [ints]
        case c2=>intro u hu;simp [ints] at hu;obtain ⟨x,_,rfl⟩:=hu;rfl
        case c3=>have:=HTL.out;unfold maxLen;simp;omega
        case c4=>have:=HTL.out;omega
        case c5=>omega
        ·intro v5 w5 hown5 hgrow5 hzz
         clear hzz
         have k5:=k4.grown hgrow5 (fun k hk=>.inr (hO4.lt k hk).1)
         have hO5:IntsV w5 w.heap.size v5 (T++G):=by unfold IntsV;simpa [ints] using hown5
         clear hown5 hgrow5 HN2
         generalize T++G=L at *
         obtain ⟨a5,c5,rfl⟩:=hO5.slice
         go_wp2
         exact bodyPost_ret (v:=.tuple #[.slice a5 L.length c5,.bool (decide ((L.length:Int)<=8))]) (by simp [results,Try.results70,go_sem]) rfl ⟨_,_,rfl,AfPost.fin L k5 (own_base hO5 hbase) rfl HQ3.out⟩
end Go.Proofs.Ytnfnbcbadakofab
namespace Go.Proofs.Ytnfnbcbadakofab
open Go.RowKit
inductive Reach (n:Nat) (aft:Nat->List Int->Option (List Int)) (wy:Nat->List Int):Nat->List Int->Prop
 | zero:Reach n aft wy 0 []
 | step {i:Nat} {s t:List Int} {k:Int}:Reach n aft wy i s->aft i s=some t->k ∈ wy i->0<=k->k < (n:Int)->Reach n aft wy k.toNat t
abbrev Spots:=List (Option (List Int))
def Clo (n:Nat) (aft:Nat->List Int->Option (List Int)) (wy:Nat->List Int) (sp:Spots) (i:Nat):Prop:=
 ∀ s,sp[i]?=some (some s)->∃ t,aft i s=some t/\∀ k ∈ wy i,0<=k/\k < (n:Int)/\sp[k.toNat]?=some (some t)
structure Sol (n:Nat) (aft:Nat->List Int->Option (List Int)) (wy:Nat->List Int) (sp:Spots):Prop where
 len:sp.length=n
 zero:sp[0]?=some (some [])
 clo:∀ i,Clo n aft wy sp i
def Snd (n:Nat) (aft:Nat->List Int->Option (List Int)) (wy:Nat->List Int) (sp:Spots):Prop:=∀ i s,sp[i]?=some (some s)->Reach n aft wy i s
theorem Sol.of {n:Nat} {aft:Nat->List Int->Option (List Int)} {wy:Nat->List Int} {sp:Spots} (h:Sol n aft wy sp) {i:Nat} {s:List Int} (hr:Reach n aft wy i s):sp[i]?=some (some s):=by
 induction hr with
 | zero=>exact h.zero
 | step _ ha hk _ _ ih =>
  obtain ⟨t',h1,h2⟩:=h.clo _ _ ih
  rw [ha] at h1
  cases h1
  exact (h2 _ hk).2.2
theorem Sol.one {n:Nat} {aft:Nat->List Int->Option (List Int)} {wy:Nat->List Int} {sp sp':Spots} (h:Sol n aft wy sp) (hs:Snd n aft wy sp) (h':Sol n aft wy sp') (hs':Snd n aft wy sp'):sp=sp':=by
 apply List.ext_getElem?
 intro i
 rcases Nat.lt_or_ge i n with hi | hi
 ·have l1:i < sp.length:=by rw [h.len];exact hi
  have l2:i < sp'.length:=by rw [h'.len];exact hi
  have e1:=List.getElem?_eq_getElem l1
  have e2:=List.getElem?_eq_getElem l2
  rcases h1:sp[i]'l1 with _ | s
  ·rcases h2:sp'[i]'l2 with _ | s
   ·rw [e1,e2,h1,h2]
   ·rw [h2] at e2
    rw [h.of (hs' _ _ e2),e2]
  ·rw [h1] at e1
   rw [e1,h'.of (hs _ _ e1)]
 ·rw [List.getElem?_eq_none (by rw [h.len];exact hi),List.getElem?_eq_none (by rw [h'.len];exact hi)]
def Bad (n:Nat) (aft:Nat->List Int->Option (List Int)) (wy:Nat->List Int):Prop:=
 ∃ i s,Reach n aft wy i s/\(aft i s=none \/ ∃ t k,aft i s=some t/\k ∈ wy i/\(k < 0 \/ (n:Int)<=k \/ ∃ u,u ≠ t/\Reach n aft wy k.toNat u))
theorem Bad.no {n:Nat} {aft:Nat->List Int->Option (List Int)} {wy:Nat->List Int} (h:Bad n aft wy) {sp:Spots} (hs:Sol n aft wy sp):False:=by
 obtain ⟨i,s,hr,h⟩:=h
 obtain ⟨t',h1,h2⟩:=hs.clo i s (hs.of hr)
 rcases h with h | ⟨t,k,ha,hk,h⟩
 ·rw [h] at h1;cases h1
 ·rw [ha] at h1;cases h1
  obtain ⟨a,b,c⟩:=h2 k hk
  rcases h with h | h | ⟨u,hu,hr'⟩
  ·omega
  ·omega
  ·have:=hs.of hr'
   rw [c] at this
   simp only [Option.some.injEq] at this
   exact hu this.symm
def cnt (sp:Spots):Nat:=sp.countP Option.isSome
theorem cnt_set {sp:Spots} {k:Nat} (t:List Int) (h:sp[k]?=some none):cnt (sp.set k (some t))=cnt sp+1:=by
 unfold cnt
 induction sp generalizing k with
 | nil=>simp at h
 | cons x c ih =>
  rcases k with _ | k
  ·simp at h;subst h;simp
  ·have:=ih (k:=k) (by simpa using h)
   simp only [List.set_cons_succ,List.countP_cons,this];omega
theorem set_self {sp:Spots} {k:Nat} {t:List Int} (h:sp[k]?=some (some t)):sp.set k (some t)=sp:=by
 apply List.ext_getElem?
 intro i
 rw [List.getElem?_set]
 split
 ·subst_vars
  split
  ·exact h.symm
  ·rename_i h1;rw [List.getElem?_eq_none (by omega)] at h;cases h
 ·rfl
def put (n:Nat) (t:List Int):Spots->List Int->Option Spots
 | sp,[]=>some sp
 | sp,k::ks=>if (n:Int)<=k then none else
  match sp.getD k.toNat none with
  | some u=>if u == t then put n t (sp.set k.toNat (some t)) ks else none
  | none=>put n t (sp.set k.toNat (some t)) ks
theorem getD_some {sp:Spots} {k:Nat} (hk:k < sp.length) {x:Option (List Int)} (h:sp.getD k none=x):sp[k]?=some x:=by
 rw [List.getD_eq_getElem?_getD,List.getElem?_eq_getElem hk] at h
 rw [List.getElem?_eq_getElem hk]
 simpa using h
theorem put_ok {n:Nat} {t:List Int} {ks:List Int} (h0:∀ k ∈ ks,0<=k):∀ {sp sp':Spots},sp.length=n->put n t sp ks=some sp' ->
 sp'.length=n/\(∀ (i:Nat) s,sp[i]?=some (some s)->sp'[i]?=some (some s))/\(∀ k ∈ ks,k < (n:Int)/\sp'[k.toNat]?=some (some t)) /\
 (∀ (i:Nat) s,sp'[i]?=some (some s)->sp[i]?=some (some s) \/ (s=t/\∃ k ∈ ks,k < (n:Int)/\k.toNat=i))/\cnt sp<=cnt sp'/\(cnt sp'<=cnt sp->sp'=sp):=by
 induction ks with
 | nil =>
  intro sp sp' hl h
  simp only [put,Option.some.injEq] at h
  subst h
  exact ⟨hl,fun _ _ h=>h,fun k hk=>by simp at hk,fun _ _ h=>.inl h,Nat.le_refl _,fun _=>rfl⟩
 | cons k ks ih =>
  intro sp sp' hl h
  have hk0:=h0 k (by simp)
  have ih:=@ih (fun k hk=>h0 k (by simp [hk]))
  unfold put at h
  by_cases hn:(n:Int)<=k
  ·rw [if_pos hn] at h;cases h
  rw [if_neg hn] at h
  have hkl:k.toNat < sp.length:=by omega
  rcases hg:sp.getD k.toNat none with _ | u
  ·rw [hg] at h
   have e:=getD_some hkl hg
   obtain ⟨a1,a2,a3,a4,a5,a6⟩:=ih (by simpa using hl) h
   have c1:=cnt_set t e
   refine ⟨a1,fun i s hs=>a2 i s ?_,?_,fun i s hs=>?_,by omega,fun hc=>by omega⟩
   ·rw [List.getElem?_set]
    split
    ·subst_vars;rw [e] at hs;cases hs
    ·exact hs
   ·intro j hj
    rcases List.mem_cons.1 hj with rfl | hj
    ·exact ⟨by omega,a2 _ _ (by rw [List.getElem?_set];simp [hkl])⟩
    ·exact a3 j hj
   ·rcases a4 i s hs with hh | ⟨hh,j,hj,hjn,hji⟩
    ·rw [List.getElem?_set] at hh
     split at hh
     ·subst_vars
      simp only [Option.some.injEq] at hh
      exact .inr ⟨hh.symm,k,by simp,by omega,rfl⟩
     ·exact .inl hh
    ·exact .inr ⟨hh,j,by simp [hj],hjn,hji⟩
  ·rw [hg] at h
   have e:=getD_some hkl hg
   by_cases hut:(u == t)=true
   ·simp only [hut,if_true] at h
    have hut':u=t:=by simpa using hut
    subst hut'
    rw [set_self e] at h
    obtain ⟨a1,a2,a3,a4,a5,a6⟩:=ih hl h
    refine ⟨a1,a2,?_,fun i s hs=>?_,a5,a6⟩
    ·intro j hj
     rcases List.mem_cons.1 hj with rfl | hj
     ·exact ⟨by omega,a2 _ _ e⟩
     ·exact a3 j hj
    ·rcases a4 i s hs with hh | ⟨hh,j,hj,hjn,hji⟩
     ·exact .inl hh
     ·exact .inr ⟨hh,j,by simp [hj],hjn,hji⟩
   ·simp only [hut] at h
    simp at h
theorem put_bad {n:Nat} {t:List Int} {ks:List Int} (h0:∀ k ∈ ks,0<=k):∀ {sp:Spots},sp.length=n->put n t sp ks=none ->
 ∃ k ∈ ks,(n:Int)<=k \/ ∃ u,u ≠ t/\sp[k.toNat]?=some (some u):=by
 induction ks with
 | nil=>intro sp _ h;simp [put] at h
 | cons k ks ih =>
  intro sp hl h
  have hk0:=h0 k (by simp)
  have ih:=@ih (fun k hk=>h0 k (by simp [hk]))
  unfold put at h
  by_cases hn:(n:Int)<=k
  ·exact ⟨k,by simp,.inl hn⟩
  rw [if_neg hn] at h
  have hkl:k.toNat < sp.length:=by omega
  have next:put n t (sp.set k.toNat (some t)) ks=none->∃ k' ∈ k::ks,(n:Int)<=k' \/ ∃ u,u ≠ t/\sp[k'.toNat]?=some (some u):=by
   intro h
   obtain ⟨j,hj,hh⟩:=ih (by simpa using hl) h
   refine ⟨j,by simp [hj],?_⟩
   rcases hh with hh | ⟨u,hu,hh⟩
   ·exact .inl hh
   ·refine .inr ⟨u,hu,?_⟩
    rw [List.getElem?_set] at hh
    split at hh
    ·simp only [Option.some.injEq] at hh;exact absurd hh.symm hu
    ·exact hh
  rcases hg:sp.getD k.toNat none with _ | u
  ·rw [hg] at h;exact next h
  ·rw [hg] at h
   have e:=getD_some hkl hg
   by_cases hut:(u == t)=true
   ·simp only [hut,if_true] at h;exact next h
   ·exact ⟨k,by simp,.inr ⟨u,by simpa using hut,e⟩⟩
def rnd (n:Nat) (aft:Nat->List Int->Option (List Int)) (wy:Nat->List Int):Nat->Nat->Spots->Option Spots
 | 0,_,sp=>some sp
 | c+1,i,sp =>
  match sp.getD i none with
  | none=>rnd n aft wy c (i+1) sp
  | some s=>match aft i s with
   | none=>none
   | some t=>match put n t sp (wy i) with
    | none=>none
    | some sp'=>rnd n aft wy c (i+1) sp'
def rnds (n:Nat) (aft:Nat->List Int->Option (List Int)) (wy:Nat->List Int):Nat->Spots->Option Spots
 | 0,sp=>some sp
 | c+1,sp=>match rnd n aft wy n 0 sp with
  | none=>none
  | some sp'=>rnds n aft wy c sp'
theorem rnd_ok {n:Nat} {aft:Nat->List Int->Option (List Int)} {wy:Nat->List Int} (h0:∀ i,∀ k ∈ wy i,0<=k):∀ (c i:Nat) {sp sp':Spots},sp.length=n->i+c=n->Snd n aft wy sp->rnd n aft wy c i sp=some sp' ->
 sp'.length=n/\(∀ (j:Nat) s,sp[j]?=some (some s)->sp'[j]?=some (some s))/\Snd n aft wy sp'/\cnt sp<=cnt sp'/\(cnt sp'<=cnt sp->sp'=sp/\∀ j,i<=j->Clo n aft wy sp j):=by
 intro c
 induction c with
 | zero =>
  intro i sp sp' hl hi hs h
  simp only [rnd,Option.some.injEq] at h
  subst h
  refine ⟨hl,fun _ _ h=>h,hs,Nat.le_refl _,fun _=>⟨rfl,fun j hj s hjs=>?_⟩⟩
  rw [List.getElem?_eq_none (by omega)] at hjs;cases hjs
 | succ c ih =>
  intro i sp sp' hl hi hs h
  have hil:i < sp.length:=by omega
  unfold rnd at h
  rcases hg:sp.getD i none with _ | s
  ·rw [hg] at h
   obtain ⟨a1,a2,a3,a4,a5⟩:=ih (i+1) hl (by omega) hs h
   refine ⟨a1,a2,a3,a4,fun hc=>⟨(a5 hc).1,fun j hj=>?_⟩⟩
   rcases Nat.lt_or_ge i j with hij | hij
   ·exact (a5 hc).2 j hij
   ·have:j=i:=by omega
    subst this
    intro s hjs
    rw [getD_some hil hg] at hjs;cases hjs
  ·rw [hg] at h
   have e:=getD_some hil hg
   rcases ha:aft i s with _ | t
   ·simp only [ha] at h;cases h
   ·simp only [ha] at h
    rcases hp:put n t sp (wy i) with _ | sp1
    ·simp only [hp] at h;cases h
    ·simp only [hp] at h
     obtain ⟨p1,p2,p3,p4,p5,p6⟩:=put_ok (h0 i) hl hp
     have hs1:Snd n aft wy sp1:=by
      intro j u hj
      rcases p4 j u hj with hj | ⟨rfl,k,hk,hkn,rfl⟩
      ·exact hs j u hj
      ·exact .step (hs i s e) ha hk (h0 i k hk) hkn
     obtain ⟨a1,a2,a3,a4,a5⟩:=ih (i+1) p1 (by omega) hs1 h
     refine ⟨a1,fun j u hj=>a2 j u (p2 j u hj),a3,by omega,fun hc=>?_⟩
     have e1:=p6 (by omega)
     obtain ⟨b1,b2⟩:=a5 (by omega)
     subst e1
     refine ⟨b1,fun j hj=>?_⟩
     rcases Nat.lt_or_ge i j with hij | hij
     ·exact b2 j hij
     ·have:j=i:=by omega
      subst this
      intro u hju
      rw [e] at hju
      simp only [Option.some.injEq] at hju
      subst hju
      exact ⟨t,ha,fun k hk=>⟨h0 j k hk,(p3 k hk).1,(p3 k hk).2⟩⟩
theorem rnd_bad {n:Nat} {aft:Nat->List Int->Option (List Int)} {wy:Nat->List Int} (h0:∀ i,∀ k ∈ wy i,0<=k):∀ (c i:Nat) {sp:Spots},sp.length=n->i+c=n->Snd n aft wy sp->rnd n aft wy c i sp=none->Bad n aft wy:=by
 intro c
 induction c with
 | zero=>intro i sp _ _ _ h;simp [rnd] at h
 | succ c ih =>
  intro i sp hl hi hs h
  have hil:i < sp.length:=by omega
  unfold rnd at h
  rcases hg:sp.getD i none with _ | s
  ·rw [hg] at h
   exact ih (i+1) hl (by omega) hs h
  ·rw [hg] at h
   have e:=getD_some hil hg
   rcases ha:aft i s with _ | t
   ·exact ⟨i,s,hs i s e,.inl ha⟩
   ·simp only [ha] at h
    rcases hp:put n t sp (wy i) with _ | sp1
    ·obtain ⟨k,hk,hh⟩:=put_bad (h0 i) hl hp
     refine ⟨i,s,hs i s e,.inr ⟨t,k,ha,hk,?_⟩⟩
     rcases hh with hh | ⟨u,hu,hh⟩
     ·exact .inr (.inl hh)
     ·exact .inr (.inr ⟨u,hu,hs _ _ hh⟩)
    ·simp only [hp] at h
     obtain ⟨p1,p2,p3,p4,p5,p6⟩:=put_ok (h0 i) hl hp
     have hs1:Snd n aft wy sp1:=by
      intro j u hj
      rcases p4 j u hj with hj | ⟨rfl,k,hk,hkn,rfl⟩
      ·exact hs j u hj
      ·exact .step (hs i s e) ha hk (h0 i k hk) hkn
     exact ih (i+1) p1 (by omega) hs1 h
theorem rnds_bad {n:Nat} {aft:Nat->List Int->Option (List Int)} {wy:Nat->List Int} (h0:∀ i,∀ k ∈ wy i,0<=k):∀ (c:Nat) {sp:Spots},sp.length=n->Snd n aft wy sp->rnds n aft wy c sp=none->Bad n aft wy:=by
 intro c
 induction c with
 | zero=>intro sp _ _ h;simp [rnds] at h
 | succ c ih =>
  intro sp hl hs h
  unfold rnds at h
  rcases hr:rnd n aft wy n 0 sp with _ | sp1
  ·exact rnd_bad h0 n 0 hl (by omega) hs hr
  ·simp only [hr] at h
   obtain ⟨a1,_,a3,_⟩:=rnd_ok h0 n 0 hl (by omega) hs hr
   exact ih a1 a3 h
theorem put_id {n:Nat} {t:List Int} {ks:List Int} {sp:Spots} (_hl:sp.length=n) (h:∀ k ∈ ks,0<=k/\k < (n:Int)/\sp[k.toNat]?=some (some t)):put n t sp ks=some sp:=by
 induction ks with
 | nil=>rfl
 | cons k ks ih =>
  obtain ⟨a,b,c⟩:=h k (by simp)
  unfold put
  rw [if_neg (by omega)]
  have:sp.getD k.toNat none=some t:=by rw [List.getD_eq_getElem?_getD,c];rfl
  rw [this]
  simp only [beq_self_eq_true,if_true]
  rw [set_self c]
  exact ih (fun k hk=>h k (by simp [hk]))
theorem rnd_id {n:Nat} {aft:Nat->List Int->Option (List Int)} {wy:Nat->List Int} {sp:Spots} (hl:sp.length=n) (h:∀ j,Clo n aft wy sp j):∀ (c i:Nat),i+c=n->rnd n aft wy c i sp=some sp:=by
 intro c
 induction c with
 | zero=>intro i _;rfl
 | succ c ih =>
  intro i hi
  unfold rnd
  rcases hg:sp.getD i none with _ | s
  ·exact ih (i+1) (by omega)
  ·have e:=getD_some (by omega) hg
   obtain ⟨t,ha,hk⟩:=h i s e
   simp only [ha,put_id hl hk]
   exact ih (i+1) (by omega)
theorem rnds_id {n:Nat} {aft:Nat->List Int->Option (List Int)} {wy:Nat->List Int} {sp:Spots} (hl:sp.length=n) (h:∀ j,Clo n aft wy sp j):∀ (c:Nat),rnds n aft wy c sp=some sp:=by
 intro c
 induction c with
 | zero=>rfl
 | succ c ih=>unfold rnds;rw [rnd_id hl h n 0 (by omega)];exact ih
theorem rnds_ok {n:Nat} {aft:Nat->List Int->Option (List Int)} {wy:Nat->List Int} (h0:∀ i,∀ k ∈ wy i,0<=k):∀ (c:Nat) {sp sp':Spots},sp.length=n->Snd n aft wy sp->rnds n aft wy c sp=some sp' ->
 sp'.length=n/\(∀ (j:Nat) s,sp[j]?=some (some s)->sp'[j]?=some (some s))/\Snd n aft wy sp'/\((∀ j,Clo n aft wy sp' j) \/ cnt sp+c<=cnt sp'):=by
 intro c
 induction c with
 | zero =>
  intro sp sp' hl hs h
  simp only [rnds,Option.some.injEq] at h
  subst h
  exact ⟨hl,fun _ _ h=>h,hs,.inr (Nat.le_refl _)⟩
 | succ c ih =>
  intro sp sp' hl hs h
  unfold rnds at h
  rcases hr:rnd n aft wy n 0 sp with _ | sp1
  ·simp only [hr] at h;cases h
  ·simp only [hr] at h
   obtain ⟨a1,a2,a3,a4,a5⟩:=rnd_ok h0 n 0 hl (by omega) hs hr
   obtain ⟨b1,b2,b3,b4⟩:=ih a1 a3 h
   refine ⟨b1,fun j s hj=>b2 j s (a2 j s hj),b3,?_⟩
   by_cases hc:cnt sp1<=cnt sp
   ·obtain ⟨rfl,hcl⟩:=a5 hc
    have hcl:∀ j,Clo n aft wy sp1 j:=fun j=>hcl j (Nat.zero_le _)
    rw [rnds_id hl hcl c] at h
    simp only [Option.some.injEq] at h
    subst h
    exact .inl hcl
   ·rcases b4 with b4 | b4
    ·exact .inl b4
    ·exact .inr (by omega)
theorem doc_fit {n:Nat} {aft:Nat->List Int->Option (List Int)} {wy:Nat->List Int} (h0:∀ i,∀ k ∈ wy i,0<=k) (hn:0 < n) :
 (∀ sp,rnds n aft wy (n+1) ((List.replicate n none).set 0 (some []))=some sp->Sol n aft wy sp/\Snd n aft wy sp)/\(rnds n aft wy (n+1) ((List.replicate n none).set 0 (some []))=none->Bad n aft wy):=by
 have hl:((List.replicate n (none:Option (List Int))).set 0 (some [])).length=n:=by simp
 have hz:((List.replicate n (none:Option (List Int))).set 0 (some []))[0]?=some (some []):=by rw [List.getElem?_set];simp [hn]
 have hs:Snd n aft wy ((List.replicate n (none:Option (List Int))).set 0 (some [])):=by
  intro i s h
  rw [List.getElem?_set] at h
  split at h
  ·subst_vars
   split at h
   ·simp only [Option.some.injEq] at h;subst h;exact .zero
   ·cases h
  ·rw [List.getElem?_replicate] at h;split at h <;> simp at h
 refine ⟨fun sp h=>?_,fun h=>rnds_bad h0 _ hl hs h⟩
 obtain ⟨a1,a2,a3,a4⟩:=rnds_ok h0 _ hl hs h
 have hc:cnt sp<=n:=by rw [<-a1];exact List.countP_le_length
 rcases a4 with a4 | a4
 ·exact ⟨⟨a1,a2 0 [] hz,a4⟩,a3⟩
 ·omega
end Go.Proofs.Ytnfnbcbadakofab
namespace Go.Proofs.Ytnfnbcbadakofab
open Go.RowKit
abbrev Fits:=Spots × List Int × Bool
def gos (t:List Int) (st:Fits) (ks:List Int):Fits:=ks.foldl (fun st k=>goP st.1 st.2.1 st.2.2 k t) st
structure QI (sp:Spots) (q:List Int):Prop where
 len:q.length=cnt sp
 mem:∀ (i:Nat) s,sp[i]?=some (some s)->(i:Int) ∈ q
 has:∀ j ∈ q,0<=j/\∃ s,sp[j.toNat]?=some (some s)
theorem goP_wr (sp:Spots) (q:List Int) (k:Int) (t:List Int):(goP sp q true k t).2.2=true:=by
 unfold goP;repeat' split
 all_goals rfl
theorem gos_wr (t:List Int) (ks:List Int):∀ (st:Fits),st.2.2=true->(gos t st ks).2.2=true:=by
 induction ks with
 | nil=>intro st h;exact h
 | cons k ks ih =>
  intro st h
  obtain ⟨sp,q,wr⟩:=st
  simp only at h;subst h
  exact ih _ (goP_wr sp q k t)
theorem QI.push {sp:Spots} {q:List Int} (h:QI sp q) {k:Int} (hk:0<=k) (t:List Int) (e:sp[k.toNat]?=some none):QI (sp.set k.toNat (some t)) (q++[k]):=by
 have hkl:k.toNat < sp.length:=by
  rcases Nat.lt_or_ge k.toNat sp.length with h | h
  ·exact h
  ·rw [List.getElem?_eq_none h] at e;cases e
 refine ⟨by rw [cnt_set t e,List.length_append,h.len];rfl,fun i s hs=>?_,fun j hj=>?_⟩
 ·rw [List.getElem?_set] at hs
  split at hs
  ·rename_i hki
   rw [List.mem_append];right;simp;omega
  ·rw [List.mem_append];exact .inl (h.mem i s hs)
 ·rcases List.mem_append.1 hj with hj | hj
  ·obtain ⟨a,s,b⟩:=h.has j hj
   refine ⟨a,s,?_⟩
   rw [List.getElem?_set]
   split
   ·rename_i hh;rw [<-hh,e] at b;cases b
   ·exact b
  ·simp at hj;subst hj
   exact ⟨hk,t,by rw [List.getElem?_set];simp [hkl]⟩
theorem gos_put {n:Nat} {t:List Int} {ks:List Int} (h0:∀ k ∈ ks,0<=k):∀ {sp:Spots} {q:List Int},sp.length=n->QI sp q ->
 (∀ sp',put n t sp ks=some sp'->∃ e,gos t (sp,q,false) ks=(sp',q++e,false)/\QI sp' (q++e))/\(put n t sp ks=none->(gos t (sp,q,false) ks).2.2=true):=by
 induction ks with
 | nil =>
  intro sp q hl hq
  refine ⟨fun sp' h=>?_,fun h=>by simp [put] at h⟩
  simp only [put,Option.some.injEq] at h
  subst h
  exact ⟨[],by simp [gos],by simpa using hq⟩
 | cons k ks ih =>
  intro sp q hl hq
  have hk0:=h0 k (by simp)
  have ih:=@ih (fun k hk=>h0 k (by simp [hk]))
  have eg:gos t (sp,q,false) (k::ks)=gos t (goP sp q false k t) ks:=rfl
  rw [eg]
  unfold put
  by_cases hn:(n:Int)<=k
  ·rw [if_pos hn]
   refine ⟨fun sp' h=>(by cases h),fun _=>gos_wr _ _ _ ?_⟩
   unfold goP;rw [if_pos (.inr (by omega))]
  rw [if_neg hn]
  have hkl:k.toNat < sp.length:=by omega
  have gp:goP sp q false k t=match sp.getD k.toNat none with
   | none=>(sp.set k.toNat (some t),q++[k],false)
   | some s=>if s == t then (sp,q,false) else (sp,q,true):=by
   unfold goP;rw [if_neg (by omega)];rfl
  rw [gp]
  rcases hg:sp.getD k.toNat none with _ | u
  ·have e:=getD_some hkl hg
   obtain ⟨a,b⟩:=ih (by simpa using hl) (hq.push hk0 t e)
   refine ⟨fun sp' h=>?_,b⟩
   obtain ⟨e',h1,h2⟩:=a sp' h
   exact ⟨k::e',by simpa using h1,by simpa using h2⟩
  ·have e:=getD_some hkl hg
   by_cases hut:(u == t)=true
   ·simp only [hut,if_true]
    have hut':u=t:=by simpa using hut
    subst hut'
    rw [set_self e]
    exact ih hl hq
   ·simp only [hut]
    refine ⟨fun sp' h=>by simp at h,fun _=>gos_wr _ _ _ rfl⟩
def passA (aft:Nat->List Int->Option (List Int)) (wy:Nat->List Int) (i:Nat) (st:Fits):Fits:=
 match st.1.getD i none with
 | none=>st
 | some s=>match aft i s with
  | none=>(st.1,st.2.1,true)
  | some t=>gos t st (wy i)
def fitL (aft:Nat->List Int->Option (List Int)) (wy:Nat->List Int):Nat->Nat->Fits->Fits
 | 0,_,st=>st
 | c+1,k,st=>if st.2.2=true \/ st.2.1.length<=k then st else fitL aft wy c (k+1) (passA aft wy (st.2.1.getD k 0).toNat st)
structure FI (n:Nat) (aft:Nat->List Int->Option (List Int)) (wy:Nat->List Int) (sp:Spots) (q:List Int) (k:Nat):Prop where
 len:sp.length=n
 zero:sp[0]?=some (some [])
 snd:Snd n aft wy sp
 qi:QI sp q
 clo:∀ j x,j < k->q[j]?=some x->Clo n aft wy sp x.toNat
theorem Clo.ext {n:Nat} {aft:Nat->List Int->Option (List Int)} {wy:Nat->List Int} {sp sp':Spots} {i:Nat} (h:Clo n aft wy sp i) (hi:∃ s,sp[i]?=some (some s)) (hx:∀ (j:Nat) s,sp[j]?=some (some s)->sp'[j]?=some (some s)):Clo n aft wy sp' i:=by
 intro u hu
 obtain ⟨s,hs⟩:=hi
 have:=hx i s hs
 rw [this] at hu
 simp only [Option.some.injEq] at hu
 subst hu
 obtain ⟨t,ha,hk⟩:=h s hs
 exact ⟨t,ha,fun k hk'=>⟨(hk k hk').1,(hk k hk').2.1,hx _ _ (hk k hk').2.2⟩⟩
theorem FI.sol {n:Nat} {aft:Nat->List Int->Option (List Int)} {wy:Nat->List Int} {sp:Spots} {q:List Int} {k:Nat} (h:FI n aft wy sp q k) (hk:q.length<=k):Sol n aft wy sp:=by
 refine ⟨h.len,h.zero,fun i s hs=>?_⟩
 have hm:=h.qi.mem i s hs
 obtain ⟨j,hj,e⟩:=List.mem_iff_getElem.1 hm
 have:=h.clo j (i:Int) (by omega) (by rw [List.getElem?_eq_getElem hj,e])
 exact this s (by simpa using hs)
theorem fitL_ok {n:Nat} {aft:Nat->List Int->Option (List Int)} {wy:Nat->List Int} (h0:∀ i,∀ k ∈ wy i,0<=k):∀ (c k:Nat) (sp:Spots) (q:List Int),k+c=n->FI n aft wy sp q k ->
 ((fitL aft wy c k (sp,q,false)).2.2=true->Bad n aft wy)/\((fitL aft wy c k (sp,q,false)).2.2=false->Sol n aft wy (fitL aft wy c k (sp,q,false)).1/\Snd n aft wy (fitL aft wy c k (sp,q,false)).1):=by
 intro c
 induction c with
 | zero =>
  intro k sp q hk h
  have hc:q.length<=n:=by rw [h.qi.len,<-h.len];exact List.countP_le_length
  exact ⟨fun e=>by simp [fitL] at e,fun _=>⟨h.sol (by omega),h.snd⟩⟩
 | succ c ih =>
  intro k sp q hk h
  unfold fitL
  by_cases hq:q.length<=k
  ·rw [if_pos (.inr hq)]
   exact ⟨fun e=>by simp at e,fun _=>⟨h.sol hq,h.snd⟩⟩
  rw [if_neg (by simp;omega)]
  have hkq:k < q.length:=by omega
  have ex:q[k]?=some q[k]:=List.getElem?_eq_getElem hkq
  have ed:q.getD k 0=q[k]:=by rw [List.getD_eq_getElem?_getD,ex];rfl
  obtain ⟨x0,s,hs⟩:=h.qi.has q[k] (List.getElem_mem hkq)
  simp only [ed]
  generalize q[k]=x at *
  unfold passA
  have eg:sp.getD x.toNat none=some s:=by rw [List.getD_eq_getElem?_getD,hs];rfl
  simp only [eg]
  have hr:=h.snd _ _ hs
  rcases ha:aft x.toNat s with _ | t
  ·have hb:Bad n aft wy:=⟨_,s,hr,.inl ha⟩
   have hw:∀ c k,(fitL aft wy c k (sp,q,true)).2.2=true:=by
    intro c k
    cases c with
    | zero=>rfl
    | succ c=>unfold fitL;rw [if_pos (.inl rfl)]
   refine ⟨fun _=>hb,fun e=>?_⟩
   simp only [hw] at e;cases e
  ·simp only
   obtain ⟨g1,g2⟩:=gos_put (t:=t) (h0 x.toNat) h.len h.qi
   rcases hp:put n t sp (wy x.toNat) with _ | sp1
   ·obtain ⟨j,hj,hh⟩:=put_bad (h0 x.toNat) h.len hp
    have hb:Bad n aft wy:=by
     refine ⟨_,s,hr,.inr ⟨t,j,ha,hj,?_⟩⟩
     rcases hh with hh | ⟨u,hu,hh⟩
     ·exact .inr (.inl hh)
     ·exact .inr (.inr ⟨u,hu,h.snd _ _ hh⟩)
    have hw:=g2 hp
    generalize gos t (sp,q,false) (wy x.toNat)=st at *
    have hw':∀ c k,(fitL aft wy c k st).2.2=true:=by
     intro c k
     cases c with
     | zero=>exact hw
     | succ c=>unfold fitL;rw [if_pos (.inl hw)];exact hw
    refine ⟨fun _=>hb,fun e=>?_⟩
    rw [hw'] at e;cases e
   ·obtain ⟨e,g3,g4⟩:=g1 sp1 hp
    rw [g3]
    obtain ⟨p1,p2,p3,p4,p5,p6⟩:=put_ok (h0 x.toNat) h.len hp
    refine ih (k+1) sp1 (q++e) (by omega) ⟨p1,p2 _ _ h.zero,?_,g4,?_⟩
    ·intro j u hj
     rcases p4 j u hj with hj | ⟨rfl,i,hi,hin,rfl⟩
     ·exact h.snd j u hj
     ·exact .step hr ha hi (h0 _ _ hi) hin
    ·intro j y hj hy
     rw [List.getElem?_append_left (by omega)] at hy
     rcases Nat.lt_or_ge j k with hjk | hjk
     ·exact (h.clo j y hjk hy).ext (h.qi.has y (List.mem_of_getElem? hy)).2 p2
     ·have:j=k:=by omega
      subst this
      rw [ex] at hy
      simp only [Option.some.injEq] at hy
      subst hy
      intro u hu
      rw [p2 _ _ hs] at hu
      simp only [Option.some.injEq] at hu
      subst hu
      exact ⟨t,ha,fun i hi=>⟨h0 _ _ hi,(p3 i hi).1,(p3 i hi).2⟩⟩
theorem fit_same {n:Nat} {aft:Nat->List Int->Option (List Int)} {wy:Nat->List Int} (h0:∀ i,∀ k ∈ wy i,0<=k) (hn:0 < n) :
 ((fitL aft wy n 0 (goP (List.replicate n none) [] false 0 [])).2.2=true->rnds n aft wy (n+1) ((List.replicate n none).set 0 (some []))=none) /\
 ((fitL aft wy n 0 (goP (List.replicate n none) [] false 0 [])).2.2=false->rnds n aft wy (n+1) ((List.replicate n none).set 0 (some []))=some (fitL aft wy n 0 (goP (List.replicate n none) [] false 0 [])).1):=by
 have e0:goP (List.replicate n none) [] false 0 []=((List.replicate n none).set 0 (some []),[0],false):=by
  unfold goP;rw [if_neg (by simp;omega)]
  have:(List.replicate n (none:Option (List Int))).getD (0:Int).toNat none=none:=by
   rw [List.getD_eq_getElem?_getD,List.getElem?_replicate];split <;> rfl
  rw [this];rfl
 rw [e0]
 have hz:(List.replicate n (none:Option (List Int)))[0]?=some none:=by rw [List.getElem?_replicate,if_pos hn]
 have hl:((List.replicate n (none:Option (List Int))).set 0 (some [])).length=n:=by simp
 have hc0:cnt (List.replicate n none)=0:=by unfold cnt;rw [List.countP_replicate];rfl
 have hone:∀ (i:Nat) s,((List.replicate n (none:Option (List Int))).set 0 (some []))[i]?=some (some s)->i=0/\s=[]:=by
  intro i s h
  rw [List.getElem?_set] at h
  split at h
  ·subst_vars
   split at h
   ·simp only [Option.some.injEq] at h;exact ⟨rfl,h.symm⟩
   ·cases h
  ·rw [List.getElem?_replicate] at h;split at h <;> simp at h
 have hz':((List.replicate n (none:Option (List Int))).set 0 (some []))[0]?=some (some []):=by rw [List.getElem?_set];simp [hn]
 have hfi:FI n aft wy ((List.replicate n none).set 0 (some [])) [0] 0:=by
  refine ⟨hl,hz',fun i s h=>?_,⟨?_,fun i s h=>?_,fun j hj=>?_⟩,fun j x hj=>by omega⟩
  ·obtain ⟨rfl,rfl⟩:=hone i s h;exact .zero
  ·rw [cnt_set [] hz,hc0];rfl
  ·obtain ⟨rfl,rfl⟩:=hone i s h;simp
  ·simp at hj;subst hj;exact ⟨Int.le_refl _,[],hz'⟩
 obtain ⟨a,b⟩:=fitL_ok h0 n 0 _ _ (by omega) hfi
 obtain ⟨c,d⟩:=doc_fit (n:=n) (aft:=aft) (wy:=wy) h0 hn
 refine ⟨fun h=>?_,fun h=>?_⟩
 ·rcases hr:rnds n aft wy (n+1) ((List.replicate n none).set 0 (some [])) with _ | sp
  ·rfl
  ·exact ((a h).no (c sp hr).1).elim
 ·obtain ⟨s1,s2⟩:=b h
  rcases hr:rnds n aft wy (n+1) ((List.replicate n none).set 0 (some [])) with _ | sp
  ·exact ((d hr).no s1).elim
  ·obtain ⟨t1,t2⟩:=c sp hr
   rw [t1.one t2 s1 s2]
theorem passP_gos (ls:List (List Int)) (fs:List Fn) (f:Fn) (k:Nat) (op A B:Int) (s:List Int) (sp:Spots) (q:List Int) :
 passP ls fs f k (op,A,B) s sp q false=match afterP ls fs f op A B s with
  | none=>(sp,q,true)
  | some t=>gos t (sp,q,false) (waysP op A k):=by
 unfold passP afterP
 simp only
 generalize ahead ls fs f op A B=N
 generalize hG:behind ls fs f op A B=G
 by_cases h1:s.length < N.length
 ·rw [if_pos (.inl h1),if_pos (.inl h1)]
 by_cases h2:(s.drop (s.length - N.length) == N)=false
 ·rw [if_pos (.inr h2)]
  by_cases h3:op=16/\N.length < s.length
  ·rw [if_pos (.inr h3)]
  ·rw [if_neg (by omega),if_pos h2]
 rw [if_neg (fun e=>e.elim h1 h2)]
 by_cases h16:op=16
 ·subst h16
  rw [if_pos rfl]
  by_cases h3:N.length < s.length
  ·rw [if_pos h3,if_pos (.inr ⟨rfl,h3⟩)]
  ·have hr:s.length - N.length=0:=by omega
   have hG0:G=[]:=by rw [<-hG];simp [behind]
   rw [if_neg h3,if_neg (by omega),if_neg h2,hr,hG0,if_neg (by simp)]
   simp [gos,waysP]
 ·have hno:¬ (s.length < N.length \/ op=16/\N.length < s.length):=by omega
  rw [if_neg h16,if_neg hno,if_neg h2]
  by_cases h8:8 < (s.take (s.length - N.length)++G).length
  ·rw [if_pos h8,if_pos h8]
  ·rw [if_neg h8,if_neg h8]
   generalize s.take (s.length - N.length)++G=L
   simp only
   by_cases h13:op=13
   ·subst h13;simp [gos,waysP]
   ·by_cases h14:op=14
    ·subst h14;simp [gos,waysP]
    ·simp [gos,waysP,h13,h14,h16]
def aftC (ls:List (List Int)) (fs:List Fn) (f:Fn) (i:Nat) (s:List Int):Option (List Int):=afterP ls fs f (f.code.getD i (0,0,0)).1 (f.code.getD i (0,0,0)).2.1 (f.code.getD i (0,0,0)).2.2 s
def wayC (f:Fn) (i:Nat):List Int:=waysP (f.code.getD i (0,0,0)).1 (f.code.getD i (0,0,0)).2.1 i
theorem passA_passP (ls:List (List Int)) (fs:List Fn) (f:Fn) (i:Nat) (s:List Int) (sp:Spots) (q:List Int) (h:sp.getD i none=some s) :
 passA (aftC ls fs f) (wayC f) i (sp,q,false)=passP ls fs f i (f.code.getD i (0,0,0)) s sp q false:=by
 unfold passA
 simp only [h]
 rw [show f.code.getD i (0,0,0)=((f.code.getD i (0,0,0)).1,(f.code.getD i (0,0,0)).2.1,(f.code.getD i (0,0,0)).2.2) from rfl,passP_gos]
 rfl
end Go.Proofs.Ytnfnbcbadakofab
namespace Go.Proofs.Ytnfnbcbadakofab
open Go.RowKit
structure SS (w0 w:World) (b0 sb gh go ch co:Nat) (xs:List (Option (List Int) × Value)):Prop where
 box:Blk w sb #[.slice gh xs.length ch,.slice go xs.length co] 111
 has:w.ownsRow w0.heap.size 4 1 (.slice gh xs.length ch) xs.length (xs.map fun x=>.bool x.1.isSome)
 of:w.ownsRow w0.heap.size 24 1 (.slice go xs.length co) xs.length (xs.map (·.2))
 stk:∀ x,x ∈ xs->∀ l,x.1=some l->IntsV w b0 x.2 l
 ch:Chg () w0 w
 sb:w0.heap.size<=sb
theorem SS.new {w0 w w':World} {b0 sb gh go ch co:Nat} {xs:List (Option (List Int) × Value)} (h:SS w0 w b0 sb gh go ch co xs) (k:Chg () w w'):SS w0 w' b0 sb gh go ch co xs:=
 ⟨h.box.chg k (fun e=>e),own_chg h.has k (fun _ _ e=>e),own_chg h.of k (fun _ _ e=>e),fun x m l hl=>own_chg (h.stk x m l hl) k (fun _ _ e=>e),h.ch.trans k,h.sb⟩
theorem SS.mark {w0 w:World} {b0 sb gh go ch co:Nat} {xs:List (Option (List Int) × Value)} (h:SS w0 w b0 sb gh go ch co xs) (k:Nat) (hk:k < xs.length) (u:Value) (l:List Int) (hu:IntsV w b0 u l) :
 SS w0 ((w.drew.setCell ⟨gh,k,none⟩ (.bool true)).drew.setCell ⟨go,k,none⟩ u) b0 sb gh go ch co (xs.set k (some l,u)) /\
 (∀ u' l',IntsV w b0 u' l'->IntsV ((w.drew.setCell ⟨gh,k,none⟩ (.bool true)).drew.setCell ⟨go,k,none⟩ u) b0 u' l') /\
 (∀ b cs,Blk w b cs 44->Blk ((w.drew.setCell ⟨gh,k,none⟩ (.bool true)).drew.setCell ⟨go,k,none⟩ u) b cs 44):=by
 obtain ⟨c1,hg⟩:=own_frozen h.has
 obtain ⟨c2,ho⟩:=own_frozen h.of
 have hg':=hg.drew
 have ho':Blk (w.drew.setCell ⟨gh,k,none⟩ (.bool true)).drew go c2 24:=(ho.drew.setOther _ _ (ho.ne hg (by decide))).drew
 have keep:∀ u' l',IntsV w b0 u' l'->IntsV ((w.drew.setCell ⟨gh,k,none⟩ (.bool true)).drew.setCell ⟨go,k,none⟩ u) b0 u' l':=fun u' l' h'=>by
  have a1:IntsV (w.drew.setCell ⟨gh,k,none⟩ (.bool true)) b0 u' l':=IntsV.set (own_drew h') hg' (by decide) k (.bool true)
  exact IntsV.set (own_drew a1) ho' (by decide) k u
 have kb:∀ b cs e,Blk w b cs e->e ≠ 4->e ≠ 24->Blk ((w.drew.setCell ⟨gh,k,none⟩ (.bool true)).drew.setCell ⟨go,k,none⟩ u) b cs e:=fun b cs e hb h4 h47 =>
  ((hb.drew.setOther _ _ (hb.ne hg h4)).drew).setOther _ _ (hb.ne ho h47)
 have n1:w0.heap.size<=gh:=(h.has.lt gh rfl).1
 have n2:w0.heap.size<=go:=(h.of.lt go rfl).1
 refine ⟨⟨by rw [List.length_set];exact kb _ _ _ h.box (by decide) (by decide),?_,?_,fun x m l' hl'=>?_,?_,h.sb⟩,keep,fun b cs hb=>kb b cs 44 hb (by decide) (by decide)⟩
 ·have s1:=own_setIn (own_drew h.has) k (by omega) (.bool true)
  have s2:=own_set (own_drew s1) ⟨go,k,none⟩ u (own_ne (own_drew s1) ho' (by decide))
  rw [List.length_set]
  have e:(xs.map fun x=>Value.bool x.1.isSome).set k (.bool true)=(xs.set k (some l,u)).map fun x=>Value.bool x.1.isSome:=by rw [List.map_set];rfl
  rw [<-e]
  exact s2
 ·have s1:=own_set (own_drew h.of) ⟨gh,k,none⟩ (.bool true) (own_ne (own_drew h.of) hg' (by decide))
  have s2:=own_setIn (own_drew s1) k (by omega) u
  rw [List.length_set]
  have e:(xs.map fun x=>x.2).set k u=(xs.set k (some l,u)).map fun x=>x.2:=by rw [List.map_set]
  rw [<-e]
  exact s2
 ·rcases List.mem_or_eq_of_mem_set m with m | rfl
  ·exact keep _ _ (h.stk x m l' hl')
  ·simp only [Option.some.injEq] at hl'
   subst hl'
   exact keep _ _ hu
 ·exact ((h.ch.drew.setCell _ _ (.inr n1)).drew).setCell _ _ (.inr n2)
end Go.Proofs.Ytnfnbcbadakofab
