import Derived.Test.YtnfnbcbadakofabChk3
import Derived.Test.YtnfnbcbadakofabSame
import Derived.Test.YtnfnbcbadakofabRfun
namespace Go.Proofs.Ytnfnbcbadakofab
open Go.RowKit
set_option maxHeartbeats 400000
set_option maxRecDepth 100000
def mkP (s:ByteArray) (q:Int):Nat->Int
 | 0=>s.size
 | k+1=>(mkP s q k * q+(bl s).getD k 0) % 65521
theorem mk_byte (s:ByteArray) (k:Nat) (h:k < s.size):(bl s).getD k 0=(s[k].toNat:Int):=by
 have hk:k < (bl s).length:=by rw [bl_len];exact h
 rw [List.getD_eq_getElem?_getD,List.getElem?_eq_getElem hk]
 simp [bl];rfl
theorem mk_rng (s:ByteArray) (k:Nat):0<=(bl s).getD k 0/\(bl s).getD k 0<=255:=by
 rcases Nat.lt_or_ge k s.size with h | h
 ·rw [mk_byte s k h];have:=s[k].toNat_lt;omega
 ·rw [List.getD_eq_getElem?_getD,List.getElem?_eq_none (by rw [bl_len];exact h)];simp
theorem mkP_rng (s:ByteArray) (q:Int) (hs:s.size<=800) (_hq:0<=q) (k:Nat):0<=mkP s q k/\mkP s q k<=65520:=by
 cases k with
 | zero=>unfold mkP;omega
 | succ k=>unfold mkP;omega
theorem markOf_any (s:ByteArray) (q:Int) (w:World) (hs:s.size<=800) (hq:0<=q) (hq2:q<=300) :
 Calls Try.prog 52 #[.string s,q] w fun e w'=>e=.returned (.int .i64 (mkP s q s.size))/\w'=w:=by
 go_enter Try.func52,Try.ntmps52
 go_wp2
 go_loopw [5,6] (fun m i wr=>∃ k:Nat,k<=s.size/\i=.int .i64 k/\m=.int .i64 (mkP s q k)/\wr=w) (fun _ i _=>s.size - (intOf i).toNat)
 case atStart=>exact ⟨0,Nat.zero_le _,rfl,rfl,rfl⟩
 case round =>
  obtain ⟨k,hk,rfl,rfl,rfl⟩:=hrel
  by_cases hlt:k < s.size
  ·have hr:=mkP_rng s q hs hq k
   have hb:=mk_rng s k
   have HN:Hid (mkP s q (k+1)=(mkP s q k * q+(bl s).getD k 0) % 65521):=rfl
   rw [mk_byte s k hlt] at hb HN
   have hm:0<=mkP s q k * q:=Int.mul_nonneg hr.1 hq
   have hm2:mkP s q k * q<=65520 * 300:=Int.mul_le_mul hr.2 hq2 hq (by omega)
   generalize mkP s q k=m at *
   go_wp2
   exact ⟨⟨k+1,by omega,rfl,by rw [HN.out],trivial⟩,by simp [intOf];omega⟩
  ·have e1:k=s.size:=by omega
   subst e1
   go_wp2
   go_ret
   exact ⟨rfl,rfl⟩
def mksP (s:ByteArray):List Int:=[mkP s 257 s.size,mkP s 263 s.size,mkP s 269 s.size]
theorem marksOf_any (s:ByteArray) (w:World) (hs:s.size<=800) :
 Calls Try.prog 34 #[.string s] w fun e w'=>∃ v,e=.returned v/\IntsV w' w.heap.size v (mksP s)/\Chg () w w':=by
 go_enter Try.func34,Try.ntmps34
 go_wp2_with fail
 refine (markOf_any s 257 _ hs (by decide) (by decide)).mono ?_
 rintro e w1 ⟨rfl,rfl⟩
 go_wp2_with fail
 refine (markOf_any s 263 _ hs (by decide) (by decide)).mono ?_
 rintro e w1 ⟨rfl,rfl⟩
 go_wp2_with fail
 refine (markOf_any s 269 _ hs (by decide) (by decide)).mono ?_
 rintro e w1 ⟨rfl,rfl⟩
 go_wp2
 go_ret
 exact ⟨_,rfl,IntsV.lit (mksP s) 3 rfl rfl (Nat.le_refl _) (by unfold maxLen;omega),(Chg.refl _ _).alloc _⟩
structure Fr where
 fn:Int
 pc:Int
 locals:List Int
 stack:List Int
def nums (f:Fr):List Int:=f.pc::(f.locals++f.stack)
theorem IntsV.two {w:World} {base:Nat} {v:Value} {l:List Int} (h:IntsV w base v l):(v=.slice none 0 0/\l=[]) \/ ∃ g c,v=.slice (some ⟨g,0,none⟩) l.length c:=by
 rcases h.2 with ⟨h1,h2⟩ | ⟨g,cap,cur,rfl,_⟩
 ·exact .inl ⟨h1,List.eq_nil_of_length_eq_zero h2⟩
 ·exact .inr ⟨_,_,rfl⟩
end Go.Proofs.Ytnfnbcbadakofab
namespace Go.Proofs.Ytnfnbcbadakofab
open Go.RowKit
theorem wp_app {ops:Array Oper} {rest:List Oper} {o:Oper} {a:Act} {Q:Exit->Act->World->Prop} {w:World} (hgd:o.guard=none) (s x:Operand)
 (ho:o.op=.call { callee:=.builtin .append,args:=#[s,x],argTypes:=#[24,24] }) (base:Nat) (v u:Value) (l l':List Int) (hs:a.eval s=v) (hx:a.eval x=u) (hown:IntsV w base v l) (hu:RdI w u l')
 (hlen:l.length+l'.length<=10000000) (hbase:base<=w.heap.size)
 (h:∀ x n c w',n=l.length+l'.length->IntsV w' base (.slice x n c) (l++l')->Chg (fun j=>some j=v.ownBlock) w w'->wpList Try.prog ops Q rest (a.put o.dst (.slice x n c)) w'):wpList Try.prog ops Q (o::rest) a w:=by
 obtain ⟨i,hi1,hi2,hi3,hi4⟩:=info3
 rcases hu with ⟨rfl,rfl⟩ | ⟨g,off,c,rfl,hle,hcap,hc⟩
 ·refine wpList_append_own_none hgd s x 24 ho base 3 i 1 Try.underlying24 hi1 v _ _ hs hown hx ?_
  obtain ⟨b,c,hv⟩:=hown.slice
  have:=h b l.length c w (by simp) (by rw [List.append_nil];rw [hv] at hown;exact hown) (Chg.refl _ w)
  rw [hv];exact this
 ·refine wpList_append_own _ hgd s x 24 ho base 3 i (.int .i64 0) 1 8 Try.underlying24 hi1 hi2 hi3 hi4 rfl (by decide) v _ _ hs hown ⟨g,off,none⟩ l'.length c (ints l') hx (by simp [ints]) (RdI.news hc) (fun u hu=>by simp only [ints,List.mem_map] at hu;obtain ⟨y,_,rfl⟩:=hu;rfl) (by unfold maxLen;omega) (by omega) hbase ?_
  intro v' w' hown' hgrow _
  have hI:IntsV w' base v' (l++l'):=by unfold IntsV;simpa [ints] using hown'
  obtain ⟨b,c',hv⟩:=hI.slice
  rw [hv] at hI ⊢
  exact h b _ c' w' (by simp) hI (chg_of_grown hgrow |>.mono (fun j _ e=>e))
end Go.Proofs.Ytnfnbcbadakofab
namespace Go.Proofs.Ytnfnbcbadakofab
open Go.RowKit
set_option maxHeartbeats 1000000 in
set_option maxRecDepth 100000 in
theorem nums_any (f:Fr) (lv kv:Value) (w:World) (b1:Nat) (hl:IntsV w b1 lv f.locals) (hk:IntsV w b1 kv f.stack) (hll:f.locals.length<=10000) (hkl:f.stack.length<=10000) :
 Calls Try.prog 35 #[.agg #[f.fn,f.pc,lv,kv]] w fun e w'=>∃ v,e=.returned v/\IntsV w' w.heap.size v (nums f)/\Chg () w w':=by
 obtain ⟨la,lc,rfl⟩:=hl.slice
 obtain ⟨ka,kc,rfl⟩:=hk.slice
 have k1:Chg () w ((w.alloc (Obj.cells #[f.fn,f.pc,.slice la f.locals.length lc,.slice ka f.stack.length kc] 63)).alloc (Obj.cells #[f.pc] 3)):=((Chg.refl _ w).alloc _).alloc _
 have bx:Blk ((w.alloc (Obj.cells #[f.fn,f.pc,.slice la f.locals.length lc,.slice ka f.stack.length kc] 63)).alloc (Obj.cells #[f.pc] 3)) w.heap.size #[f.fn,f.pc,.slice la f.locals.length lc,.slice ka f.stack.length kc] 63:=(Blk.new w _ 63).alloc _
 have hI:IntsV ((w.alloc (Obj.cells #[f.fn,f.pc,.slice la f.locals.length lc,.slice ka f.stack.length kc] 63)).alloc (Obj.cells #[f.pc] 3)) w.heap.size (.slice (some ⟨w.heap.size+1,0,none⟩) 1 1) [f.pc]:=IntsV.lit [f.pc] 1 rfl (by simp) (by omega) (by unfold maxLen;omega)
 have hsz:=k1.size
 have HL:Hid _:=hl.chg k1 (fun _ _ _ e=>e)
 have HK:Hid _:=hk.chg k1 (fun _ _ _ e=>e)
 have hlt:=fun g hg=>(hk.lt g hg).2
 have HLT:Hid _:=hlt
 clear hlt hl hk
 go_enter Try.func35,Try.ntmps35
 go_wp2_with (at_builtin;refine wp_app rfl _ _ rfl w.heap.size (.slice (some ⟨w.heap.size+1,0,none⟩) 1 1) (.slice la f.locals.length lc) [f.pc] f.locals rfl rfl ?h1 ?h2 ?h3 ?h4 ?_)
 case h1=>exact hI
 case h2=>exact IntsV.rdI (base:=b1) HL.out
 case h3=>simp;omega
 case h4=>exact hsz
 generalize ((w.alloc (Obj.cells #[f.fn,f.pc,.slice la f.locals.length lc,.slice ka f.stack.length kc] 63)).alloc (Obj.cells #[f.pc] 3))=W at *
 intro x n2 c w2 hn hI2 hch
 clear hn
 have bx2:=bx.chg hch (fun e=>by simp [Value.ownBlock] at e)
 have k2:Chg () w w2:=k1.trans' hch (fun i hi e=>by simp [Value.ownBlock] at e;omega)
 have HK2:Hid (RdI w2 (.slice ka f.stack.length kc) f.stack):=IntsV.rdI (base:=b1) (own_chg HK.out hch (fun g hg e=>by have:=HLT.out g hg;simp [Value.ownBlock] at e;omega))
 have c3:w2.cell? ⟨w.heap.size,3,none⟩=some (.slice ka f.stack.length kc):=bx2.cell 3
 have hsz2:=k2.size
 clear bx k1 HL HK hch hI
 go_wp2_with (at_builtin;refine wp_app rfl _ _ rfl w.heap.size (.slice x n2 c) (.slice ka f.stack.length kc) ([f.pc]++f.locals) f.stack rfl rfl ?h1 ?h2 ?h3 ?h4 ?_)
 case h1=>exact hI2
 case h2=>exact HK2.out
 case h3=>simp;omega
 case h4=>exact hsz2
 intro x3 n3 c3' w3 hn hI3 hch3
 clear hn
 have k3:Chg () w w3:=k2.trans' hch3 (fun i hi e=>by have:=(hI2.lt i e.symm).1;omega)
 clear hch3 c3
 go_wp2
 go_ret
 exact ⟨_,rfl,by simpa [nums] using hI3,k3⟩
end Go.Proofs.Ytnfnbcbadakofab
namespace Go.Proofs.Ytnfnbcbadakofab
open Go.RowKit
set_option maxHeartbeats 2000000
set_option maxRecDepth 100000
def frC (xs:List (Fr × Value × Value)):List Value:=xs.flatMap fun x=>[.int .i64 x.1.fn,.int .i64 x.1.pc,x.2.1,x.2.2]
theorem frC_len (xs:List (Fr × Value × Value)):(frC xs).length=xs.length * 4:=by
 induction xs with
 | nil=>rfl
 | cons x c ih=>simp [frC] at ih ⊢;omega
theorem frC_get (xs:List (Fr × Value × Value)) (j:Nat) (hj:j < xs.length):(frC xs)[j * 4]?=some (.int .i64 xs[j].1.fn)/\(frC xs)[j * 4+1]?=some (.int .i64 xs[j].1.pc)/\(frC xs)[j * 4+2]?=some xs[j].2.1/\(frC xs)[j * 4+3]?=some xs[j].2.2:=by
 induction xs generalizing j with
 | nil=>simp at hj
 | cons x c ih =>
  have e:frC (x::c)=.int .i64 x.1.fn::.int .i64 x.1.pc::x.2.1::x.2.2::frC c:=by simp [frC]
  rcases j with _ | j
  ·rw [e];simp
  ·have:=ih j (by simpa using hj)
   rw [e,show (j+1) * 4=j * 4+4 by omega]
   simpa using this
def FramesV (w:World) (base:Nat) (v:Value) (fs:List Fr):Prop:=
 ∃ xs:List (Fr × Value × Value),xs.map (·.1)=fs/\w.ownsRow base 63 4 v xs.length (frC xs)/\∀ x ∈ xs,IntsV w base x.2.1 x.1.locals/\IntsV w base x.2.2 x.1.stack
theorem FramesV.nil (w:World) (base:Nat):FramesV w base (.slice none 0 0) []:=⟨[],rfl,World.ownsRow_nil _ _ _ _,fun x m=>by cases m⟩
theorem FramesV.chg {S:Nat->Prop} {w w':World} {base:Nat} {v:Value} {fs:List Fr} (h:FramesV w base v fs) (k:Chg S w w') (h3:∀ g cs,Blk w g cs 3->¬ S g) (h132:∀ g cs,Blk w g cs 63->¬ S g):FramesV w' base v fs:=by
 obtain ⟨xs,h1,h2,hx⟩:=h
 exact ⟨xs,h1,own_chg h2 k (fun g hg e=>by obtain ⟨cs,hb⟩:=own_blk h2 hg;exact h132 g cs hb e),fun x m=>⟨(hx x m).1.chg k h3,(hx x m).2.chg k h3⟩⟩
theorem FramesV.form {w:World} {base:Nat} {v:Value} {fs:List Fr} (h:FramesV w base v fs) (hl:0 < fs.length) :
 ∃ g cap,v=.slice (some ⟨g,0,none⟩) fs.length cap/\fs.length<=cap/\(∀ j (hj:j < fs.length),∃ lv kv,w.cell? ⟨g,j * 4,none⟩=some (.int .i64 fs[j].fn)/\w.cell? ⟨g,j * 4+1,none⟩=some (.int .i64 fs[j].pc) /\
  w.cell? ⟨g,j * 4+2,none⟩=some lv/\w.cell? ⟨g,j * 4+3,none⟩=some kv/\IntsV w base lv fs[j].locals/\IntsV w base kv fs[j].stack):=by
 obtain ⟨xs,h0,h,hx⟩:=h
 have hc:=fun g=>World.ownsRow.cells (g:=g) h
 subst h0
 simp only [List.length_map] at *
 rcases h.2 with ⟨_,h0⟩ | ⟨g,cap,cur,rfl,hb,hgg,hle,hcap,_⟩
 ·omega
 ·refine ⟨g,cap,rfl,hle,fun j hj=>?_⟩
  have hadd:∀ j,(⟨g,0,none⟩:Addr).add j=⟨g,j,none⟩:=by intro j;unfold Addr.add;split <;> simp_all
  obtain ⟨k1,k2,k3,k4⟩:=frC_get xs j hj
  have a1:=hc g rfl _ _ k1
  have a2:=hc g rfl _ _ k2
  have a3:=hc g rfl _ _ k3
  have a4:=hc g rfl _ _ k4
  rw [hadd] at a1 a2 a3 a4
  have hm:=hx xs[j] (List.getElem_mem hj)
  exact ⟨xs[j].2.1,xs[j].2.2,by simpa using a1,by simpa using a2,a3,a4,by simpa using hm.1,by simpa using hm.2⟩
def layP (ms:List Int) (h d st:Int) (ws:List Int) (below:List Fr) (top:Fr):List Int:=
 if st ≠ 0 then ms++[h,d,st] else ms++[h,d,st]++[(ws.length:Int)]++ws++[(below.length:Int)+1]++below.flatMap nums++nums top
theorem app_new {W0 wi wj w':World} {v:Value} {l:List Int} (h:IntsV wi W0.heap.size v l) (k:Chg () W0 wi) (hj:Chg () wi wj) (hch:Chg (fun j=>some j=v.ownBlock) wj w'):Chg () W0 w':=
 (k.trans hj).trans' hch (fun i hi e=>by have:=(h.lt i e.symm).1;omega)
theorem lit_rd {W:World} (l:List Int) (n:Nat) (hn:l.length=n) (hm:n<=maxLen):RdI (W.alloc (.cells (ints l).toArray 3)) (.slice W.heap.size n n) l:=
 (IntsV.lit (base:=0) l n hn rfl (Nat.zero_le _) hm).rdI
theorem nums_le {f:Fr} (h1:f.locals.length<=10000) (h2:f.stack.length<=10000):(nums f).length<=20001:=by simp [nums];omega
theorem flat_le {fs:List Fr} (h:∀ f ∈ fs,f.locals.length<=10000/\f.stack.length<=10000):(fs.flatMap nums).length<=fs.length * 20001:=by
 induction fs with
 | nil=>simp
 | cons f fs ih =>
  have h1:=nums_le (h f (by simp)).1 (h f (by simp)).2
  have h2:=ih (fun g hg=>h g (by simp [hg]))
  rw [List.flatMap_cons,List.length_append,List.length_cons];omega
theorem flat_snoc {fs:List Fr} (k:Nat) (hk:k < fs.length):(fs.take (k+1)).flatMap nums=(fs.take k).flatMap nums++nums fs[k]:=by
 rw [List.take_succ_eq_append_getElem hk,List.flatMap_append];simp
theorem lay_end (s:ByteArray) (hs:s.size<=800) (ta fa sa ia oa wa ba la ka:Option Addr) (tn tc fn fc sn sc inn ic on oc wc bc lc kc:Nat) (h d used:Int) (st:Int) (hst:(st != 0)=true) (ws:List Int) (below:List Fr) (top:Fr) (w:World) (b1:Nat)
 (hw:IntsV w b1 (.slice wa ws.length wc) ws) (hb:FramesV w b1 (.slice ba below.length bc) below) (hl:IntsV w b1 (.slice la top.locals.length lc) top.locals) (hk:IntsV w b1 (.slice ka top.stack.length kc) top.stack)
 (_hwl:ws.length<=10000) (_hbl:below.length<=100) (_hbs:∀ f ∈ below,f.locals.length<=10000/\f.stack.length<=10000) (_htl:top.locals.length<=10000) (_htk:top.stack.length<=10000) :
 Calls Try.prog 22 #[.agg #[.string s,.slice ta tn tc,.slice fa fn fc,.slice sa sn sc,h,d,st,.slice wa ws.length wc,.slice ba below.length bc,top.fn,top.pc,.slice la top.locals.length lc,.slice ka top.stack.length kc,.slice ia inn ic,used,.slice oa on oc]] w fun e w'=>∃ v,e=.returned v/\IntsV w' w.heap.size v (mksP s++[h,d,st])/\Chg () w w':=by
 have kb:Chg () w (w.alloc (Obj.cells #[.string s,.slice ta tn tc,.slice fa fn fc,.slice sa sn sc,h,d,st,.slice wa ws.length wc,.slice ba below.length bc,top.fn,top.pc,.slice la top.locals.length lc,.slice ka top.stack.length kc,.slice ia inn ic,used,.slice oa on oc] 65)):=(Chg.refl _ w).alloc _
 have bx:Blk (w.alloc (Obj.cells #[.string s,.slice ta tn tc,.slice fa fn fc,.slice sa sn sc,h,d,st,.slice wa ws.length wc,.slice ba below.length bc,top.fn,top.pc,.slice la top.locals.length lc,.slice ka top.stack.length kc,.slice ia inn ic,used,.slice oa on oc] 65)) w.heap.size #[.string s,.slice ta tn tc,.slice fa fn fc,.slice sa sn sc,h,d,st,.slice wa ws.length wc,.slice ba below.length bc,top.fn,top.pc,.slice la top.locals.length lc,.slice ka top.stack.length kc,.slice ia inn ic,used,.slice oa on oc] 65:=Blk.new w _ 65
 have HB:=hb.chg kb (fun _ _ _ e=>e) (fun _ _ _ e=>e)
 have HW:=hw.chg kb (fun _ _ _ e=>e)
 have HL:=hl.chg kb (fun _ _ _ e=>e)
 have HK:=hk.chg kb (fun _ _ _ e=>e)
 clear hw hb hl hk
 have hml:(mksP s).length=3:=rfl
 go_enter Try.func22,Try.ntmps22
 go_wp2_with fail
 generalize (w.alloc (Obj.cells #[.string s,.slice ta tn tc,.slice fa fn fc,.slice sa sn sc,h,d,st,.slice wa ws.length wc,.slice ba below.length bc,top.fn,top.pc,.slice la top.locals.length lc,.slice ka top.stack.length kc,.slice ia inn ic,used,.slice oa on oc] 65))=W0 at *
 refine (marksOf_any s _ hs).mono ?_
 rintro e w1 ⟨v1,rfl,hI1,k1⟩
 obtain ⟨a1,c1,rfl⟩:=hI1.slice
 have x4:w1.cell? ⟨w.heap.size,4,none⟩=some (.int .i64 h):=(bx.chg k1 (fun e=>e)).cell 4
 have x5:w1.cell? ⟨w.heap.size,5,none⟩=some (.int .i64 d):=(bx.chg k1 (fun e=>e)).cell 5
 have x6:w1.cell? ⟨w.heap.size,6,none⟩=some (.int .i64 st):=(bx.chg k1 (fun e=>e)).cell 6
 have hlt:=(bx.chg k1 (fun e=>e)).lt
 have hs1:=k1.size
 have j1:Chg () w1 (w1.alloc (Obj.cells #[h,d,st] 3)):=(Chg.refl _ w1).alloc _
 go_wp2_with (at_builtin;refine wp_app rfl _ _ rfl W0.heap.size (.slice a1 (mksP s).length c1) (.slice w1.heap.size 3 3) (mksP s) [h,d,st] rfl rfl ?h1 ?h2 ?h3 ?h4 ?_)
 case h1=>exact hI1.chg j1 (fun _ _ _ e=>e)
 case h2=>exact lit_rd [h,d,st] 3 rfl (by unfold maxLen;omega)
 case h3=>simp;omega
 case h4=>exact Nat.le_trans hs1 j1.size
 intro a2 n2 c2 w2 hn2 hI2 hch2
 have k2:=app_new hI1 k1 j1 hch2
 clear hI1 k1 j1 hch2 x4 x5 x6 hlt hs1
 have hB2:n2<=6:=by first | omega | (rw [hn2,hml];simp)
 clear hn2
 have x6:w2.cell? ⟨w.heap.size,6,none⟩=some (.int .i64 st):=(bx.chg k2 (fun e=>e)).cell 6
 go_wp2
 go_ret
 exact ⟨_,rfl,own_mono hI2 kb.size,kb.trans k2⟩
theorem lay_run (s:ByteArray) (hs:s.size<=800) (ta fa sa ia oa wa ba la ka:Option Addr) (tn tc fn fc sn sc inn ic on oc wc bc lc kc:Nat) (h d used:Int) (ws:List Int) (below:List Fr) (top:Fr) (w:World) (b1:Nat)
 (hw:IntsV w b1 (.slice wa ws.length wc) ws) (hb:FramesV w b1 (.slice ba below.length bc) below) (hl:IntsV w b1 (.slice la top.locals.length lc) top.locals) (hk:IntsV w b1 (.slice ka top.stack.length kc) top.stack)
 (hwl:ws.length<=10000) (hbl:below.length<=100) (hbs:∀ f ∈ below,f.locals.length<=10000/\f.stack.length<=10000) (htl:top.locals.length<=10000) (htk:top.stack.length<=10000) :
 Calls Try.prog 22 #[.agg #[.string s,.slice ta tn tc,.slice fa fn fc,.slice sa sn sc,h,d,oO,.slice wa ws.length wc,.slice ba below.length bc,top.fn,top.pc,.slice la top.locals.length lc,.slice ka top.stack.length kc,.slice ia inn ic,used,.slice oa on oc]] w fun e w'=>∃ v,e=.returned v/\IntsV w' w.heap.size v (mksP s++[h,d,0]++[(ws.length:Int)]++ws++[(below.length:Int)+1]++below.flatMap nums++nums top)/\Chg () w w':=by
 have kb:Chg () w (w.alloc (Obj.cells #[.string s,.slice ta tn tc,.slice fa fn fc,.slice sa sn sc,h,d,oO,.slice wa ws.length wc,.slice ba below.length bc,top.fn,top.pc,.slice la top.locals.length lc,.slice ka top.stack.length kc,.slice ia inn ic,used,.slice oa on oc] 65)):=(Chg.refl _ w).alloc _
 have bx:Blk (w.alloc (Obj.cells #[.string s,.slice ta tn tc,.slice fa fn fc,.slice sa sn sc,h,d,oO,.slice wa ws.length wc,.slice ba below.length bc,top.fn,top.pc,.slice la top.locals.length lc,.slice ka top.stack.length kc,.slice ia inn ic,used,.slice oa on oc] 65)) w.heap.size #[.string s,.slice ta tn tc,.slice fa fn fc,.slice sa sn sc,h,d,oO,.slice wa ws.length wc,.slice ba below.length bc,top.fn,top.pc,.slice la top.locals.length lc,.slice ka top.stack.length kc,.slice ia inn ic,used,.slice oa on oc] 65:=Blk.new w _ 65
 have HB:=hb.chg kb (fun _ _ _ e=>e) (fun _ _ _ e=>e)
 have HW:=hw.chg kb (fun _ _ _ e=>e)
 have HL:=hl.chg kb (fun _ _ _ e=>e)
 have HK:=hk.chg kb (fun _ _ _ e=>e)
 clear hw hb hl hk
 have hml:(mksP s).length=3:=rfl
 go_enter Try.func22,Try.ntmps22
 go_wp2_with fail
 generalize (w.alloc (Obj.cells #[.string s,.slice ta tn tc,.slice fa fn fc,.slice sa sn sc,h,d,oO,.slice wa ws.length wc,.slice ba below.length bc,top.fn,top.pc,.slice la top.locals.length lc,.slice ka top.stack.length kc,.slice ia inn ic,used,.slice oa on oc] 65))=W0 at *
 refine (marksOf_any s _ hs).mono ?_
 rintro e w1 ⟨v1,rfl,hI1,k1⟩
 obtain ⟨a1,c1,rfl⟩:=hI1.slice
 have x4:w1.cell? ⟨w.heap.size,4,none⟩=some (.int .i64 h):=(bx.chg k1 (fun e=>e)).cell 4
 have x5:w1.cell? ⟨w.heap.size,5,none⟩=some (.int .i64 d):=(bx.chg k1 (fun e=>e)).cell 5
 have x6:w1.cell? ⟨w.heap.size,6,none⟩=some (.int .i64 0):=(bx.chg k1 (fun e=>e)).cell 6
 have hlt:=(bx.chg k1 (fun e=>e)).lt
 have hs1:=k1.size
 have j1:Chg () w1 (w1.alloc (Obj.cells #[h,d,oO] 3)):=(Chg.refl _ w1).alloc _
 go_wp2_with (at_builtin;refine wp_app rfl _ _ rfl W0.heap.size (.slice a1 (mksP s).length c1) (.slice w1.heap.size 3 3) (mksP s) [h,d,0] rfl rfl ?h1 ?h2 ?h3 ?h4 ?_)
 case h1=>exact hI1.chg j1 (fun _ _ _ e=>e)
 case h2=>exact lit_rd [h,d,0] 3 rfl (by unfold maxLen;omega)
 case h3=>simp;omega
 case h4=>exact Nat.le_trans hs1 j1.size
 intro a2 n2 c2 w2 hn2 hI2 hch2
 have k2:=app_new hI1 k1 j1 hch2
 clear hI1 k1 j1 hch2 x4 x5 x6 hlt hs1
 have hB2:n2<=6:=by first | omega | (rw [hn2,hml];simp)
 obtain ⟨L2,hE2⟩:∃ L,mksP s++[h,d,0]=L:=⟨_,rfl⟩
 rw [hE2] at hI2
 have hM2:L2.length=n2:=by
  have hh:=congrArg List.length hE2
  rw [List.length_append] at hh
  first | omega | (simp at hh hn2;omega)
 have HM2:=hid hM2
 clear hM2
 clear hn2
 have E2:=hid hE2
 clear hE2
 have x6:w2.cell? ⟨w.heap.size,6,none⟩=some (.int .i64 0):=(bx.chg k2 (fun e=>e)).cell 6
 have x7:w2.cell? ⟨w.heap.size,7,none⟩=some (.slice wa ws.length wc):=(bx.chg k2 (fun e=>e)).cell 7
 have hlt2:=(bx.chg k2 (fun e=>e)).lt
 have j2:Chg () w2 (w2.alloc (Obj.cells #[((ws.length:Int):Int)] 3)):=(Chg.refl _ w2).alloc _
 have hs2:=k2.size
 go_wp2_with (at_builtin;refine wp_app rfl _ _ rfl W0.heap.size (.slice a2 n2 c2) (.slice w2.heap.size 1 1) L2 [(ws.length:Int)] rfl rfl ?h1 ?h2 ?h3 ?h4 ?_)
 case h1=>exact hI2.chg j2 (fun _ _ _ e=>e)
 case h2=>exact lit_rd [(ws.length:Int)] 1 rfl (by unfold maxLen;omega)
 case h3=>rw [HM2.out];simp;omega
 case h4=>exact Nat.le_trans hs2 j2.size
 intro a3 n3 c3 w3 hn3 hI3 hch
 have k3:=app_new hI2 k2 j2 hch
 clear hI2 k2 j2 hch x6 x7 hlt2 hs2
 obtain ⟨L3,hE3⟩:∃ L,L2++[(ws.length:Int)]=L:=⟨_,rfl⟩
 rw [hE3] at hI3
 have hM3:L3.length=n3:=by
  have hh:=congrArg List.length hE3
  rw [List.length_append] at hh
  first | omega | (simp at hh hn3;omega)
 have HM3:=hid hM3
 clear hM3
 have hB3:n3<=7:=by rw [hn3,HM2.out];first | omega | (simp;omega)
 clear hn3
 have E3:=hid hE3
 clear hE3
 have x7:w3.cell? ⟨w.heap.size,7,none⟩=some (.slice wa ws.length wc):=(bx.chg k3 (fun e=>e)).cell 7
 have hs3:=k3.size
 go_wp2_with (at_builtin;refine wp_app rfl _ _ rfl W0.heap.size (.slice a3 n3 c3) (.slice wa ws.length wc) L3 ws rfl rfl ?h1 ?h2 ?h3 ?h4 ?_)
 case h1=>exact hI3
 case h2=>exact (HW.chg k3 (fun _ _ _ e=>e)).rdI
 case h3=>rw [HM3.out];omega
 case h4=>exact hs3
 intro a4 n4 c4 w4 hn4 hI4 hch
 have k4:=app_new hI3 k3 (Chg.refl _ _) hch
 clear hI3 k3 hch x7 hs3
 obtain ⟨L4,hE4⟩:∃ L,L3++ws=L:=⟨_,rfl⟩
 rw [hE4] at hI4
 have hM4:L4.length=n4:=by
  have hh:=congrArg List.length hE4
  rw [List.length_append] at hh
  first | omega | (simp at hh hn4;omega)
 have HM4:=hid hM4
 clear hM4
 have hB4:n4<=10007:=by rw [hn4,HM3.out];first | omega | (simp;omega)
 clear hn4
 have E4:=hid hE4
 clear hE4
 have x8:w4.cell? ⟨w.heap.size,8,none⟩=some (.slice ba below.length bc):=(bx.chg k4 (fun e=>e)).cell 8
 have hlt4:=(bx.chg k4 (fun e=>e)).lt
 have j4:Chg () w4 (w4.alloc (Obj.cells #[((below.length:Int)+1:Int)] 3)):=(Chg.refl _ w4).alloc _
 have hs4:=k4.size
 go_wp2_with (at_builtin;refine wp_app rfl _ _ rfl W0.heap.size (.slice a4 n4 c4) (.slice w4.heap.size 1 1) L4 [(below.length:Int)+1] rfl rfl ?h1 ?h2 ?h3 ?h4 ?_)
 case h1=>exact hI4.chg j4 (fun _ _ _ e=>e)
 case h2=>exact lit_rd [(below.length:Int)+1] 1 rfl (by unfold maxLen;omega)
 case h3=>rw [HM4.out];simp;omega
 case h4=>exact Nat.le_trans hs4 j4.size
 intro a5 n5 c5 w5 hn5 hI5 hch
 have k5:=app_new hI4 k4 j4 hch
 clear hI4 k4 j4 hch x8 hlt4 hs4
 obtain ⟨L5,hE5⟩:∃ L,L4++[(below.length:Int)+1]=L:=⟨_,rfl⟩
 rw [hE5] at hI5
 have hM5:L5.length=n5:=by
  have hh:=congrArg List.length hE5
  rw [List.length_append] at hh
  first | omega | (simp at hh hn5;omega)
 have HM5:=hid hM5
 clear hM5
 have hB5:n5<=10008:=by rw [hn5,HM4.out];first | omega | (simp;omega)
 clear hn5
 have E5:=hid hE5
 clear hE5
 have x8:w5.cell? ⟨w.heap.size,8,none⟩=some (.slice ba below.length bc):=(bx.chg k5 (fun e=>e)).cell 8
 go_wp2_with fail
 clear x8
 go_loopw [3,42] (fun v iv wr=>∃ (k n:Nat) (a:Option Addr) (c:Nat),k<=below.length/\iv=.int .i64 (k:Int)/\v=.slice a n c/\IntsV wr W0.heap.size (.slice a n c) (L5++(below.take k).flatMap nums)/\Chg () W0 wr) (fun _ iv _=>below.length - (intOf iv).toNat)
 case atStart=>exact ⟨0,n5,a5,c5,Nat.zero_le _,rfl,rfl,by simpa using hI5,k5⟩
 case round =>
  clear hI5 k5
  obtain ⟨k,n,a,c,hk,rfl,rfl,hI,kk⟩:=hrel
  have hfl:((below.take k).flatMap nums).length<=k * 20001:=by
   have:=flat_le (fs:=below.take k) (fun f hf=>hbs f (List.mem_of_mem_take hf))
   rw [List.length_take] at this
   have h2:min k below.length=k:=by omega
   rw [h2] at this;exact this
  have hLl:(L5++(below.take k).flatMap nums).length<=10008+k * 20001:=by rw [List.length_append,HM5.out];omega
  have HLL:=hid hLl
  clear hfl hLl
  by_cases hlt:k < below.length
  ·have hlt':(k:Int) < (below.length:Int):=by omega
   obtain ⟨g,cap,hbe,_,hcells⟩:=(HB.chg kk (fun _ _ _ e=>e) (fun _ _ _ e=>e)).form (by omega)
   simp only [Value.slice.injEq] at hbe
   obtain ⟨rfl,_,rfl⟩:=hbe
   obtain ⟨flv,fkv,h0,h1,h2,h3,hfl,hfk⟩:=hcells k hlt
   have hfb:=hbs _ (List.getElem_mem hlt)
   have HSN:Hid ((below.take (k+1)).flatMap nums=(below.take k).flatMap nums++nums below[k]):=flat_snoc k hlt
   clear hcells
   obtain ⟨f,hf⟩:∃ f,below[k]=f:=⟨_,rfl⟩
   rw [hf] at h0 h1 hfl hfk hfb
   have HF:=hid hf
   clear hf
   obtain ⟨fla,flc,rfl⟩:=hfl.slice
   obtain ⟨fka,fkc,rfl⟩:=hfk.slice
   have hgl:=World.block_lt_of_cell? wr _ h0
   have jf:Chg () wr (wr.alloc (Obj.cells #[f.fn,f.pc,.slice fla f.locals.length flc,.slice fka f.stack.length fkc] 63)):=(Chg.refl _ wr).alloc _
   go_wp2_with fail
   refine (nums_any f _ _ _ b1 (hfl.chg jf (fun _ _ _ e=>e)) (hfk.chg jf (fun _ _ _ e=>e)) hfb.1 hfb.2).mono ?_
   rintro e w6 ⟨nv,rfl,hN,kn⟩
   obtain ⟨na,nc,rfl⟩:=hN.slice
   have j6:=jf.trans kn
   have hs6:=(kk.trans j6).size
   have HNL:Hid ((nums f).length<=20001):=nums_le hfb.1 hfb.2
   clear h0 h1 h2 h3 hfl hfk hgl jf kn
   go_wp2_with (at_builtin;refine wp_app rfl _ _ rfl W0.heap.size (.slice a n c) (.slice na (nums f).length nc) (L5++(below.take k).flatMap nums) (nums f) rfl rfl ?h1 ?h2 ?h3 ?h4 ?_)
   case h1=>exact hI.chg j6 (fun _ _ _ e=>e)
   case h2=>exact hN.rdI
   case h3=>have h1:=HLL.out;have h2:=HNL.out;omega
   case h4=>exact hs6
   intro a7 n7 c7 w7 hn7 hI7 hch
   have k7:=app_new hI kk j6 hch
   clear hn7 hch
   go_wp2
   refine ⟨⟨k+1,n7,a7,c7,by omega,rfl,rfl,?_,k7⟩,by simp [intOf];omega⟩
   have hsn:=HSN.out
   rw [HF.out] at hsn
   rw [hsn];first | exact hI7 | (rw [<-List.append_assoc];exact hI7)
  ·have hkk:k=below.length:=by omega
   have hlt':(below.length:Int)<=(k:Int):=by omega
   subst hkk
   rw [List.take_length] at hI HLL
   have x9:wr.cell? ⟨w.heap.size,9,none⟩=some (.int .i64 top.fn):=(bx.chg kk (fun e=>e)).cell 9
   have x10:wr.cell? ⟨w.heap.size,10,none⟩=some (.int .i64 top.pc):=(bx.chg kk (fun e=>e)).cell 10
   have x11:wr.cell? ⟨w.heap.size,11,none⟩=some (.slice la top.locals.length lc):=(bx.chg kk (fun e=>e)).cell 11
   have x12:wr.cell? ⟨w.heap.size,12,none⟩=some (.slice ka top.stack.length kc):=(bx.chg kk (fun e=>e)).cell 12
   have HNL:Hid ((nums top).length<=20001):=nums_le htl htk
   go_wp2_with fail
   refine (nums_any top _ _ _ b1 (HL.chg kk (fun _ _ _ e=>e)) (HK.chg kk (fun _ _ _ e=>e)) htl htk).mono ?_
   rintro e w6 ⟨nv,rfl,hN,kn⟩
   obtain ⟨na,nc,rfl⟩:=hN.slice
   have hs6:=(kk.trans kn).size
   clear x9 x10 x11 x12
   go_wp2_with (at_builtin;refine wp_app rfl _ _ rfl W0.heap.size (.slice a n c) (.slice na (nums top).length nc) (L5++below.flatMap nums) (nums top) rfl rfl ?h1 ?h2 ?h3 ?h4 ?_)
   case h1=>exact hI.chg kn (fun _ _ _ e=>e)
   case h2=>exact hN.rdI
   case h3=>have h1:=HLL.out;have h2:=HNL.out;omega
   case h4=>exact hs6
   intro a7 n7 c7 w7 hn7 hI7 hch
   have k7:=app_new hI kk kn hch
   clear hn7 hch
   go_wp2
   go_ret
   refine ⟨_,rfl,?_,kb.trans k7⟩
   rw [E2.out,E3.out,E4.out,E5.out]
   first | exact own_mono hI7 kb.size | (rw [List.append_assoc];exact own_mono hI7 kb.size)
theorem layDown_any (s:ByteArray) (hs:s.size<=800) (ta fa sa ia oa wa ba la ka:Option Addr) (tn tc fn fc sn sc inn ic on oc wc bc lc kc:Nat) (h d st used:Int) (ws:List Int) (below:List Fr) (top:Fr) (w:World) (b1:Nat)
 (hw:IntsV w b1 (.slice wa ws.length wc) ws) (hb:FramesV w b1 (.slice ba below.length bc) below) (hl:IntsV w b1 (.slice la top.locals.length lc) top.locals) (hk:IntsV w b1 (.slice ka top.stack.length kc) top.stack)
 (hwl:ws.length<=10000) (hbl:below.length<=100) (hbs:∀ f ∈ below,f.locals.length<=10000/\f.stack.length<=10000) (htl:top.locals.length<=10000) (htk:top.stack.length<=10000) :
 Calls Try.prog 22 #[.agg #[.string s,.slice ta tn tc,.slice fa fn fc,.slice sa sn sc,h,d,st,.slice wa ws.length wc,.slice ba below.length bc,top.fn,top.pc,.slice la top.locals.length lc,.slice ka top.stack.length kc,.slice ia inn ic,used,.slice oa on oc]] w fun e w'=>∃ v,e=.returned v/\IntsV w' w.heap.size v (layP (mksP s) h d st ws below top)/\Chg () w w':=by
 unfold layP
 by_cases hst:st=0
 ·subst hst
  rw [if_neg (by simp)]
  exact lay_run s hs ta fa sa ia oa wa ba la ka tn tc fn fc sn sc inn ic on oc wc bc lc kc h d used ws below top w b1 hw hb hl hk hwl hbl hbs htl htk
 ·rw [if_pos hst]
  exact lay_end s hs ta fa sa ia oa wa ba la ka tn tc fn fc sn sc inn ic on oc wc bc lc kc h d used st (by simpa using hst) ws below top w b1 hw hb hl hk hwl hbl hbs htl htk
end Go.Proofs.Ytnfnbcbadakofab
namespace Go.Proofs.Ytnfnbcbadakofab
open Go.RowKit
theorem Chg.cellF {w w':World} (k:Chg () w w') {a:Addr} {v:Value} (h:w.cell? a=some v):w'.cell? a=some v:=
 (World.cell?_of_block (k.block a.block (World.block_lt_of_cell? w a h) (fun e=>e))).trans h
end Go.Proofs.Ytnfnbcbadakofab
namespace Go.Proofs.Ytnfnbcbadakofab
open Go.RowKit
def RdA (w:World) (v:Value) (l:List Int):Prop:=
 (v=.slice none 0 0/\l=[]) \/ ∃ (a:Addr) (c:Nat),v=.slice (some a) l.length c/\l.length<=c/\c<=maxLen/\∀ j,j < l.length->w.cell? (a.add j)=some (.int .i64 (l.getD j 0))
theorem RdA.slice {w:World} {v:Value} {l:List Int} (h:RdA w v l):∃ a c,v=.slice a l.length c:=by
 rcases h with ⟨rfl,rfl⟩ | ⟨a,c,rfl,_⟩
 ·exact ⟨none,0,rfl⟩
 ·exact ⟨_,_,rfl⟩
theorem RdA.form {w:World} {v:Value} {l:List Int} (h:RdA w v l) (h0:0 < l.length):∃ (a:Addr) (c:Nat),v=.slice (some a) l.length c/\l.length<=c/\c<=maxLen/\∀ j,j < l.length->w.cell? (a.add j)=some (.int .i64 (l.getD j 0)):=by
 rcases h with ⟨rfl,rfl⟩ | h
 ·simp at h0
 ·exact h
end Go.Proofs.Ytnfnbcbadakofab
namespace Go.Proofs.Ytnfnbcbadakofab
open Go.RowKit
theorem RdA.new {w w':World} {v:Value} {l:List Int} (h:RdA w v l) (k:Chg () w w'):RdA w' v l:=by
 rcases h with h | ⟨a,c,h1,h2,h3,h4⟩
 ·exact .inl h
 ·exact .inr ⟨a,c,h1,h2,h3,fun j hj=>k.cellF (h4 j hj)⟩
end Go.Proofs.Ytnfnbcbadakofab
