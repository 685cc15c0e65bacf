import Derived.Test.YtnfnbcbadakofaaChk3
import Derived.Test.YtnfnbcbadakofaaChecksw
namespace Go.Proofs.Ytnfnbcbadakofaa
open Go.RowKit
def mkP (s:ByteArray) (q:Int):Nat->Int
 | 0=>s.size
 | k+1=>(mkP s q k * q+(bl s).getD k 0) % 65521
theorem mk_byte (s:ByteArray) (k:Nat) (h:k < s.size):(bl s).getD k 0=(s[k].toNat:Int):=by
 have hk:k < (bl s).length:=by rw [bl_len];exact h
 rw [List.getD_eq_getElem?_getD,List.getElem?_eq_getElem hk]
 simp [bl];rfl
theorem mk_rng (s:ByteArray) (k:Nat):0<=(bl s).getD k 0/\(bl s).getD k 0<=255:=by
 rcases Nat.lt_or_ge k s.size with h | h
 ·rw [mk_byte s k h];have:=s[k].toNat_lt;omega
 ·rw [List.getD_eq_getElem?_getD,List.getElem?_eq_none (by rw [bl_len];exact h)];simp
theorem mkP_rng (s:ByteArray) (q:Int) (hs:s.size<=800) (_hq:0<=q) (k:Nat):0<=mkP s q k/\mkP s q k<=65520:=by
 cases k with
 | zero=>unfold mkP;omega
 | succ k=>unfold mkP;omega
set_option maxHeartbeats 400000 in
set_option maxRecDepth 100000 in
theorem markOf_any (s:ByteArray) (q:Int) (w:World) (hs:s.size<=800) (hq:0<=q) (hq2:q<=300) :
 Calls Try.prog 110 #[.string s,.int .i64 q] w fun e w'=>e=.returned (.int .i64 (mkP s q s.size))/\w'=w:=by
 go_enter Try.func110,Try.ntmps110
 go_wp2
 go_loopw [5,6] (fun m i wr=>∃ k:Nat,k<=s.size/\i=.int .i64 k/\m=.int .i64 (mkP s q k)/\wr=w) (fun _ i _=>s.size - (intOf i).toNat)
 case atStart=>exact ⟨0,Nat.zero_le _,rfl,rfl,rfl⟩
 case round =>
  obtain ⟨k,hk,rfl,rfl,rfl⟩:=hrel
  by_cases hlt:k < s.size
  ·have hr:=mkP_rng s q hs hq k
   have hb:=mk_rng s k
   have HN:Hid (mkP s q (k+1)=(mkP s q k * q+(bl s).getD k 0) % 65521):=rfl
   rw [mk_byte s k hlt] at hb HN
   have hm:0<=mkP s q k * q:=Int.mul_nonneg hr.1 hq
   have hm2:mkP s q k * q<=65520 * 300:=Int.mul_le_mul hr.2 hq2 hq (by omega)
   generalize mkP s q k=m at *
   go_wp2
   exact ⟨⟨k+1,by omega,rfl,by rw [HN.out],trivial⟩,by simp [intOf];omega⟩
  ·have e1:k=s.size:=by omega
   subst e1
   go_wp2
   go_ret
   exact ⟨rfl,rfl⟩
def mksP (s:ByteArray):List Int:=[mkP s 257 s.size,mkP s 263 s.size,mkP s 269 s.size]
set_option maxHeartbeats 400000 in
set_option maxRecDepth 100000 in
theorem marksOf_any (s:ByteArray) (w:World) (hs:s.size<=800) :
 Calls Try.prog 82 #[.string s] w fun e w'=>∃ v,e=.returned v/\IntsV w' w.heap.size v (mksP s)/\Chg (fun _=>False) w w':=by
 go_enter Try.func82,Try.ntmps82
 go_wp2_with fail
 refine (markOf_any s 257 _ hs (by decide) (by decide)).mono ?_
 rintro e w1 ⟨rfl,rfl⟩
 go_wp2_with fail
 refine (markOf_any s 263 _ hs (by decide) (by decide)).mono ?_
 rintro e w1 ⟨rfl,rfl⟩
 go_wp2_with fail
 refine (markOf_any s 269 _ hs (by decide) (by decide)).mono ?_
 rintro e w1 ⟨rfl,rfl⟩
 go_wp2
 go_ret
 exact ⟨_,rfl,IntsV.lit (mksP s) 3 rfl rfl (Nat.le_refl _) (by unfold maxLen;omega),(Chg.refl _ _).alloc _⟩
structure Fr where
 fn:Int
 pc:Int
 locals:List Int
 stack:List Int
def nums (f:Fr):List Int:=f.pc::(f.locals++f.stack)
theorem IntsV.two {w:World} {base:Nat} {v:Value} {l:List Int} (h:IntsV w base v l):(v=.slice none 0 0/\l=[]) \/ ∃ g c,v=.slice (some ⟨g,0,none⟩) l.length c:=by
 rcases h.2 with ⟨h1,h2⟩ | ⟨g,cap,cur,rfl,_⟩
 ·exact .inl ⟨h1,List.eq_nil_of_length_eq_zero h2⟩
 ·exact .inr ⟨_,_,rfl⟩
end Go.Proofs.Ytnfnbcbadakofaa
namespace Go.Proofs.Ytnfnbcbadakofaa
open Go.RowKit
theorem wp_app {ops:Array Oper} {rest:List Oper} {o:Oper} {a:Act} {Q:Exit->Act->World->Prop} {w:World} (hgd:o.guard=none) (s x:Operand)
 (ho:o.op=.call { callee:=.builtin .append,args:=#[s,x],argTypes:=#[47,47] }) (base:Nat) (v u:Value) (l l':List Int) (hs:a.eval s=v) (hx:a.eval x=u) (hown:IntsV w base v l) (hu:RdI w u l')
 (hlen:l.length+l'.length<=10000000) (hbase:base<=w.heap.size)
 (h:∀ x n c w',n=l.length+l'.length->IntsV w' base (.slice x n c) (l++l')->Chg (fun j=>some j=v.ownBlock) w w'->wpList Try.prog ops Q rest (a.put o.dst (.slice x n c)) w'):wpList Try.prog ops Q (o::rest) a w:=by
 obtain ⟨i,hi1,hi2,hi3,hi4⟩:=info3
 rcases hu with ⟨rfl,rfl⟩ | ⟨g,off,c,rfl,hle,hcap,hc⟩
 ·refine wpList_append_own_none hgd s x 47 ho base 3 i 1 Try.underlying47 hi1 v _ _ hs hown hx ?_
  obtain ⟨b,c,hv⟩:=hown.slice
  have:=h b l.length c w (by simp) (by rw [List.append_nil];rw [hv] at hown;exact hown) (Chg.refl _ w)
  rw [hv];exact this
 ·refine wpList_append_own _ hgd s x 47 ho base 3 i (.int .i64 0) 1 8 Try.underlying47 hi1 hi2 hi3 hi4 rfl (by decide) v _ _ hs hown ⟨g,off,none⟩ l'.length c (ints l') hx (by simp [ints]) (RdI.news hc) (fun u hu=>by simp only [ints,List.mem_map] at hu;obtain ⟨y,_,rfl⟩:=hu;rfl) (by unfold maxLen;omega) (by omega) hbase ?_
  intro v' w' hown' hgrow _
  have hI:IntsV w' base v' (l++l'):=by unfold IntsV;simpa [ints] using hown'
  obtain ⟨b,c',hv⟩:=hI.slice
  rw [hv] at hI ⊢
  exact h b _ c' w' (by simp) hI (chg_of_grown hgrow |>.mono (fun j _ e=>e))
end Go.Proofs.Ytnfnbcbadakofaa
namespace Go.Proofs.Ytnfnbcbadakofaa
open Go.RowKit
set_option maxHeartbeats 1000000 in
set_option maxRecDepth 100000 in
theorem nums_any (f:Fr) (lv kv:Value) (w:World) (b1:Nat) (hl:IntsV w b1 lv f.locals) (hk:IntsV w b1 kv f.stack) (hll:f.locals.length<=10000) (hkl:f.stack.length<=10000) :
 Calls Try.prog 83 #[.agg #[.int .i64 f.fn,.int .i64 f.pc,lv,kv]] w fun e w'=>∃ v,e=.returned v/\IntsV w' w.heap.size v (nums f)/\Chg (fun _=>False) w w':=by
 obtain ⟨la,lc,rfl⟩:=hl.slice
 obtain ⟨ka,kc,rfl⟩:=hk.slice
 have k1:Chg (fun _=>False) w ((w.alloc (Obj.cells #[.int .i64 f.fn,.int .i64 f.pc,.slice la f.locals.length lc,.slice ka f.stack.length kc] 123)).alloc (Obj.cells #[.int .i64 f.pc] 3)):=((Chg.refl _ w).alloc _).alloc _
 have bx:Blk ((w.alloc (Obj.cells #[.int .i64 f.fn,.int .i64 f.pc,.slice la f.locals.length lc,.slice ka f.stack.length kc] 123)).alloc (Obj.cells #[.int .i64 f.pc] 3)) w.heap.size #[.int .i64 f.fn,.int .i64 f.pc,.slice la f.locals.length lc,.slice ka f.stack.length kc] 123:=(Blk.new w _ 123).alloc _
 have hI:IntsV ((w.alloc (Obj.cells #[.int .i64 f.fn,.int .i64 f.pc,.slice la f.locals.length lc,.slice ka f.stack.length kc] 123)).alloc (Obj.cells #[.int .i64 f.pc] 3)) w.heap.size (.slice (some ⟨w.heap.size+1,0,none⟩) 1 1) [f.pc]:=IntsV.lit [f.pc] 1 rfl (by simp) (by omega) (by unfold maxLen;omega)
 have hsz:=k1.size
 have HL:Hid _:=hl.chg k1 (fun _ _ _ e=>e)
 have HK:Hid _:=hk.chg k1 (fun _ _ _ e=>e)
 have hlt:=fun g hg=>(hk.lt g hg).2
 have HLT:Hid _:=hlt
 clear hlt hl hk
 go_enter Try.func83,Try.ntmps83
 go_wp2_with (at_builtin;refine wp_app rfl _ _ rfl w.heap.size (.slice (some ⟨w.heap.size+1,0,none⟩) 1 1) (.slice la f.locals.length lc) [f.pc] f.locals rfl rfl ?h1 ?h2 ?h3 ?h4 ?_)
 case h1=>exact hI
 case h2=>exact IntsV.rdI (base:=b1) HL.out
 case h3=>simp;omega
 case h4=>exact hsz
 generalize ((w.alloc (Obj.cells #[.int .i64 f.fn,.int .i64 f.pc,.slice la f.locals.length lc,.slice ka f.stack.length kc] 123)).alloc (Obj.cells #[.int .i64 f.pc] 3))=W at *
 intro x n2 c w2 hn hI2 hch
 clear hn
 have bx2:=bx.chg hch (fun e=>by simp [Value.ownBlock] at e)
 have k2:Chg (fun _=>False) w w2:=k1.trans' hch (fun i hi e=>by simp [Value.ownBlock] at e;omega)
 have HK2:Hid (RdI w2 (.slice ka f.stack.length kc) f.stack):=IntsV.rdI (base:=b1) (own_chg HK.out hch (fun g hg e=>by have:=HLT.out g hg;simp [Value.ownBlock] at e;omega))
 have c3:w2.cell? ⟨w.heap.size,3,none⟩=some (.slice ka f.stack.length kc):=bx2.cell 3
 have hsz2:=k2.size
 clear bx k1 HL HK hch hI
 go_wp2_with (at_builtin;refine wp_app rfl _ _ rfl w.heap.size (.slice x n2 c) (.slice ka f.stack.length kc) ([f.pc]++f.locals) f.stack rfl rfl ?h1 ?h2 ?h3 ?h4 ?_)
 case h1=>exact hI2
 case h2=>exact HK2.out
 case h3=>simp;omega
 case h4=>exact hsz2
 intro x3 n3 c3' w3 hn hI3 hch3
 clear hn
 have k3:Chg (fun _=>False) w w3:=k2.trans' hch3 (fun i hi e=>by have:=(hI2.lt i e.symm).1;omega)
 clear hch3 c3
 go_wp2
 go_ret
 exact ⟨_,rfl,by simpa [nums] using hI3,k3⟩
end Go.Proofs.Ytnfnbcbadakofaa
namespace Go.Proofs.Ytnfnbcbadakofaa
open Go.RowKit
def frC (xs:List (Fr × Value × Value)):List Value:=xs.flatMap fun x=>[.int .i64 x.1.fn,.int .i64 x.1.pc,x.2.1,x.2.2]
theorem frC_len (xs:List (Fr × Value × Value)):(frC xs).length=xs.length * 4:=by
 induction xs with
 | nil=>rfl
 | cons x c ih=>simp [frC] at ih ⊢;omega
theorem frC_get (xs:List (Fr × Value × Value)) (j:Nat) (hj:j < xs.length):(frC xs)[j * 4]?=some (.int .i64 xs[j].1.fn)/\(frC xs)[j * 4+1]?=some (.int .i64 xs[j].1.pc)/\(frC xs)[j * 4+2]?=some xs[j].2.1/\(frC xs)[j * 4+3]?=some xs[j].2.2:=by
 induction xs generalizing j with
 | nil=>simp at hj
 | cons x c ih =>
  have e:frC (x::c)=.int .i64 x.1.fn::.int .i64 x.1.pc::x.2.1::x.2.2::frC c:=by simp [frC]
  rcases j with _ | j
  ·rw [e];simp
  ·have:=ih j (by simpa using hj)
   rw [e,show (j+1) * 4=j * 4+4 by omega]
   simpa using this
def FramesV (w:World) (base:Nat) (v:Value) (fs:List Fr):Prop:=
 ∃ xs:List (Fr × Value × Value),xs.map (·.1)=fs/\w.ownsRow base 123 4 v xs.length (frC xs)/\∀ x ∈ xs,IntsV w base x.2.1 x.1.locals/\IntsV w base x.2.2 x.1.stack
theorem FramesV.nil (w:World) (base:Nat):FramesV w base (.slice none 0 0) []:=⟨[],rfl,World.ownsRow_nil _ _ _ _,fun x m=>by cases m⟩
theorem FramesV.chg {S:Nat->Prop} {w w':World} {base:Nat} {v:Value} {fs:List Fr} (h:FramesV w base v fs) (k:Chg S w w') (h3:∀ g cs,Blk w g cs 3->¬ S g) (h132:∀ g cs,Blk w g cs 123->¬ S g):FramesV w' base v fs:=by
 obtain ⟨xs,h1,h2,hx⟩:=h
 exact ⟨xs,h1,own_chg h2 k (fun g hg e=>by obtain ⟨cs,hb⟩:=own_blk h2 hg;exact h132 g cs hb e),fun x m=>⟨(hx x m).1.chg k h3,(hx x m).2.chg k h3⟩⟩
theorem FramesV.form {w:World} {base:Nat} {v:Value} {fs:List Fr} (h:FramesV w base v fs) (hl:0 < fs.length) :
 ∃ g cap,v=.slice (some ⟨g,0,none⟩) fs.length cap/\fs.length<=cap/\(∀ j (hj:j < fs.length),∃ lv kv,w.cell? ⟨g,j * 4,none⟩=some (.int .i64 fs[j].fn)/\w.cell? ⟨g,j * 4+1,none⟩=some (.int .i64 fs[j].pc) /\
  w.cell? ⟨g,j * 4+2,none⟩=some lv/\w.cell? ⟨g,j * 4+3,none⟩=some kv/\IntsV w base lv fs[j].locals/\IntsV w base kv fs[j].stack):=by
 obtain ⟨xs,h0,h,hx⟩:=h
 have hc:=fun g=>World.ownsRow.cells (g:=g) h
 subst h0
 simp only [List.length_map] at *
 rcases h.2 with ⟨_,h0⟩ | ⟨g,cap,cur,rfl,hb,hgg,hle,hcap,_⟩
 ·omega
 ·refine ⟨g,cap,rfl,hle,fun j hj=>?_⟩
  have hadd:∀ j,(⟨g,0,none⟩:Addr).add j=⟨g,j,none⟩:=by intro j;unfold Addr.add;split <;> simp_all
  obtain ⟨k1,k2,k3,k4⟩:=frC_get xs j hj
  have a1:=hc g rfl _ _ k1
  have a2:=hc g rfl _ _ k2
  have a3:=hc g rfl _ _ k3
  have a4:=hc g rfl _ _ k4
  rw [hadd] at a1 a2 a3 a4
  have hm:=hx xs[j] (List.getElem_mem hj)
  exact ⟨xs[j].2.1,xs[j].2.2,by simpa using a1,by simpa using a2,a3,a4,by simpa using hm.1,by simpa using hm.2⟩
def layP (ms:List Int) (h d st:Int) (ws:List Int) (below:List Fr) (top:Fr):List Int:=
 if st ≠ 0 then ms++[h,d,st] else ms++[h,d,st]++[(ws.length:Int)]++ws++[(below.length:Int)+1]++below.flatMap nums++nums top
theorem app_new {W0 wi wj w':World} {v:Value} {l:List Int} (h:IntsV wi W0.heap.size v l) (k:Chg (fun _=>False) W0 wi) (hj:Chg (fun _=>False) wi wj) (hch:Chg (fun j=>some j=v.ownBlock) wj w'):Chg (fun _=>False) W0 w':=
 (k.trans hj).trans' hch (fun i hi e=>by have:=(h.lt i e.symm).1;omega)
theorem lit_rd {W:World} (l:List Int) (n:Nat) (hn:l.length=n) (hm:n<=maxLen):RdI (W.alloc (.cells (ints l).toArray 3)) (.slice (some ⟨W.heap.size,0,none⟩) n n) l:=
 (IntsV.lit (base:=0) l n hn rfl (Nat.zero_le _) hm).rdI
theorem nums_le {f:Fr} (h1:f.locals.length<=10000) (h2:f.stack.length<=10000):(nums f).length<=20001:=by simp [nums];omega
theorem flat_le {fs:List Fr} (h:∀ f ∈ fs,f.locals.length<=10000/\f.stack.length<=10000):(fs.flatMap nums).length<=fs.length * 20001:=by
 induction fs with
 | nil=>simp
 | cons f fs ih =>
  have h1:=nums_le (h f (by simp)).1 (h f (by simp)).2
  have h2:=ih (fun g hg=>h g (by simp [hg]))
  rw [List.flatMap_cons,List.length_append,List.length_cons];omega
theorem flat_snoc {fs:List Fr} (k:Nat) (hk:k < fs.length):(fs.take (k+1)).flatMap nums=(fs.take k).flatMap nums++nums fs[k]:=by
 rw [List.take_succ_eq_append_getElem hk,List.flatMap_append];simp
set_option maxHeartbeats 2000000 in
set_option maxRecDepth 100000 in
theorem lay_end (s:ByteArray) (hs:s.size<=800) (ta fa sa ia oa wa ba la ka:Option Addr) (tn tc fn fc sn sc inn ic on oc wc bc lc kc:Nat) (h d used:Int) (st:Int) (hst:(st != 0)=true) (ws:List Int) (below:List Fr) (top:Fr) (w:World) (b1:Nat)
 (hw:IntsV w b1 (.slice wa ws.length wc) ws) (hb:FramesV w b1 (.slice ba below.length bc) below) (hl:IntsV w b1 (.slice la top.locals.length lc) top.locals) (hk:IntsV w b1 (.slice ka top.stack.length kc) top.stack)
 (_hwl:ws.length<=10000) (_hbl:below.length<=100) (_hbs:∀ f ∈ below,f.locals.length<=10000/\f.stack.length<=10000) (_htl:top.locals.length<=10000) (_htk:top.stack.length<=10000) :
 Calls Try.prog 62 #[.agg #[.string s,.slice ta tn tc,.slice fa fn fc,.slice sa sn sc,.int .i64 h,.int .i64 d,.int .i64 st,.slice wa ws.length wc,.slice ba below.length bc,.int .i64 top.fn,.int .i64 top.pc,.slice la top.locals.length lc,.slice ka top.stack.length kc,.slice ia inn ic,.int .i64 used,.slice oa on oc]] w fun e w'=>∃ v,e=.returned v/\IntsV w' w.heap.size v (mksP s++[h,d,st])/\Chg (fun _=>False) w w':=by
 have kb:Chg (fun _=>False) w (w.alloc (Obj.cells #[.string s,.slice ta tn tc,.slice fa fn fc,.slice sa sn sc,.int .i64 h,.int .i64 d,.int .i64 st,.slice wa ws.length wc,.slice ba below.length bc,.int .i64 top.fn,.int .i64 top.pc,.slice la top.locals.length lc,.slice ka top.stack.length kc,.slice ia inn ic,.int .i64 used,.slice oa on oc] 125)):=(Chg.refl _ w).alloc _
 have bx:Blk (w.alloc (Obj.cells #[.string s,.slice ta tn tc,.slice fa fn fc,.slice sa sn sc,.int .i64 h,.int .i64 d,.int .i64 st,.slice wa ws.length wc,.slice ba below.length bc,.int .i64 top.fn,.int .i64 top.pc,.slice la top.locals.length lc,.slice ka top.stack.length kc,.slice ia inn ic,.int .i64 used,.slice oa on oc] 125)) w.heap.size #[.string s,.slice ta tn tc,.slice fa fn fc,.slice sa sn sc,.int .i64 h,.int .i64 d,.int .i64 st,.slice wa ws.length wc,.slice ba below.length bc,.int .i64 top.fn,.int .i64 top.pc,.slice la top.locals.length lc,.slice ka top.stack.length kc,.slice ia inn ic,.int .i64 used,.slice oa on oc] 125:=Blk.new w _ 125
 have HB:=hb.chg kb (fun _ _ _ e=>e) (fun _ _ _ e=>e)
 have HW:=hw.chg kb (fun _ _ _ e=>e)
 have HL:=hl.chg kb (fun _ _ _ e=>e)
 have HK:=hk.chg kb (fun _ _ _ e=>e)
 clear hw hb hl hk
 have hml:(mksP s).length=3:=rfl
 go_enter Try.func62,Try.ntmps62
 go_wp2_with fail
 generalize (w.alloc (Obj.cells #[.string s,.slice ta tn tc,.slice fa fn fc,.slice sa sn sc,.int .i64 h,.int .i64 d,.int .i64 st,.slice wa ws.length wc,.slice ba below.length bc,.int .i64 top.fn,.int .i64 top.pc,.slice la top.locals.length lc,.slice ka top.stack.length kc,.slice ia inn ic,.int .i64 used,.slice oa on oc] 125))=W0 at *
 refine (marksOf_any s _ hs).mono ?_
 rintro e w1 ⟨v1,rfl,hI1,k1⟩
 obtain ⟨a1,c1,rfl⟩:=hI1.slice
 have x4:w1.cell? ⟨w.heap.size,4,none⟩=some (.int .i64 h):=(bx.chg k1 (fun e=>e)).cell 4
 have x5:w1.cell? ⟨w.heap.size,5,none⟩=some (.int .i64 d):=(bx.chg k1 (fun e=>e)).cell 5
 have x6:w1.cell? ⟨w.heap.size,6,none⟩=some (.int .i64 st):=(bx.chg k1 (fun e=>e)).cell 6
 have hlt:=(bx.chg k1 (fun e=>e)).lt
 have hs1:=k1.size
 have j1:Chg (fun _=>False) w1 (w1.alloc (Obj.cells #[.int .i64 h,.int .i64 d,.int .i64 st] 3)):=(Chg.refl _ w1).alloc _
 go_wp2_with (at_builtin;refine wp_app rfl _ _ rfl W0.heap.size (.slice a1 (mksP s).length c1) (.slice (some ⟨w1.heap.size,0,none⟩) 3 3) (mksP s) [h,d,st] rfl rfl ?h1 ?h2 ?h3 ?h4 ?_)
 case h1=>exact hI1.chg j1 (fun _ _ _ e=>e)
 case h2=>exact lit_rd [h,d,st] 3 rfl (by unfold maxLen;omega)
 case h3=>simp;omega
 case h4=>exact Nat.le_trans hs1 j1.size
 intro a2 n2 c2 w2 hn2 hI2 hch2
 have k2:=app_new hI1 k1 j1 hch2
 clear hI1 k1 j1 hch2 x4 x5 x6 hlt hs1
 have hB2:n2<=6:=by first | omega | (rw [hn2,hml];simp)
 clear hn2
 have x6:w2.cell? ⟨w.heap.size,6,none⟩=some (.int .i64 st):=(bx.chg k2 (fun e=>e)).cell 6
 go_wp2
 go_ret
 exact ⟨_,rfl,own_mono hI2 kb.size,kb.trans k2⟩
set_option maxHeartbeats 2000000 in
set_option maxRecDepth 100000 in
theorem lay_run (s:ByteArray) (hs:s.size<=800) (ta fa sa ia oa wa ba la ka:Option Addr) (tn tc fn fc sn sc inn ic on oc wc bc lc kc:Nat) (h d used:Int) (ws:List Int) (below:List Fr) (top:Fr) (w:World) (b1:Nat)
 (hw:IntsV w b1 (.slice wa ws.length wc) ws) (hb:FramesV w b1 (.slice ba below.length bc) below) (hl:IntsV w b1 (.slice la top.locals.length lc) top.locals) (hk:IntsV w b1 (.slice ka top.stack.length kc) top.stack)
 (hwl:ws.length<=10000) (hbl:below.length<=100) (hbs:∀ f ∈ below,f.locals.length<=10000/\f.stack.length<=10000) (htl:top.locals.length<=10000) (htk:top.stack.length<=10000) :
 Calls Try.prog 62 #[.agg #[.string s,.slice ta tn tc,.slice fa fn fc,.slice sa sn sc,.int .i64 h,.int .i64 d,.int .i64 0,.slice wa ws.length wc,.slice ba below.length bc,.int .i64 top.fn,.int .i64 top.pc,.slice la top.locals.length lc,.slice ka top.stack.length kc,.slice ia inn ic,.int .i64 used,.slice oa on oc]] w fun e w'=>∃ v,e=.returned v/\IntsV w' w.heap.size v (mksP s++[h,d,0]++[(ws.length:Int)]++ws++[(below.length:Int)+1]++below.flatMap nums++nums top)/\Chg (fun _=>False) w w':=by
 have kb:Chg (fun _=>False) w (w.alloc (Obj.cells #[.string s,.slice ta tn tc,.slice fa fn fc,.slice sa sn sc,.int .i64 h,.int .i64 d,.int .i64 0,.slice wa ws.length wc,.slice ba below.length bc,.int .i64 top.fn,.int .i64 top.pc,.slice la top.locals.length lc,.slice ka top.stack.length kc,.slice ia inn ic,.int .i64 used,.slice oa on oc] 125)):=(Chg.refl _ w).alloc _
 have bx:Blk (w.alloc (Obj.cells #[.string s,.slice ta tn tc,.slice fa fn fc,.slice sa sn sc,.int .i64 h,.int .i64 d,.int .i64 0,.slice wa ws.length wc,.slice ba below.length bc,.int .i64 top.fn,.int .i64 top.pc,.slice la top.locals.length lc,.slice ka top.stack.length kc,.slice ia inn ic,.int .i64 used,.slice oa on oc] 125)) w.heap.size #[.string s,.slice ta tn tc,.slice fa fn fc,.slice sa sn sc,.int .i64 h,.int .i64 d,.int .i64 0,.slice wa ws.length wc,.slice ba below.length bc,.int .i64 top.fn,.int .i64 top.pc,.slice la top.locals.length lc,.slice ka top.stack.length kc,.slice ia inn ic,.int .i64 used,.slice oa on oc] 125:=Blk.new w _ 125
 have HB:=hb.chg kb (fun _ _ _ e=>e) (fun _ _ _ e=>e)
 have HW:=hw.chg kb (fun _ _ _ e=>e)
 have HL:=hl.chg kb (fun _ _ _ e=>e)
 have HK:=hk.chg kb (fun _ _ _ e=>e)
 clear hw hb hl hk
 have hml:(mksP s).length=3:=rfl
 go_enter Try.func62,Try.ntmps62
 go_wp2_with fail
 generalize (w.alloc (Obj.cells #[.string s,.slice ta tn tc,.slice fa fn fc,.slice sa sn sc,.int .i64 h,.int .i64 d,.int .i64 0,.slice wa ws.length wc,.slice ba below.length bc,.int .i64 top.fn,.int .i64 top.pc,.slice la top.locals.length lc,.slice ka top.stack.length kc,.slice ia inn ic,.int .i64 used,.slice oa on oc] 125))=W0 at *
 refine (marksOf_any s _ hs).mono ?_
 rintro e w1 ⟨v1,rfl,hI1,k1⟩
 obtain ⟨a1,c1,rfl⟩:=hI1.slice
 have x4:w1.cell? ⟨w.heap.size,4,none⟩=some (.int .i64 h):=(bx.chg k1 (fun e=>e)).cell 4
 have x5:w1.cell? ⟨w.heap.size,5,none⟩=some (.int .i64 d):=(bx.chg k1 (fun e=>e)).cell 5
 have x6:w1.cell? ⟨w.heap.size,6,none⟩=some (.int .i64 0):=(bx.chg k1 (fun e=>e)).cell 6
 have hlt:=(bx.chg k1 (fun e=>e)).lt
 have hs1:=k1.size
 have j1:Chg (fun _=>False) w1 (w1.alloc (Obj.cells #[.int .i64 h,.int .i64 d,.int .i64 0] 3)):=(Chg.refl _ w1).alloc _
 go_wp2_with (at_builtin;refine wp_app rfl _ _ rfl W0.heap.size (.slice a1 (mksP s).length c1) (.slice (some ⟨w1.heap.size,0,none⟩) 3 3) (mksP s) [h,d,0] rfl rfl ?h1 ?h2 ?h3 ?h4 ?_)
 case h1=>exact hI1.chg j1 (fun _ _ _ e=>e)
 case h2=>exact lit_rd [h,d,0] 3 rfl (by unfold maxLen;omega)
 case h3=>simp;omega
 case h4=>exact Nat.le_trans hs1 j1.size
 intro a2 n2 c2 w2 hn2 hI2 hch2
 have k2:=app_new hI1 k1 j1 hch2
 clear hI1 k1 j1 hch2 x4 x5 x6 hlt hs1
 have hB2:n2<=6:=by first | omega | (rw [hn2,hml];simp)
 obtain ⟨L2,hE2⟩:∃ L,mksP s++[h,d,0]=L:=⟨_,rfl⟩
 rw [hE2] at hI2
 have hM2:L2.length=n2:=by
  have hh:=congrArg List.length hE2
  rw [List.length_append] at hh
  first | omega | (simp at hh hn2;omega)
 have HM2:Hid (L2.length=n2):=hM2
 clear hM2
 clear hn2
 have E2:Hid (mksP s++[h,d,0]=L2):=hE2
 clear hE2
 have x6:w2.cell? ⟨w.heap.size,6,none⟩=some (.int .i64 0):=(bx.chg k2 (fun e=>e)).cell 6
 have x7:w2.cell? ⟨w.heap.size,7,none⟩=some (.slice wa ws.length wc):=(bx.chg k2 (fun e=>e)).cell 7
 have hlt2:=(bx.chg k2 (fun e=>e)).lt
 have j2:Chg (fun _=>False) w2 (w2.alloc (Obj.cells #[.int .i64 ((ws.length:Int))] 3)):=(Chg.refl _ w2).alloc _
 have hs2:=k2.size
 go_wp2_with (at_builtin;refine wp_app rfl _ _ rfl W0.heap.size (.slice a2 n2 c2) (.slice (some ⟨w2.heap.size,0,none⟩) 1 1) L2 [(ws.length:Int)] rfl rfl ?h1 ?h2 ?h3 ?h4 ?_)
 case h1=>exact hI2.chg j2 (fun _ _ _ e=>e)
 case h2=>exact lit_rd [(ws.length:Int)] 1 rfl (by unfold maxLen;omega)
 case h3=>rw [HM2.out];simp;omega
 case h4=>exact Nat.le_trans hs2 j2.size
 intro a3 n3 c3 w3 hn3 hI3 hch
 have k3:=app_new hI2 k2 j2 hch
 clear hI2 k2 j2 hch x6 x7 hlt2 hs2
 obtain ⟨L3,hE3⟩:∃ L,L2++[(ws.length:Int)]=L:=⟨_,rfl⟩
 rw [hE3] at hI3
 have hM3:L3.length=n3:=by
  have hh:=congrArg List.length hE3
  rw [List.length_append] at hh
  first | omega | (simp at hh hn3;omega)
 have HM3:Hid (L3.length=n3):=hM3
 clear hM3
 have hB3:n3<=7:=by rw [hn3,HM2.out];first | omega | (simp;omega)
 clear hn3
 have E3:Hid (L2++[(ws.length:Int)]=L3):=hE3
 clear hE3
 have x7:w3.cell? ⟨w.heap.size,7,none⟩=some (.slice wa ws.length wc):=(bx.chg k3 (fun e=>e)).cell 7
 have hs3:=k3.size
 go_wp2_with (at_builtin;refine wp_app rfl _ _ rfl W0.heap.size (.slice a3 n3 c3) (.slice wa ws.length wc) L3 ws rfl rfl ?h1 ?h2 ?h3 ?h4 ?_)
 case h1=>exact hI3
 case h2=>exact (HW.chg k3 (fun _ _ _ e=>e)).rdI
 case h3=>rw [HM3.out];omega
 case h4=>exact hs3
 intro a4 n4 c4 w4 hn4 hI4 hch
 have k4:=app_new hI3 k3 (Chg.refl _ _) hch
 clear hI3 k3 hch x7 hs3
 obtain ⟨L4,hE4⟩:∃ L,L3++ws=L:=⟨_,rfl⟩
 rw [hE4] at hI4
 have hM4:L4.length=n4:=by
  have hh:=congrArg List.length hE4
  rw [List.length_append] at hh
  first | omega | (simp at hh hn4;omega)
 have HM4:Hid (L4.length=n4):=hM4
 clear hM4
 have hB4:n4<=10007:=by rw [hn4,HM3.out];first | omega | (simp;omega)
 clear hn4
 have E4:Hid (L3++ws=L4):=hE4
 clear hE4
 have x8:w4.cell? ⟨w.heap.size,8,none⟩=some (.slice ba below.length bc):=(bx.chg k4 (fun e=>e)).cell 8
 have hlt4:=(bx.chg k4 (fun e=>e)).lt
 have j4:Chg (fun _=>False) w4 (w4.alloc (Obj.cells #[.int .i64 ((below.length:Int)+1)] 3)):=(Chg.refl _ w4).alloc _
 have hs4:=k4.size
 go_wp2_with (at_builtin;refine wp_app rfl _ _ rfl W0.heap.size (.slice a4 n4 c4) (.slice (some ⟨w4.heap.size,0,none⟩) 1 1) L4 [(below.length:Int)+1] rfl rfl ?h1 ?h2 ?h3 ?h4 ?_)
 case h1=>exact hI4.chg j4 (fun _ _ _ e=>e)
 case h2=>exact lit_rd [(below.length:Int)+1] 1 rfl (by unfold maxLen;omega)
 case h3=>rw [HM4.out];simp;omega
 case h4=>exact Nat.le_trans hs4 j4.size
 intro a5 n5 c5 w5 hn5 hI5 hch
 have k5:=app_new hI4 k4 j4 hch
 clear hI4 k4 j4 hch x8 hlt4 hs4
 obtain ⟨L5,hE5⟩:∃ L,L4++[(below.length:Int)+1]=L:=⟨_,rfl⟩
 rw [hE5] at hI5
 have hM5:L5.length=n5:=by
  have hh:=congrArg List.length hE5
  rw [List.length_append] at hh
  first | omega | (simp at hh hn5;omega)
 have HM5:Hid (L5.length=n5):=hM5
 clear hM5
 have hB5:n5<=10008:=by rw [hn5,HM4.out];first | omega | (simp;omega)
 clear hn5
 have E5:Hid (L4++[(below.length:Int)+1]=L5):=hE5
 clear hE5
 have x8:w5.cell? ⟨w.heap.size,8,none⟩=some (.slice ba below.length bc):=(bx.chg k5 (fun e=>e)).cell 8
 go_wp2_with fail
 clear x8
 go_loopw [3,42] (fun v iv wr=>∃ (k n:Nat) (a:Option Addr) (c:Nat),k<=below.length/\iv=.int .i64 (k:Int)/\v=.slice a n c/\IntsV wr W0.heap.size (.slice a n c) (L5++(below.take k).flatMap nums)/\Chg (fun _=>False) W0 wr) (fun _ iv _=>below.length - (intOf iv).toNat)
 case atStart=>exact ⟨0,n5,a5,c5,Nat.zero_le _,rfl,rfl,by simpa using hI5,k5⟩
 case round =>
  clear hI5 k5
  obtain ⟨k,n,a,c,hk,rfl,rfl,hI,kk⟩:=hrel
  have hfl:((below.take k).flatMap nums).length<=k * 20001:=by
   have:=flat_le (fs:=below.take k) (fun f hf=>hbs f (List.mem_of_mem_take hf))
   rw [List.length_take] at this
   have h2:min k below.length=k:=by omega
   rw [h2] at this;exact this
  have hLl:(L5++(below.take k).flatMap nums).length<=10008+k * 20001:=by rw [List.length_append,HM5.out];omega
  have HLL:Hid ((L5++(below.take k).flatMap nums).length<=10008+k * 20001):=hLl
  clear hfl hLl
  by_cases hlt:k < below.length
  ·have hlt':(k:Int) < (below.length:Int):=by omega
   obtain ⟨g,cap,hbe,_,hcells⟩:=(HB.chg kk (fun _ _ _ e=>e) (fun _ _ _ e=>e)).form (by omega)
   simp only [Value.slice.injEq] at hbe
   obtain ⟨rfl,_,rfl⟩:=hbe
   obtain ⟨flv,fkv,h0,h1,h2,h3,hfl,hfk⟩:=hcells k hlt
   have hfb:=hbs _ (List.getElem_mem hlt)
   have HSN:Hid ((below.take (k+1)).flatMap nums=(below.take k).flatMap nums++nums below[k]):=flat_snoc k hlt
   clear hcells
   obtain ⟨f,hf⟩:∃ f,below[k]=f:=⟨_,rfl⟩
   rw [hf] at h0 h1 hfl hfk hfb
   have HF:Hid (below[k]=f):=hf
   clear hf
   obtain ⟨fla,flc,rfl⟩:=hfl.slice
   obtain ⟨fka,fkc,rfl⟩:=hfk.slice
   have hgl:=World.block_lt_of_cell? wr _ h0
   have jf:Chg (fun _=>False) wr (wr.alloc (Obj.cells #[.int .i64 f.fn,.int .i64 f.pc,.slice fla f.locals.length flc,.slice fka f.stack.length fkc] 123)):=(Chg.refl _ wr).alloc _
   go_wp2_with fail
   refine (nums_any f _ _ _ b1 (hfl.chg jf (fun _ _ _ e=>e)) (hfk.chg jf (fun _ _ _ e=>e)) hfb.1 hfb.2).mono ?_
   rintro e w6 ⟨nv,rfl,hN,kn⟩
   obtain ⟨na,nc,rfl⟩:=hN.slice
   have j6:=jf.trans kn
   have hs6:=(kk.trans j6).size
   have HNL:Hid ((nums f).length<=20001):=nums_le hfb.1 hfb.2
   clear h0 h1 h2 h3 hfl hfk hgl jf kn
   go_wp2_with (at_builtin;refine wp_app rfl _ _ rfl W0.heap.size (.slice a n c) (.slice na (nums f).length nc) (L5++(below.take k).flatMap nums) (nums f) rfl rfl ?h1 ?h2 ?h3 ?h4 ?_)
   case h1=>exact hI.chg j6 (fun _ _ _ e=>e)
   case h2=>exact hN.rdI
   case h3=>have h1:=HLL.out;have h2:=HNL.out;omega
   case h4=>exact hs6
   intro a7 n7 c7 w7 hn7 hI7 hch
   have k7:=app_new hI kk j6 hch
   clear hn7 hch
   go_wp2
   refine ⟨⟨k+1,n7,a7,c7,by omega,rfl,rfl,?_,k7⟩,by simp [intOf];omega⟩
   have hsn:=HSN.out
   rw [HF.out] at hsn
   rw [hsn];first | exact hI7 | (rw [<-List.append_assoc];exact hI7)
  ·have hkk:k=below.length:=by omega
   have hlt':(below.length:Int)<=(k:Int):=by omega
   subst hkk
   rw [List.take_length] at hI HLL
   have x9:wr.cell? ⟨w.heap.size,9,none⟩=some (.int .i64 top.fn):=(bx.chg kk (fun e=>e)).cell 9
   have x10:wr.cell? ⟨w.heap.size,10,none⟩=some (.int .i64 top.pc):=(bx.chg kk (fun e=>e)).cell 10
   have x11:wr.cell? ⟨w.heap.size,11,none⟩=some (.slice la top.locals.length lc):=(bx.chg kk (fun e=>e)).cell 11
   have x12:wr.cell? ⟨w.heap.size,12,none⟩=some (.slice ka top.stack.length kc):=(bx.chg kk (fun e=>e)).cell 12
   have HNL:Hid ((nums top).length<=20001):=nums_le htl htk
   go_wp2_with fail
   refine (nums_any top _ _ _ b1 (HL.chg kk (fun _ _ _ e=>e)) (HK.chg kk (fun _ _ _ e=>e)) htl htk).mono ?_
   rintro e w6 ⟨nv,rfl,hN,kn⟩
   obtain ⟨na,nc,rfl⟩:=hN.slice
   have hs6:=(kk.trans kn).size
   clear x9 x10 x11 x12
   go_wp2_with (at_builtin;refine wp_app rfl _ _ rfl W0.heap.size (.slice a n c) (.slice na (nums top).length nc) (L5++below.flatMap nums) (nums top) rfl rfl ?h1 ?h2 ?h3 ?h4 ?_)
   case h1=>exact hI.chg kn (fun _ _ _ e=>e)
   case h2=>exact hN.rdI
   case h3=>have h1:=HLL.out;have h2:=HNL.out;omega
   case h4=>exact hs6
   intro a7 n7 c7 w7 hn7 hI7 hch
   have k7:=app_new hI kk kn hch
   clear hn7 hch
   go_wp2
   go_ret
   refine ⟨_,rfl,?_,kb.trans k7⟩
   rw [E2.out,E3.out,E4.out,E5.out]
   first | exact own_mono hI7 kb.size | (rw [List.append_assoc];exact own_mono hI7 kb.size)
theorem layDown_any (s:ByteArray) (hs:s.size<=800) (ta fa sa ia oa wa ba la ka:Option Addr) (tn tc fn fc sn sc inn ic on oc wc bc lc kc:Nat) (h d st used:Int) (ws:List Int) (below:List Fr) (top:Fr) (w:World) (b1:Nat)
 (hw:IntsV w b1 (.slice wa ws.length wc) ws) (hb:FramesV w b1 (.slice ba below.length bc) below) (hl:IntsV w b1 (.slice la top.locals.length lc) top.locals) (hk:IntsV w b1 (.slice ka top.stack.length kc) top.stack)
 (hwl:ws.length<=10000) (hbl:below.length<=100) (hbs:∀ f ∈ below,f.locals.length<=10000/\f.stack.length<=10000) (htl:top.locals.length<=10000) (htk:top.stack.length<=10000) :
 Calls Try.prog 62 #[.agg #[.string s,.slice ta tn tc,.slice fa fn fc,.slice sa sn sc,.int .i64 h,.int .i64 d,.int .i64 st,.slice wa ws.length wc,.slice ba below.length bc,.int .i64 top.fn,.int .i64 top.pc,.slice la top.locals.length lc,.slice ka top.stack.length kc,.slice ia inn ic,.int .i64 used,.slice oa on oc]] w fun e w'=>∃ v,e=.returned v/\IntsV w' w.heap.size v (layP (mksP s) h d st ws below top)/\Chg (fun _=>False) w w':=by
 unfold layP
 by_cases hst:st=0
 ·subst hst
  rw [if_neg (by simp)]
  exact lay_run s hs ta fa sa ia oa wa ba la ka tn tc fn fc sn sc inn ic on oc wc bc lc kc h d used ws below top w b1 hw hb hl hk hwl hbl hbs htl htk
 ·rw [if_pos hst]
  exact lay_end s hs ta fa sa ia oa wa ba la ka tn tc fn fc sn sc inn ic on oc wc bc lc kc h d used st (by simpa using hst) ws below top w b1 hw hb hl hk hwl hbl hbs htl htk
end Go.Proofs.Ytnfnbcbadakofaa
namespace Go.Proofs.Ytnfnbcbadakofaa
open Go.RowKit
theorem fitAll_inr {p:Pg} (fs:List Fn):∀ (k:Nat) (acc sps:List Spots),fitAll p fs k acc=.inr sps->sps=acc++fs.map (fun f=>(fitF p f).1)/\∀ f ∈ fs,(fitF p f).2.2=false:=by
 induction fs with
 | nil=>intro k acc sps h;simp only [fitAll,Sum.inr.injEq] at h;subst h;exact ⟨by simp,fun f hf=>by cases hf⟩
 | cons f fs ih =>
  intro k acc sps h
  unfold fitAll at h
  by_cases hb:(fitF p f).2.2=true
  ·rw [if_pos hb] at h;cases h
  ·rw [if_neg hb] at h
   obtain ⟨a,b⟩:=ih _ _ _ h
   refine ⟨by rw [a];simp,fun g hg=>?_⟩
   rcases List.mem_cons.1 hg with rfl | hg
   ·simpa using hb
   ·exact b g hg
theorem opF_ok {s:ByteArray} (h:(opF s).1=0):PgWf (opF s).2.2.1/\(opF s).2.1=0/\(opF s).2.2.2=(opF s).2.2.1.funcs.map (fun f=>(fitF (opF s).2.2.1 f).1)/\∀ f ∈ (opF s).2.2.1.funcs,(fitF (opF s).2.2.1 f).2.2=false:=by
 by_cases h1:(opn s).1=0
 ·rcases hA:fitAll (opn s).2.2 (opn s).2.2.funcs 0 [] with k | sps
  ·rw [opF_2 h1 k hA] at h;cases h
  ·rw [opF_3 h1 sps hA]
   obtain ⟨a,b⟩:=fitAll_inr _ _ _ _ hA
   exact ⟨opn_wf h1,rfl,by simpa using a,b⟩
 ·rw [opF_1 h1] at h;exact absurd h h1
def spP (sps:List Spots) (f i:Int):Option (List Int):=
 if f < 0 \/ (sps.length:Int)<=f then none else if i < 0 \/ ((sps.getD f.toNat []).length:Int)<=i then none else (sps.getD f.toNat []).getD i.toNat none
theorem SpotsL.form {w:World} {base:Nat} {v:Value} {sps:List Spots} (h:SpotsL w base v sps) (hl:0 < sps.length) :
 ∃ g cap,v=.slice (some ⟨g,0,none⟩) sps.length cap/\sps.length<=cap/\∀ j,j < sps.length->∃ x,w.cell? ⟨g,j,none⟩=some x/\SpotsV w base x (sps.getD j []):=by
 obtain ⟨vs,h,hx⟩:=h
 have hc:=fun g=>World.ownsRow.cells (g:=g) h
 have hvl:vs.length=sps.length:=by have:=h.1;omega
 rcases h.2 with ⟨_,h0⟩ | ⟨g,cap,cur,rfl,hb,hgg,hle,hcap,_⟩
 ·omega
 ·refine ⟨g,cap,rfl,hle,fun j hj=>?_⟩
  have hadd:(⟨g,0,none⟩:Addr).add j=⟨g,j,none⟩:=by unfold Addr.add;split <;> simp_all
  have hg:vs[j]?=some vs[j]:=List.getElem?_eq_getElem (by omega)
  have a1:=hc g rfl j _ hg
  rw [hadd] at a1
  exact ⟨_,a1,hx j _ hg⟩
theorem SpotsV.form {w:World} {base:Nat} {v:Value} {sp:Spots} (h:SpotsV w base v sp) (hl:0 < sp.length) :
 ∃ g cap,v=.slice (some ⟨g,0,none⟩) sp.length cap/\sp.length<=cap/\∀ j,j < sp.length->∃ x,w.cell? ⟨g,j * 2,none⟩=some (.bool (sp.getD j none).isSome)/\w.cell? ⟨g,j * 2+1,none⟩=some x/\IntsV w base x ((sp.getD j none).getD []):=by
 obtain ⟨xs,h1,h,hx⟩:=h
 subst h1
 have hc:=fun g=>World.ownsRow.cells (g:=g) h
 simp only [List.length_map] at *
 rcases h.2 with ⟨_,h0⟩ | ⟨g,cap,cur,rfl,hb,hgg,hle,hcap,_⟩
 ·omega
 ·refine ⟨g,cap,rfl,hle,fun j hj=>?_⟩
  have hadd:∀ j,(⟨g,0,none⟩:Addr).add j=⟨g,j,none⟩:=by intro j;unfold Addr.add;split <;> simp_all
  obtain ⟨k1,k2⟩:=spC_get xs j hj
  have a1:=hc g rfl _ _ k1
  have a2:=hc g rfl _ _ k2
  rw [hadd] at a1 a2
  have e:(xs.map (·.1)).getD j none=xs[j].1:=by rw [List.getD_eq_getElem?_getD,List.getElem?_map,List.getElem?_eq_getElem hj];rfl
  rw [e]
  exact ⟨_,a1,a2,hx _ (List.getElem_mem hj)⟩
set_option maxHeartbeats 1000000 in
set_option maxRecDepth 100000 in
theorem spotAt_yes (g n c k g2 m mc j xn xc:Nat) (xa:Option Addr) (b:Bool) (w:World) (hk:k < n) (hj:j < m) (hc:w.cell? ⟨g,k,none⟩=some (.slice (some ⟨g2,0,none⟩) m mc)) (h0:w.cell? ⟨g2,j * 2,none⟩=some (.bool b)) (h1:w.cell? ⟨g2,j * 2+1,none⟩=some (.slice xa xn xc)) :
 Calls Try.prog 51 #[.slice (some ⟨g,0,none⟩) n c,.int .i64 (k:Int),.int .i64 (j:Int)] w fun e w'=>e=.returned (.agg #[.bool b,.slice xa xn xc])/\Chg (fun _=>False) w w':=by
 have hk':(k:Int) < (n:Int):=by omega
 have hj':(j:Int) < (m:Int):=by omega
 have hg:=World.block_lt_of_cell? w _ hc
 have hg2:=World.block_lt_of_cell? w _ h0
 have hc':(w.alloc (Obj.cells #[.bool false,.slice none 0 0] 107)).cell? ⟨g,k,none⟩=some (.slice (some ⟨g2,0,none⟩) m mc):=(World.cell?_of_block (Below.heap_alloc _ _ _ hg)).trans hc
 have h0':(w.alloc (Obj.cells #[.bool false,.slice none 0 0] 107)).cell? ⟨g2,j * 2,none⟩=some (.bool b):=(World.cell?_of_block (Below.heap_alloc _ _ _ hg2)).trans h0
 have h1':(w.alloc (Obj.cells #[.bool false,.slice none 0 0] 107)).cell? ⟨g2,j * 2+1,none⟩=some (.slice xa xn xc):=(World.cell?_of_block (Below.heap_alloc _ _ _ (World.block_lt_of_cell? w _ h1))).trans h1
 go_enter Try.func51,Try.ntmps51
 go_wp2
 exact bodyPost_ret (v:=.agg #[.bool b,.slice xa xn xc]) (by simp [results,Try.results51,go_sem]) rfl ⟨rfl,(Chg.refl _ w).alloc _⟩
end Go.Proofs.Ytnfnbcbadakofaa
namespace Go.Proofs.Ytnfnbcbadakofaa
open Go.RowKit
def entP (f:Int) (fun_:Fn) (args:List Int):Fr:=⟨f,0,args++List.replicate (fun_.locals.length - args.length) 0,[]⟩
set_option maxHeartbeats 2000000 in
set_option maxRecDepth 100000 in
theorem entered_any (f:Int) (fn:Fn) (lv:Value) (ca:Option Addr) (cn cc:Nat) (av:Value) (args:List Int) (w:World) (b1:Nat) (hl:IntsV w b1 lv fn.locals) (ha:RdI w av args) (hll:fn.locals.length<=10000) (hal:args.length<=10000) :
 Calls Try.prog 81 #[.int .i64 f,.agg #[.int .i64 fn.args,lv,.int .i64 fn.result,.slice ca cn cc],av] w fun e w'=>∃ v,e=.returned (.agg #[.int .i64 f,.int .i64 0,v,.slice none 0 0])/\IntsV w' w.heap.size v (entP f fn args).locals/\Chg (fun _=>False) w w':=by
 obtain ⟨la,lc,rfl⟩:=hl.slice
 obtain ⟨aa,ac,rfl⟩:∃ a c,av=.slice a args.length c:=by
  rcases ha with ⟨rfl,rfl⟩ | ⟨g,o,c,rfl,_⟩
  ·exact ⟨none,0,rfl⟩
  ·exact ⟨_,_,rfl⟩
 have kb:Chg (fun _=>False) w ((w.alloc (Obj.cells #[.int .i64 fn.args,.slice la fn.locals.length lc,.int .i64 fn.result,.slice ca cn cc] 96)).alloc (Obj.cells #[.int .i64 0,.int .i64 0,.slice none 0 0,.slice none 0 0] 123)):=((Chg.refl _ w).alloc _).alloc _
 have bx:Blk ((w.alloc (Obj.cells #[.int .i64 fn.args,.slice la fn.locals.length lc,.int .i64 fn.result,.slice ca cn cc] 96)).alloc (Obj.cells #[.int .i64 0,.int .i64 0,.slice none 0 0,.slice none 0 0] 123)) w.heap.size #[.int .i64 fn.args,.slice la fn.locals.length lc,.int .i64 fn.result,.slice ca cn cc] 96:=(Blk.new w _ 96).alloc _
 have br:Blk ((w.alloc (Obj.cells #[.int .i64 fn.args,.slice la fn.locals.length lc,.int .i64 fn.result,.slice ca cn cc] 96)).alloc (Obj.cells #[.int .i64 0,.int .i64 0,.slice none 0 0,.slice none 0 0] 123)) (w.heap.size+1) #[.int .i64 0,.int .i64 0,.slice none 0 0,.slice none 0 0] 123:=Blk.new' (w:=w.alloc (Obj.cells #[.int .i64 fn.args,.slice la fn.locals.length lc,.int .i64 fn.result,.slice ca cn cc] 96)) (by simp) _ 123
 have HA:Hid (RdI ((w.alloc (Obj.cells #[.int .i64 fn.args,.slice la fn.locals.length lc,.int .i64 fn.result,.slice ca cn cc] 96)).alloc (Obj.cells #[.int .i64 0,.int .i64 0,.slice none 0 0,.slice none 0 0] 123)) (.slice aa args.length ac) args):=ha.new kb
 have HLN:Hid ((entP f fn args).locals=args++List.replicate (fn.locals.length - args.length) 0):=rfl
 clear ha hl
 go_enter Try.func81,Try.ntmps81
 go_wp2_with fail
 generalize ((w.alloc (Obj.cells #[.int .i64 fn.args,.slice la fn.locals.length lc,.int .i64 fn.result,.slice ca cn cc] 96)).alloc (Obj.cells #[.int .i64 0,.int .i64 0,.slice none 0 0,.slice none 0 0] 123))=W0 at *
 refine (joined_any _ (.slice none 0 0) args [] _ hal (by simp) HA.out (.inl ⟨rfl,rfl⟩)).mono ?_
 rintro e w1 ⟨u,rfl,hu,k1⟩
 rw [List.append_nil] at hu
 obtain ⟨ua,uc,rfl⟩:=hu.slice
 have hws:W0.heap.size<=W0.heap.size:=Nat.le_refl _
 have hbl:=bx.lt
 have hrl:=br.lt
 go_wp2_with fail
 go_loopw [7,8] (fun v iv wr=>∃ (k n:Nat) (a:Option Addr) (c:Nat),iv=.int .i64 ((args.length+k:Nat):Int)/\(k=0 \/ args.length+k<=fn.locals.length)/\v=.slice a n c/\IntsV wr W0.heap.size (.slice a n c) (args++List.replicate k 0)/\Chg (fun _=>False) W0 wr) (fun _ iv _=>fn.locals.length - (intOf iv).toNat)
 case atStart=>exact ⟨0,args.length,ua,uc,by simp,.inl rfl,rfl,by simpa using hu,k1⟩
 case round =>
  clear hu k1 HA
  obtain ⟨k,n,a,c,rfl,hk,rfl,hI,kk⟩:=hrel
  have x1:wr.cell? ⟨w.heap.size,1,none⟩=some (.slice la fn.locals.length lc):=(bx.chg kk (fun e=>e)).cell 1
  have hsz:=kk.size
  have HK:Hid (k=0 \/ args.length+k<=fn.locals.length):=hk
  clear hk
  by_cases hlt:args.length+k < fn.locals.length
  ·have hlt':((args.length+k:Nat):Int) < (fn.locals.length:Int):=by omega
   have j1:Chg (fun _=>False) wr (wr.alloc (Obj.cells #[.int .i64 0] 3)):=(Chg.refl _ wr).alloc _
   go_wp2_with (at_builtin;refine wp_app rfl _ _ rfl W0.heap.size (.slice a n c) (.slice (some ⟨wr.heap.size,0,none⟩) 1 1) (args++List.replicate k 0) [0] rfl rfl ?h1 ?h2 ?h3 ?h4 ?_)
   case h1=>exact hI.chg j1 (fun _ _ _ e=>e)
   case h2=>exact lit_rd [0] 1 rfl (by unfold maxLen;omega)
   case h3=>simp;omega
   case h4=>exact Nat.le_trans hsz j1.size
   intro a7 n7 c7 w7 hn7 hI7 hch
   have k7:=app_new hI kk j1 hch
   clear hn7 hch
   go_wp2
   refine ⟨⟨k+1,n7,a7,c7,by simp;omega,.inr (by omega),rfl,?_,k7⟩,by simp [intOf];omega⟩
   rw [List.replicate_succ'];first | exact hI7 | (rw [<-List.append_assoc];exact hI7)
  ·have hlt':(fn.locals.length:Int)<=((args.length+k:Nat):Int):=by omega
   have hk:k=fn.locals.length - args.length:=by have:=HK.out;omega
   have EK:Hid (k=fn.locals.length - args.length):=hk
   have hB:=br.chg kk (fun e=>e)
   have o0:wr.cell? ⟨w.heap.size+1,0,none⟩=some (.int .i64 0):=hB.cell 0
   have o1:wr.cell? ⟨w.heap.size+1,1,none⟩=some (.int .i64 0):=hB.cell 1
   have o2:wr.cell? ⟨w.heap.size+1,2,none⟩=some (.slice none 0 0):=hB.cell 2
   have o3:wr.cell? ⟨w.heap.size+1,3,none⟩=some (.slice none 0 0):=hB.cell 3
   have z0:=hB.frozen 0
   have z1:=hB.frozen 1
   have z2:=hB.frozen 2
   have z3:=hB.frozen 3
   clear hk hlt
   go_wp2
   have b3:=((((hB.set 0 (.int .i64 f)).set 1 (.int .i64 0)).set 2 (.slice a n c)).set 3 (.slice none 0 0))
   have hkk:=chg_set4 wr (w.heap.size+1) (.int .i64 f) (.int .i64 0) (.slice a n c) (.slice none 0 0)
   have hD:=(kb.trans kk).trans' hkk (fun i hi e=>by omega)
   have hI':=hI.chg hkk (fun g cs hb e=>hb.ne hB (by decide) e)
   generalize ((((wr.setCell ⟨w.heap.size+1,0,none⟩ (.int .i64 f)).setCell ⟨w.heap.size+1,1,none⟩ (.int .i64 0)).setCell ⟨w.heap.size+1,2,none⟩ (.slice a n c)).setCell ⟨w.heap.size+1,3,none⟩ (.slice none 0 0))=wf at *
   clear o0 o1 o2 o3 z0 z1 z2 z3
   have q0:wf.cell? ⟨w.heap.size+1,0,none⟩=some (.int .i64 f):=b3.cell 0
   have q1:wf.cell? ⟨w.heap.size+1,1,none⟩=some (.int .i64 0):=b3.cell 1
   have q2:wf.cell? ⟨w.heap.size+1,2,none⟩=some (.slice a n c):=b3.cell 2
   have q3:wf.cell? ⟨w.heap.size+1,3,none⟩=some (.slice none 0 0):=b3.cell 3
   have hek:=EK.out
   subst hek
   exact bodyPost_ret (v:=.agg #[.int .i64 f,.int .i64 0,.slice a n c,.slice none 0 0]) (by simp [results,Try.results81,go_sem,q0,q1,q2,q3]) rfl ⟨_,rfl,by rw [HLN.out];exact own_mono hI' kb.size,hD⟩
end Go.Proofs.Ytnfnbcbadakofaa
namespace Go.Proofs.Ytnfnbcbadakofaa
open Go.RowKit
structure Rn where
 heap:Int
 depth:Int
 status:Int
 words:List Int
 below:List Fr
 top:Fr
 inp:List Int
 used:Nat
 out:List Int
structure Cx where
 ls:List (List Int)
 fs:List Fn
 sps:List Spots
structure Mv where
 to:List Int
 refs:List Int
def mvP (ls:List (List Int)) (frm:List Int) (m:Mv) (ref:Int):Int × Mv:=
 if ref - 1 < 0 \/ (frm.length:Int)<=ref - 1 then (0,m)
 else if m.refs.getD (ref - 1).toNat 0 ≠ 0 then (m.refs.getD (ref - 1).toNat 0,m)
 else if (frm.length:Int) < ref+((flds ls (frm.getD (ref - 1).toNat 0)).length:Int) then (0,m)
 else ((m.to.length:Int)+1,⟨m.to++(frm.drop (ref - 1).toNat).take (1+(flds ls (frm.getD (ref - 1).toNat 0)).length),m.refs.set (ref - 1).toNat ((m.to.length:Int)+1)⟩)
def mv1 (ls:List (List Int)) (frm:List Int) (kind v:Int) (m:Mv):Int × Mv:=if kind ≠ 0 then mvP ls frm m v else (v,m)
def mvL (ls:List (List Int)) (frm:List Int) (kinds:List Int):Nat->List Int->Mv->List Int × Mv
 | _,[],m=>([],m)
 | k,v::vs,m=>((mv1 ls frm (tyAt kinds k) v m).1::(mvL ls frm kinds (k+1) vs (mv1 ls frm (tyAt kinds k) v m).2).1,(mvL ls frm kinds (k+1) vs (mv1 ls frm (tyAt kinds k) v m).2).2)
def skP (sps:List Spots) (f i:Int):List Int:=(spP sps f i).getD []
def mvFr (c:Cx) (frm:List Int) (f:Fr) (m:Mv):Fr × Mv:=
 (⟨f.fn,f.pc,(mvL c.ls frm (fnAt c.fs f.fn).locals 0 f.locals m).1,(mvL c.ls frm (skP c.sps f.fn f.pc) 0 f.stack (mvL c.ls frm (fnAt c.fs f.fn).locals 0 f.locals m).2).1⟩,
  (mvL c.ls frm (skP c.sps f.fn f.pc) 0 f.stack (mvL c.ls frm (fnAt c.fs f.fn).locals 0 f.locals m).2).2)
def mvFrs (c:Cx) (frm:List Int):List Fr->Mv->List Fr × Mv
 | [],m=>([],m)
 | f::fs,m=>((mvFr c frm f m).1::(mvFrs c frm fs (mvFr c frm f m).2).1,(mvFrs c frm fs (mvFr c frm f m).2).2)
def mvW (ls:List (List Int)) (frm:List Int):Nat->Nat->List Int->Nat->Mv->Mv
 | 0,_,_,_,m=>m
 | n+1,k,kinds,left,m =>
  if k < m.to.length then
   if left=0 then mvW ls frm n (k+1) (flds ls (m.to.getD k 0)) (flds ls (m.to.getD k 0)).length m
   else if tyAt kinds ((kinds.length:Int) - left) ≠ 0 then
    mvW ls frm n (k+1) kinds (left - 1) ⟨(mvP ls frm m (m.to.getD k 0)).2.to.set k (mvP ls frm m (m.to.getD k 0)).1,(mvP ls frm m (m.to.getD k 0)).2.refs⟩
   else mvW ls frm n (k+1) kinds (left - 1) m
  else m
def mvA (c:Cx) (R:Rn):(List Fr × Fr) × Mv:=
 let b:=mvFrs c R.words R.below ⟨[],List.replicate R.words.length 0⟩
 let t:=mvFr c R.words R.top b.2
 ((b.1,t.1),mvW c.ls R.words (6 * R.words.length) 0 [] 0 t.2)
def clrP (c:Cx) (R:Rn):Rn:={ R with words:=(mvA c R).2.to,below:=(mvA c R).1.1,top:=(mvA c R).1.2 }
def popV (s:List Int):Int:=s.getLastD 0
def pushF (f:Fr) (v:Int):Fr:={ f with stack:=f.stack++[v] }
def popF (f:Fr):Fr:={ f with stack:=f.stack.dropLast }
def popN (s:List Int) (n:Nat):List Int:=if s.length < n then [] else s.drop (s.length - n)
def resN (s:List Int) (n:Nat):List Int:=if s.length < n then s else s.take (s.length - n)
def recP (op a b:Int):Int:=
 if op=1 then (a+b) % 65536 else if op=2 then (a - b) % 65536 else if op=3 then (a * b) % 65536 else if op=4 then (if a < b then 1 else 0) else if a=b then 1 else 0
def uvP (x:Int × Int × Int) (R:Rn):Rn:=
 if x.1=0 then { R with top:=pushF R.top x.2.1 }
 else if x.1=1 \/ x.1=2 \/ x.1=3 \/ x.1=4 \/ x.1=12 then { R with top:=pushF (popF (popF R.top)) (recP x.1 (popV R.top.stack.dropLast) (popV R.top.stack)) }
 else if x.1=5 then { R with top:=pushF R.top (tyAt R.top.locals x.2.1) }
 else if x.1=6 then { R with top:={ popF R.top with locals:=if 0<=x.2.1/\x.2.1 < (R.top.locals.length:Int) then R.top.locals.set x.2.1.toNat (popV R.top.stack) else R.top.locals } }
 else if x.1=10 then { R with top:=pushF R.top 0 }
 else if x.1=11 then { R with top:=pushF (popF R.top) (if popV R.top.stack=0 then 1 else 0) }
 else if x.1=17 then { R with top:=popF R.top,out:=R.out++[popV R.top.stack] }
 else if x.1=18 then { R with top:=pushF R.top (R.inp.getD R.used 0 % 65536),used:=R.used+1 }
 else R
def mr2P (c:Cx) (t:Int) (R:Rn):Rn:=
 if R.heap < (R.words.length:Int)+((flds c.ls t).length:Int)+1 then { R with status:=4 }
 else { R with words:=R.words++t::popN R.top.stack (flds c.ls t).length,top:={ R.top with stack:=resN R.top.stack (flds c.ls t).length++[(R.words.length:Int)+1] } }
def mrP (c:Cx) (t:Int) (R:Rn):Rn:=
 mr2P c t (if R.heap < (R.words.length:Int)+((flds c.ls t).length:Int)+1 then clrP c R else R)
def urP (c:Cx) (x:Int × Int × Int) (R:Rn):Rn:=
 if x.1=7 then mrP c x.2.1 R
 else if x.1=8 then
  if popV R.top.stack=0 then { R with top:=popF R.top,status:=3 }
  else { R with top:=pushF (popF R.top) (tyAt R.words (popV R.top.stack+x.2.2)) }
 else
  if popV R.top.stack.dropLast=0 then { R with top:=popF (popF R.top),status:=3 }
  else { R with top:=popF (popF R.top),words:=if 0<=popV R.top.stack.dropLast+x.2.2/\popV R.top.stack.dropLast+x.2.2 < (R.words.length:Int) then R.words.set (popV R.top.stack.dropLast+x.2.2).toNat (popV R.top.stack) else R.words }
def clP (c:Cx) (f:Int) (R:Rn):Rn:=
 if R.depth<=(R.below.length:Int)+1 then { R with status:=5 }
 else { R with below:=R.below++[{ R.top with stack:=resN R.top.stack (argsF c.fs f).length }],top:=entP f (fnAt c.fs f) (popN R.top.stack (argsF c.fs f).length) }
def gbP (R:Rn):Rn:=
 if h:R.below=[] then { R with top:=popF R.top,out:=R.out++[popV R.top.stack],status:=1 }
 else { R with below:=R.below.dropLast,top:={ pushF (R.below.getLast h) (popV R.top.stack) with pc:=(R.below.getLast h).pc+1 } }
def incF (f:Fr):Fr:={ f with pc:=f.pc+1 }
def incR (R:Rn):Rn:={ R with top:=incF R.top }
def doP (c:Cx) (x:Int × Int × Int) (R:Rn):Rn:=
 if x.1=13 then { R with top:={ R.top with pc:=x.2.1 } }
 else if x.1=14 then { R with top:={ popF R.top with pc:=if popV R.top.stack=0 then x.2.1 else R.top.pc+1 } }
 else if x.1=15 then clP c x.2.1 R
 else if x.1=16 then gbP R
 else if x.1=7 \/ x.1=8 \/ x.1=9 then incR (urP c x R)
 else incR (uvP x R)
def insP (f:Fn) (i:Int):Int × Int × Int:=if i < 0 \/ (f.code.length:Int)<=i then (0,0,0) else f.code.getD i.toNat (0,0,0)
def nxtP (c:Cx) (R:Rn):Int × Int × Int:=insP (fnAt c.fs R.top.fn) R.top.pc
def goOnP (c:Cx):Nat->Rn->Rn × Int
 | 0,R=>(R,R.status)
 | n+1,R=>if R.status ≠ 0 then (R,R.status) else if (nxtP c R).1=18/\R.inp.length<=R.used then (R,2) else goOnP c n (doP c (nxtP c R) R)
end Go.Proofs.Ytnfnbcbadakofaa
namespace Go.Proofs.Ytnfnbcbadakofaa
open Go.RowKit
def recO (ls:List (List Int)):Nat->List Int->List (Option Int)
 | _,[]=>[]
 | 0,w::ws=>some w::recO ls (flds ls w).length ws
 | l+1,_::ws=>none::recO ls l ws
def recL (ls:List (List Int)) (n:Nat) (ws:List Int):List Int:=(recO ls n ws).map fun x=>x.getD 0
def badV (recs:List Int) (kind v:Int):Bool:=decide (kind ≠ 0) && decide (v ≠ 0) && decide (tyAt recs (v - 1) ≠ kind)
def tvP (ns recs:List Int):List Int->Nat × Bool->List Int × (Nat × Bool)
 | [],s=>([],s)
 | k::ks,s=>((tk ns 0 65535 s).1::(tvP ns recs ks ((tk ns 0 65535 s).2.1,(tk ns 0 65535 s).2.2 || badV recs k (tk ns 0 65535 s).1)).1,(tvP ns recs ks ((tk ns 0 65535 s).2.1,(tk ns 0 65535 s).2.2 || badV recs k (tk ns 0 65535 s).1)).2)
def twP (ls:List (List Int)) (ws recs:List Int):Nat->Nat × Bool->Nat × Bool
 | 0,s=>s
 | n+1,s=>if s.1 < ws.length/\s.2=false then twP ls ws recs n (tvP ws recs (flds ls (tk ws 1 ls.length s).1) (tk ws 1 ls.length s).2).2 else s
def twsP (c:Cx) (ns:List Int) (heap:Int) (s:Nat × Bool):List Int × (Nat × Bool):=
 let k:=tk ns 0 heap s
 let ws:=tkL ns 65535 k.1.toNat k.2
 (ws.1,(ws.2.1,ws.2.2 || (twP c.ls ws.1 (recL c.ls 0 ws.1) ws.1.length (0,false)).2))
def tfP (c:Cx) (ns recs:List Int) (f:Int) (waits:Bool) (s:Nat × Bool):Fr × (Nat × Bool):=
 let fn:=fnAt c.fs f
 let a:=tk ns 0 ((fn.code.length:Int) - 1) s
 let x:=insP fn a.1
 let p:=spP c.sps f a.1
 let ks:=if waits then frontP (p.getD []) (((p.getD []).length:Int) - ((ahead c.ls c.fs fn x.1 x.2.1 x.2.2).length:Int)) else p.getD []
 let l:=tvP ns recs fn.locals (a.2.1,a.2.2 || (!p.isSome || (waits && decide (x.1 ≠ 15))))
 let k:=tvP ns recs ks l.2
 (⟨f,a.1,l.1,k.1⟩,k.2)
def tfsP (c:Cx) (ns recs:List Int):Nat->Int->Nat × Bool->List Fr × Int × (Nat × Bool)
 | 0,f,s=>([],f,s)
 | n+1,f,s=>((tfP c ns recs f true s).1::(tfsP c ns recs n (insP (fnAt c.fs f) (tfP c ns recs f true s).1.pc).2.1 (tfP c ns recs f true s).2).1,(tfsP c ns recs n (insP (fnAt c.fs f) (tfP c ns recs f true s).1.pc).2.1 (tfP c ns recs f true s).2).2)
def tfrP (c:Cx) (ns recs:List Int) (depth:Int) (s:Nat × Bool):(List Fr × Fr) × (Nat × Bool):=
 let k:=tk ns 1 depth s
 let b:=tfsP c ns recs (k.1 - 1).toNat 0 k.2
 let t:=tfP c ns recs b.2.1 false b.2.2
 ((b.1,t.1),t.2)
def thP (ms ns:List Int) (s:Nat × Bool):(Int × Int × Int) × (Nat × Bool):=
 let m:=ms.foldl (fun s m=>(tk ns m m s).2) s
 let h:=tk ns 0 4000 m
 let d:=tk ns 1 64 h.2
 let st:=tk ns 0 5 d.2
 ((h.1,d.1,st.1),(st.2.1,st.2.2 || decide (st.1=2)))
def tuR (c:Cx) (ms ns:List Int):Rn × (Nat × Bool):=
 let h:=thP ms ns (0,false)
 if h.1.2.2=0 then
  let w:=twsP c ns h.1.1 h.2
  let f:=tfrP c ns (recL c.ls 0 w.1) h.1.2.1 w.2
  (⟨h.1.1,h.1.2.1,0,w.1,f.1.1,f.1.2,[],0,[]⟩,f.2)
 else (⟨h.1.1,h.1.2.1,h.1.2.2,[],[],⟨0,0,[],[]⟩,[],0,[]⟩,h.2)
def tuP (c:Cx) (ms ns:List Int):Option Rn:=if (tuR c ms ns).2.2=true \/ (tuR c ms ns).2.1 < ns.length then none else some (tuR c ms ns).1
def goStP (c:Cx) (R:Rn) (inp:List Int) (fuel:Nat):Rn × Int:=goOnP c fuel { R with inp:=inp }
end Go.Proofs.Ytnfnbcbadakofaa
