import Derived.Test.YtnfnbcbadakofabPro
import Derived.Laws.AppendOwnNone
import Derived.Deep.RegionWith
namespace Go.Proofs.Ytnfnbcbadakofab
open Go.RowKit
set_option maxHeartbeats 1000000
set_option maxRecDepth 100000
def bl (s:ByteArray):List Int:=s.data.toList.map fun b=>(b.toNat:Int)
theorem bl_len (s:ByteArray):(bl s).length=s.size:=by simp [bl]
theorem bl_snoc (s:ByteArray) (k:Nat) (h:k < s.size):(bl s).take (k+1)=(bl s).take k++[(s[k].toNat:Int)]:=by
 have hk:k < (bl s).length:=by rw [bl_len];exact h
 rw [List.take_succ_eq_append_getElem hk]
 congr 1
 simp [bl];rfl
theorem wrap64_byte (b:UInt8):wrap64 (b.toNat:Int)=(b.toNat:Int):=by unfold wrap64;have:=b.toNat_lt;omega
theorem bytesOf_any (s:ByteArray) (w:World) (hs:s.size<=800) :
 Calls Try.prog 47 #[.string s] w fun e w'=>∃ v,e=.returned v/\IntsV w' w.heap.size v (bl s)/\Chg () w w':=by
 obtain ⟨i,hi1,hi2,hi3,hi4⟩:=info3
 have Hi1:=hid hi1
 have Hi2:=hid hi2
 have Hi3:=hid hi3
 have Hi4:=hid hi4
 clear hi1 hi2 hi3 hi4
 go_enter Try.func47,Try.ntmps47
 go_wp2
 go_loopw [3,4] (fun v i wr=>∃ k:Nat,k<=s.size/\i=.int .i64 k/\IntsV wr w.heap.size v ((bl s).take k)/\Chg () w wr) (fun _ i _=>s.size - (intOf i).toNat)
 case atStart=>exact ⟨0,Nat.zero_le _,rfl,World.ownsRow_nil _ _ _ _,Chg.refl _ _⟩
 case round =>
  obtain ⟨k,hk,rfl,hown,hch⟩:=hrel
  have hlen:((bl s).take k).length=k:=by rw [List.length_take,bl_len];omega
  have HL:=hid hlen
  clear hlen
  by_cases hlt:k < s.size
  ·have HS:Hid ((bl s).take (k+1)=(bl s).take k++[(s[k].toNat:Int)]):=bl_snoc s k hlt
   generalize (bl s).take k=T at *
   have hsz:w.heap.size<=wr.heap.size:=hch.size
   go_wp2_with (at_builtin;refine wpList_append_lies _ rfl _ _ 24 rfl w.heap.size 3 i (.int .i64 0) 1 8 Try.underlying24 Hi1.out Hi2.out Hi3.out Hi4.out rfl (by decide) _ _ _ rfl (World.ownsRow.alloc hown _) ⟨wr.heap.size,0,none⟩ 1 1 [.int .i64 (wrap64 (s[k].toNat:Int))] rfl rfl ?c1 ?c2 (by decide) ?c3 ?c4 ?c5 _ rfl ?_)
   case c1=>exact cell_one_new _ _ _
   case c2=>intro u hu;simp at hu;subst hu;rfl
   case c3=>rw [HL.out];unfold maxLen;omega
   case c4=>rw [HL.out];omega
   case c5=>simp;omega
   ·intro g cap w2 hown2 hgrow hat hlt2
    go_wp2
    have hch2:Chg () w w2:=((hch.alloc _).grown hgrow (fun k hk=>.inr (hown.lt k hk).1))
    refine ⟨⟨k+1,by omega,rfl,?_,hch2⟩,by simp [intOf];omega⟩
    rw [HS.out]
    rw [wrap64_byte] at hown2
    unfold IntsV
    simp only [ints,List.map_append,List.length_append,List.map_cons,List.map_nil,List.length_cons,List.length_nil] at hown2 ⊢
    exact hown2
  ·go_wp2
   go_ret
   refine ⟨_,rfl,?_,hch⟩
   rwa [List.take_of_length_le (by rw [bl_len];omega)] at hown
def rdP (ns:List Int):Int × Int × Pg:=
 let r:=tkP ns (0,false)
 if r.2.2=true \/ r.2.1 < ns.length then (2,r.2.1,⟨[],[]⟩) else (0,0,r.1)
theorem chg_set5 (w:World) (b:Nat) (x y z u t:Value):Chg (fun k=>k=b) w (((((w.setCell ⟨b,0,none⟩ x).setCell ⟨b,1,none⟩ y).setCell ⟨b,2,none⟩ z).setCell ⟨b,3,none⟩ u).setCell ⟨b,4,none⟩ t):=
 (chg_set4 w b x y z u).setCell _ _ (.inl rfl)
theorem readProg_any (nv:Value) (ns:List Int) (w:World) (base:Nat) (hns:IntsV w base nv ns) (hl:ns.length<=10000) :
 Calls Try.prog 48 #[nv] w fun e w'=>∃ tv fv,e=.returned (.agg #[tv,fv,(),.int .i64 (rdP ns).1,.int .i64 (rdP ns).2.1])/\TypesV w' w.heap.size tv (rdP ns).2.2.types/\FuncsV 78 93 w' w.heap.size fv (rdP ns).2.2.funcs /\
  ((rdP ns).1 ≠ 0->tv=.slice none 0 0/\fv=.slice none 0 0)/\Chg () w w':=by
 obtain ⟨na,nc,rfl⟩:=hns.slice
 go_enter Try.func48,Try.ntmps48
 go_wp2_with fail
 have ka:Chg () w ((w.alloc (Obj.cells #[(),(),(),oO,oO] 59)).alloc (Obj.cells #[.slice na ns.length nc,oO,.bool false] 88)):=((Chg.refl _ w).alloc _).alloc _
 have bo:=(Blk.new w #[.slice none 0 0,.slice none 0 0,.slice none 0 0,.int .i64 0,.int .i64 0] 59).alloc (Obj.cells #[.slice na ns.length nc,oO,.bool false] 88)
 have br:Rd _ (w.heap.size+1) (.slice na ns.length nc) (0,false):=Blk.new' (w:=w.alloc (Obj.cells #[(),(),(),oO,oO] 59)) (by simp) #[.slice na ns.length nc,oO,.bool false] 88
 have hrs:RS _ (w.heap.size+1) (.slice na ns.length nc) ns (0,false):=⟨br,own_mono (IntsV.chg hns ka (fun _ _ _ e=>e)) (Nat.zero_le _)⟩
 have hsz0:w.heap.size+2=((w.alloc (Obj.cells #[(),(),(),oO,oO] 59)).alloc (Obj.cells #[.slice na ns.length nc,oO,.bool false] 88)).heap.size:=by simp
 generalize ((w.alloc (Obj.cells #[(),(),(),oO,oO] 59)).alloc (Obj.cells #[.slice na ns.length nc,oO,.bool false] 88))=w0 at *
 refine (takeProg_any (w.heap.size+1) (.slice na ns.length nc) ns (0,false) w0 hrs hl).mono ?_
 rintro e w1 ⟨tv,fv,rfl,hty,hfv,hrs1,hch⟩
 generalize hP:tkP ns (0,false)=P at *
 have HR:Hid (rdP ns=if P.2.2=true \/ P.2.1 < ns.length then (2,(P.2.1:Int),⟨[],[]⟩) else (0,0,P.1)):=by subst hP;rfl
 clear hP
 obtain ⟨P1,pat,pst⟩:=P
 have bo1:=bo.chg hch (by omega)
 have ch1:Chg () w w1:=ka.trans' hch (fun i hi e=>by omega)
 have hty1:TypesV w1 w.heap.size tv P1.types:=hty.mono (by omega)
 have hfv1:FuncsV 78 93 w1 w.heap.size fv P1.funcs:=hfv.mono (by omega)
 obtain ⟨ta,tc,rfl⟩:=hty1.slice
 obtain ⟨fa,fc,rfl⟩:=hfv1.slice
 clear bo br hrs hch ka hty hfv hns hsz0
 have c0:w1.cell? ⟨w.heap.size+1,0,none⟩=some (.slice na ns.length nc):=hrs1.1.cell 0
 have c1:w1.cell? ⟨w.heap.size+1,1,none⟩=some (.int .i64 pat):=hrs1.1.cell 1
 have c2:w1.cell? ⟨w.heap.size+1,2,none⟩=some (.bool pst):=hrs1.1.cell 2
 have o0:w1.cell? ⟨w.heap.size,0,none⟩=some (.slice none 0 0):=bo1.cell 0
 have o1:w1.cell? ⟨w.heap.size,1,none⟩=some (.slice none 0 0):=bo1.cell 1
 have o2:w1.cell? ⟨w.heap.size,2,none⟩=some (.slice none 0 0):=bo1.cell 2
 have o3:w1.cell? ⟨w.heap.size,3,none⟩=some (.int .i64 0):=bo1.cell 3
 have o4:w1.cell? ⟨w.heap.size,4,none⟩=some (.int .i64 0):=bo1.cell 4
 have z0:=bo1.frozen 0
 have z1:=bo1.frozen 1
 have z2:=bo1.frozen 2
 have z3:=bo1.frozen 3
 have z4:=bo1.frozen 4
 have hlt1:=hrs1.lt
 have hlt0:=bo1.lt
 cases pst with
 | true =>
  go_wp2
  have b3:=(((((bo1.set 0 (.slice none 0 0)).set 1 (.slice none 0 0)).set 2 (.slice none 0 0)).set 3 (.int .i64 2)).set 4 (.int .i64 pat)).alloc (Obj.cells #[.slice ta P1.types.length tc,.slice fa P1.funcs.length fc] 56)
  have hch4:=chg_set5 w1 w.heap.size (.slice none 0 0) (.slice none 0 0) (.slice none 0 0) (.int .i64 2) (.int .i64 pat)
  have hch5:=hch4.alloc (Obj.cells #[.slice ta P1.types.length tc,.slice fa P1.funcs.length fc] 56)
  generalize ((((((w1.setCell ⟨w.heap.size,0,none⟩ ()).setCell ⟨w.heap.size,1,none⟩ ()).setCell ⟨w.heap.size,2,none⟩ ()).setCell ⟨w.heap.size,3,none⟩ (2:Int)).setCell ⟨w.heap.size,4,none⟩ pat).alloc (Obj.cells #[.slice ta P1.types.length tc,.slice fa P1.funcs.length fc] 56))=wf at *
  have hD:Chg () w wf:=ch1.trans' hch5 (fun i hi e=>by omega)
  have hA:TypesV wf w.heap.size (.slice ta P1.types.length tc) P1.types:=hty1.chg hch5 (fun g cs hb e=>hb.ne bo1 (by decide) e) (fun g cs hb e=>hb.ne bo1 (by decide) e)
  have hB:FuncsV 78 93 wf w.heap.size (.slice fa P1.funcs.length fc) P1.funcs:=hfv1.chg hch5 (fun g cs hb e=>hb.ne bo1 (by decide) e) (fun g cs hb e=>hb.ne bo1 (by decide) e) (fun g cs hb e=>hb.ne bo1 (by decide) e)
  clear c0 c1 c2 o0 o1 o2 o3 o4 z0 z1 z2 z3 z4 hch4 hch5
  have q0:wf.cell? ⟨w.heap.size,0,none⟩=some ((.slice none 0 0)):=b3.cell 0
  have q1:wf.cell? ⟨w.heap.size,1,none⟩=some ((.slice none 0 0)):=b3.cell 1
  have q2:wf.cell? ⟨w.heap.size,2,none⟩=some (.slice none 0 0):=b3.cell 2
  have q3:wf.cell? ⟨w.heap.size,3,none⟩=some ((.int .i64 2)):=b3.cell 3
  have q4:wf.cell? ⟨w.heap.size,4,none⟩=some ((.int .i64 pat)):=b3.cell 4
  have hr:rdP ns=(2,(pat:Int),⟨[],[]⟩):=by rw [HR.out];simp
  rw [hr]
  exact bodyPost_ret (v:=.agg #[(.slice none 0 0),(.slice none 0 0),(.slice none 0 0),(.int .i64 2),(.int .i64 pat)]) (by simp [results,Try.results48,go_sem,q0,q1,q2,q3,q4]) rfl ⟨_,_,rfl,TypesV.nil _ _,FuncsV.nil _ _ _ _,fun _=>⟨rfl,rfl⟩,hD⟩
 | false =>
  by_cases hat:pat < ns.length
  ·have hat':(pat:Int) < (ns.length:Int):=by omega
   go_wp2
   have b3:=(((((bo1.set 0 (.slice none 0 0)).set 1 (.slice none 0 0)).set 2 (.slice none 0 0)).set 3 (.int .i64 2)).set 4 (.int .i64 pat)).alloc (Obj.cells #[.slice ta P1.types.length tc,.slice fa P1.funcs.length fc] 56)
   have hch4:=chg_set5 w1 w.heap.size (.slice none 0 0) (.slice none 0 0) (.slice none 0 0) (.int .i64 2) (.int .i64 pat)
   have hch5:=hch4.alloc (Obj.cells #[.slice ta P1.types.length tc,.slice fa P1.funcs.length fc] 56)
   generalize ((((((w1.setCell ⟨w.heap.size,0,none⟩ ()).setCell ⟨w.heap.size,1,none⟩ ()).setCell ⟨w.heap.size,2,none⟩ ()).setCell ⟨w.heap.size,3,none⟩ (2:Int)).setCell ⟨w.heap.size,4,none⟩ pat).alloc (Obj.cells #[.slice ta P1.types.length tc,.slice fa P1.funcs.length fc] 56))=wf at *
   have hD:Chg () w wf:=ch1.trans' hch5 (fun i hi e=>by omega)
   have hA:TypesV wf w.heap.size (.slice ta P1.types.length tc) P1.types:=hty1.chg hch5 (fun g cs hb e=>hb.ne bo1 (by decide) e) (fun g cs hb e=>hb.ne bo1 (by decide) e)
   have hB:FuncsV 78 93 wf w.heap.size (.slice fa P1.funcs.length fc) P1.funcs:=hfv1.chg hch5 (fun g cs hb e=>hb.ne bo1 (by decide) e) (fun g cs hb e=>hb.ne bo1 (by decide) e) (fun g cs hb e=>hb.ne bo1 (by decide) e)
   clear c0 c1 c2 o0 o1 o2 o3 o4 z0 z1 z2 z3 z4 hch4 hch5
   have q0:wf.cell? ⟨w.heap.size,0,none⟩=some ((.slice none 0 0)):=b3.cell 0
   have q1:wf.cell? ⟨w.heap.size,1,none⟩=some ((.slice none 0 0)):=b3.cell 1
   have q2:wf.cell? ⟨w.heap.size,2,none⟩=some (.slice none 0 0):=b3.cell 2
   have q3:wf.cell? ⟨w.heap.size,3,none⟩=some ((.int .i64 2)):=b3.cell 3
   have q4:wf.cell? ⟨w.heap.size,4,none⟩=some ((.int .i64 pat)):=b3.cell 4
   have hr:rdP ns=(2,(pat:Int),⟨[],[]⟩):=by rw [HR.out];simp [hat]
   rw [hr]
   exact bodyPost_ret (v:=.agg #[(.slice none 0 0),(.slice none 0 0),(.slice none 0 0),(.int .i64 2),(.int .i64 pat)]) (by simp [results,Try.results48,go_sem,q0,q1,q2,q3,q4]) rfl ⟨_,_,rfl,TypesV.nil _ _,FuncsV.nil _ _ _ _,fun _=>⟨rfl,rfl⟩,hD⟩
  ·have hat':(ns.length:Int)<=(pat:Int):=by omega
   go_wp2
   have b3:=(((((bo1.set 0 (.slice ta P1.types.length tc)).set 1 (.slice fa P1.funcs.length fc)).set 2 (.slice none 0 0)).set 3 (.int .i64 0)).set 4 (.int .i64 0)).alloc (Obj.cells #[.slice ta P1.types.length tc,.slice fa P1.funcs.length fc] 56)
   have hch4:=chg_set5 w1 w.heap.size (.slice ta P1.types.length tc) (.slice fa P1.funcs.length fc) (.slice none 0 0) (.int .i64 0) (.int .i64 0)
   have hch5:=hch4.alloc (Obj.cells #[.slice ta P1.types.length tc,.slice fa P1.funcs.length fc] 56)
   generalize ((((((w1.setCell ⟨w.heap.size,0,none⟩ (.slice ta P1.types.length tc)).setCell ⟨w.heap.size,1,none⟩ (.slice fa P1.funcs.length fc)).setCell ⟨w.heap.size,2,none⟩ ()).setCell ⟨w.heap.size,3,none⟩ oO).setCell ⟨w.heap.size,4,none⟩ oO).alloc (Obj.cells #[.slice ta P1.types.length tc,.slice fa P1.funcs.length fc] 56))=wf at *
   have hD:Chg () w wf:=ch1.trans' hch5 (fun i hi e=>by omega)
   have hA:TypesV wf w.heap.size (.slice ta P1.types.length tc) P1.types:=hty1.chg hch5 (fun g cs hb e=>hb.ne bo1 (by decide) e) (fun g cs hb e=>hb.ne bo1 (by decide) e)
   have hB:FuncsV 78 93 wf w.heap.size (.slice fa P1.funcs.length fc) P1.funcs:=hfv1.chg hch5 (fun g cs hb e=>hb.ne bo1 (by decide) e) (fun g cs hb e=>hb.ne bo1 (by decide) e) (fun g cs hb e=>hb.ne bo1 (by decide) e)
   clear c0 c1 c2 o0 o1 o2 o3 o4 z0 z1 z2 z3 z4 hch4 hch5
   have q0:wf.cell? ⟨w.heap.size,0,none⟩=some ((.slice ta P1.types.length tc)):=b3.cell 0
   have q1:wf.cell? ⟨w.heap.size,1,none⟩=some ((.slice fa P1.funcs.length fc)):=b3.cell 1
   have q2:wf.cell? ⟨w.heap.size,2,none⟩=some (.slice none 0 0):=b3.cell 2
   have q3:wf.cell? ⟨w.heap.size,3,none⟩=some ((.int .i64 0)):=b3.cell 3
   have q4:wf.cell? ⟨w.heap.size,4,none⟩=some ((.int .i64 0)):=b3.cell 4
   have hr:rdP ns=(0,0,P1):=by rw [HR.out];simp [hat]
   rw [hr]
   exact bodyPost_ret (v:=.agg #[(.slice ta P1.types.length tc),(.slice fa P1.funcs.length fc),(.slice none 0 0),(.int .i64 0),(.int .i64 0)]) (by simp [results,Try.results48,go_sem,q0,q1,q2,q3,q4]) rfl ⟨_,_,rfl,hA,hB,fun e=>absurd rfl e,hD⟩
end Go.Proofs.Ytnfnbcbadakofab
namespace Go.Proofs.Ytnfnbcbadakofab
open Go.RowKit
set_option maxHeartbeats 1000000
set_option maxRecDepth 100000
def opn (s:ByteArray):Int × Int × Pg:=if 800 < s.size then (1,0,⟨[],[]⟩) else rdP (bl s)
theorem open_any (s:ByteArray) (w:World) :
 Calls Try.prog 30 #[.string s] w fun e w'=>∃ tv fv,e=.returned (.agg #[tv,fv,(),.int .i64 (opn s).1,.int .i64 (opn s).2.1])/\TypesV w' w.heap.size tv (opn s).2.2.types/\FuncsV 78 93 w' w.heap.size fv (opn s).2.2.funcs /\
  ((opn s).1 ≠ 0->tv=.slice none 0 0/\fv=.slice none 0 0)/\Chg () w w':=by
 have bo:=Blk.new w #[.slice none 0 0,.slice none 0 0,.slice none 0 0,.int .i64 0,.int .i64 0] 59
 have ka:Chg () w (w.alloc (Obj.cells #[(),(),(),oO,oO] 59)):=(Chg.refl _ w).alloc _
 by_cases hs:800 < s.size
 ·have ho:opn s=(1,0,⟨[],[]⟩):=by unfold opn;rw [if_pos hs]
  rw [ho]
  clear ho
  go_enter Try.func30,Try.ntmps30
  go_wp2
  exact bodyPost_ret (v:=.agg #[(),(),(),(1:Int),oO]) (by simp [results,Try.results30,go_sem]) rfl ⟨_,_,rfl,TypesV.nil _ _,FuncsV.nil _ _ _ _,fun _=>⟨rfl,rfl⟩,(Chg.refl _ w).alloc _⟩
 ·have ho:opn s=rdP (bl s):=by unfold opn;rw [if_neg hs]
  rw [ho]
  clear ho
  generalize hR:rdP (bl s)=R
  have HR:=hid hR
  clear hR
  go_enter Try.func30,Try.ntmps30
  go_wp2_with fail
  refine (bytesOf_any s _ (by omega)).mono ?_
  rintro e w1 ⟨nv,rfl,hnv,hch⟩
  have bo1:=bo.chg hch (fun e=>e)
  have k1:=ka.trans hch
  clear bo ka hch
  obtain ⟨na,nc,rfl⟩:=hnv.slice
  go_wp2_with fail
  refine (readProg_any _ (bl s) _ _ hnv (by rw [bl_len];omega)).mono ?_
  rw [HR.out]
  rintro e w2 ⟨tv,fv,rfl,hty,hfv,hnil,hch⟩
  have bo2:=bo1.chg hch (fun e=>e)
  have k2:=k1.trans hch
  have hty2:TypesV w2 w.heap.size tv R.2.2.types:=hty.mono k1.size
  have hfv2:FuncsV 78 93 w2 w.heap.size fv R.2.2.funcs:=hfv.mono k1.size
  have HN:=hid hnil
  clear bo1 k1 hch hty hfv hnv hnil
  obtain ⟨ta,tc,rfl⟩:=hty2.slice
  obtain ⟨fa,fc,rfl⟩:=hfv2.slice
  have o0:w2.cell? ⟨w.heap.size,0,none⟩=some (.slice none 0 0):=bo2.cell 0
  have o1:w2.cell? ⟨w.heap.size,1,none⟩=some (.slice none 0 0):=bo2.cell 1
  have o2:w2.cell? ⟨w.heap.size,2,none⟩=some (.slice none 0 0):=bo2.cell 2
  have o3:w2.cell? ⟨w.heap.size,3,none⟩=some (.int .i64 0):=bo2.cell 3
  have o4:w2.cell? ⟨w.heap.size,4,none⟩=some (.int .i64 0):=bo2.cell 4
  have z0:=bo2.frozen 0
  have z1:=bo2.frozen 1
  have z2:=bo2.frozen 2
  have z3:=bo2.frozen 3
  have z4:=bo2.frozen 4
  have hlt0:=bo2.lt
  go_wp2
  have b3:=(((((bo2.set 0 (.slice ta R.2.2.types.length tc)).set 1 (.slice fa R.2.2.funcs.length fc)).set 2 (.slice none 0 0)).set 3 (.int .i64 R.1)).set 4 (.int .i64 R.2.1))
  have hch4:=chg_set5 w2 w.heap.size (.slice ta R.2.2.types.length tc) (.slice fa R.2.2.funcs.length fc) (.slice none 0 0) (.int .i64 R.1) (.int .i64 R.2.1)
  generalize ((((w2.setCell ⟨w.heap.size,0,none⟩ (.slice ta R.2.2.types.length tc)).setCell ⟨w.heap.size,1,none⟩ (.slice fa R.2.2.funcs.length fc)).setCell ⟨w.heap.size,2,none⟩ ()).setCell ⟨w.heap.size,3,none⟩ R.1).setCell ⟨w.heap.size,4,none⟩ R.2.1=wf at *
  have hD:Chg () w wf:=k2.trans' hch4 (fun i hi e=>by omega)
  have hA:=hty2.chg hch4 (fun g cs hb e=>hb.ne bo2 (by decide) e) (fun g cs hb e=>hb.ne bo2 (by decide) e)
  have hB:=hfv2.chg hch4 (fun g cs hb e=>hb.ne bo2 (by decide) e) (fun g cs hb e=>hb.ne bo2 (by decide) e) (fun g cs hb e=>hb.ne bo2 (by decide) e)
  clear o0 o1 o2 o3 o4 z0 z1 z2 z3 z4 hch4
  have q0:wf.cell? ⟨w.heap.size,0,none⟩=some (.slice ta R.2.2.types.length tc):=b3.cell 0
  have q1:wf.cell? ⟨w.heap.size,1,none⟩=some (.slice fa R.2.2.funcs.length fc):=b3.cell 1
  have q2:wf.cell? ⟨w.heap.size,2,none⟩=some (.slice none 0 0):=b3.cell 2
  have q3:wf.cell? ⟨w.heap.size,3,none⟩=some (.int .i64 R.1):=b3.cell 3
  have q4:wf.cell? ⟨w.heap.size,4,none⟩=some (.int .i64 R.2.1):=b3.cell 4
  exact bodyPost_ret (v:=.agg #[.slice ta R.2.2.types.length tc,.slice fa R.2.2.funcs.length fc,(),R.1,R.2.1]) (by simp [results,Try.results30,go_sem,q0,q1,q2,q3,q4]) rfl ⟨_,_,rfl,hA,hB,HN.out,hD⟩
end Go.Proofs.Ytnfnbcbadakofab
namespace Go.Proofs.Ytnfnbcbadakofab
open Go.RowKit
set_option maxHeartbeats 400000
set_option maxRecDepth 100000
def RdI (w:World) (v:Value) (l:List Int):Prop:=
 (v=.slice none 0 0/\l=[]) \/ ∃ g off cap,v=.slice (some ⟨g,off,none⟩) l.length cap/\l.length<=cap/\cap<=maxLen/\∀ j,j < l.length->w.cell? ⟨g,off+j,none⟩=some (.int .i64 (l.getD j 0))
theorem IntsV.rdI {w:World} {base:Nat} {v:Value} {l:List Int} (h:IntsV w base v l):RdI w v l:=by
 by_cases h0:0 < l.length
 ·obtain ⟨g,cap,hv,_,hle,hcap,hc⟩:=h.form h0
  exact .inr ⟨g,0,cap,hv,hle,hcap,fun j hj=>by rw [Nat.zero_add];exact hc j hj⟩
 ·have hl:l=[]:=List.eq_nil_of_length_eq_zero (by omega)
  rcases h.2 with ⟨hv,_⟩ | ⟨g,cap,cur,hv,_,_,hle,hcap,_⟩
  ·exact .inl ⟨hv,hl⟩
  ·exact .inr ⟨g,0,cap,hv,hle,hcap,fun j hj=>by omega⟩
theorem sameList_len (a1 a2:Option Addr) (n1 n2 c1 c2:Nat) (w:World) (h:n1 ≠ n2) :
 Calls Try.prog 74 #[.slice a1 n1 c1,.slice a2 n2 c2] w fun e w'=>e=.returned (.bool false)/\∃ n,w'=w.drewN n:=by
 have h':((n1:Int) != (n2:Int))=true:=by rw [bne_iff_ne];omega
 clear h
 go_enter Try.func74,Try.ntmps74
 go_wp2
 go_ret
 exact ⟨rfl,0,rfl⟩
theorem sameList_core (a1 a2:Option Addr) (g1 g2 o1 o2 c1 c2:Nat) (l1 l2:List Int) (w:World) (hl:l1.length<=10000) (he:l2.length=l1.length) (ha:0 < l1.length->a1=some ⟨g1,o1,none⟩/\a2=some ⟨g2,o2,none⟩)
 (h1:∀ j,j < l1.length->w.cell? ⟨g1,o1+j,none⟩=some (.int .i64 (l1.getD j 0))) (h2:∀ j,j < l1.length->w.cell? ⟨g2,o2+j,none⟩=some (.int .i64 (l2.getD j 0))) :
 Calls Try.prog 74 #[.slice a1 l1.length c1,.slice a2 l1.length c2] w fun e w'=>e=.returned (.bool (l1 == l2))/\∃ n,w'=w.drewN n:=by
 have HE:=hid he
 clear he
 go_enter Try.func74,Try.ntmps74
 go_wp2
 go_loopw [13] (fun i wr=>∃ k:Nat,k<=l1.length/\i=.int .i64 k/\(l1.take k=l2.take k)/\∃ n,wr=w.drewN n) (fun i _=>l1.length - (intOf i).toNat)
 case atStart=>exact ⟨0,Nat.zero_le _,rfl,by simp,0,rfl⟩
 case round =>
  obtain ⟨k,hk,rfl,htk,n,rfl⟩:=hrel
  have HT:=hid htk
  clear htk
  by_cases hlt:k < l1.length
  ·obtain ⟨rfl,rfl⟩:=ha (by omega)
   have y1:=h1 k hlt
   have y2:=h2 k hlt
   have hlt':(k:Int) < (l1.length:Int):=by omega
   have HN:Hid (l1.getD k 0=l2.getD k 0->l1.take (k+1)=l2.take (k+1)):=by
    intro hx
    rw [List.take_succ_eq_append_getElem hlt,List.take_succ_eq_append_getElem (by rw [HE.out];exact hlt),HT.out]
    rw [List.getD_eq_getElem?_getD,List.getD_eq_getElem?_getD,List.getElem?_eq_getElem hlt,List.getElem?_eq_getElem (by rw [HE.out];exact hlt)] at hx
    simp at hx
    rw [hx]
   have HX:Hid (l1.getD k 0 ≠ l2.getD k 0->(l1 == l2)=false):=by
    intro hx
    rw [beq_eq_false_iff_ne]
    intro e;rw [e] at hx;exact hx rfl
   generalize l1.getD k 0=x at *
   generalize l2.getD k 0=y at *
   clear h1 h2 ha
   by_cases hxy:x=y
   ·have hb:(x != y)=false:=by simp [hxy]
    have HXY:=hid hxy
    clear hxy
    go_wp2
    go_quiet (fail)
    go_wp2
    exact ⟨⟨k+1,by omega,rfl,HN.out HXY.out,_,rfl⟩,by simp [intOf];omega⟩
   ·have hb:(x != y)=true:=by simp [hxy]
    have HXY:=hid hxy
    clear hxy
    go_wp2
    go_quiet (fail)
    go_wp2
    go_ret
    exact ⟨by rw [HX.out HXY.out];rfl,_,World.drewN_drewN _ _ _⟩
  ·have e1:(l1 == l2)=true:=by
    have:=HT.out
    rw [List.take_of_length_le (by omega),List.take_of_length_le (by rw [HE.out];omega)] at this
    rw [this];simp
   go_wp2
   go_ret
   exact ⟨by rw [e1];rfl,n,rfl⟩
theorem sameList_any (v1 v2:Value) (l1 l2:List Int) (w:World) (hl:l1.length<=10000) (h1:RdI w v1 l1) (h2:RdI w v2 l2) :
 Calls Try.prog 74 #[v1,v2] w fun e w'=>e=.returned (.bool (l1 == l2))/\∃ n,w'=w.drewN n:=by
 have f1:∃ a c,v1=.slice a l1.length c:=by
  rcases h1 with ⟨rfl,rfl⟩ | ⟨g,o,c,rfl,_⟩
  ·exact ⟨none,0,rfl⟩
  ·exact ⟨_,_,rfl⟩
 have f2:∃ a c,v2=.slice a l2.length c:=by
  rcases h2 with ⟨rfl,rfl⟩ | ⟨g,o,c,rfl,_⟩
  ·exact ⟨none,0,rfl⟩
  ·exact ⟨_,_,rfl⟩
 by_cases he:l2.length=l1.length
 ·by_cases h0:0 < l1.length
  ·rcases h1 with ⟨_,rfl⟩ | ⟨g1,o1,c1,rfl,_,_,k1⟩
   ·simp at h0
   rcases h2 with ⟨_,rfl⟩ | ⟨g2,o2,c2,rfl,_,_,k2⟩
   ·simp at he;simp [<-he] at h0
   rw [he]
   exact sameList_core _ _ g1 g2 o1 o2 c1 c2 l1 l2 w hl he (fun _=>⟨rfl,rfl⟩) k1 (fun j hj=>k2 j (by omega))
  ·obtain ⟨a1,c1,rfl⟩:=f1
   obtain ⟨a2,c2,rfl⟩:=f2
   rw [he]
   exact sameList_core a1 a2 0 0 0 0 c1 c2 l1 l2 w hl he (fun h=>absurd h h0) (fun j hj=>by omega) (fun j hj=>by omega)
 ·obtain ⟨a1,c1,rfl⟩:=f1
  obtain ⟨a2,c2,rfl⟩:=f2
  have e1:(l1 == l2)=false:=by rw [beq_eq_false_iff_ne];intro e;exact he (by rw [e])
  rw [e1]
  exact sameList_len a1 a2 _ _ c1 c2 w (fun e=>he e.symm)
theorem RdI.new {w w':World} {v:Value} {l:List Int} (h:RdI w v l) (k:Chg () w w'):RdI w' v l:=by
 rcases h with h | ⟨g,off,cap,hv,hle,hcap,hc⟩
 ·exact .inl h
 ·refine .inr ⟨g,off,cap,hv,hle,hcap,fun j hj=>?_⟩
  have h1:=hc j hj
  exact (World.cell?_of_block (w:=w) (k.block g (World.block_lt_of_cell? w _ h1) (fun e=>e))).trans h1
theorem RdI.news {w:World} {g off:Nat} {l:List Int} (hc:∀ j,j < l.length->w.cell? ⟨g,off+j,none⟩=some (.int .i64 (l.getD j 0))):∀ j u,(ints l)[j]?=some u->w.cell? ((⟨g,off,none⟩:Addr).add j)=some u:=by
 intro j u hu
 have hadd:(⟨g,off,none⟩:Addr).add j=⟨g,off+j,none⟩:=by unfold Addr.add;split <;> simp_all
 rw [hadd]
 have hj:j < l.length:=by
  rcases Nat.lt_or_ge j l.length with h | h
  ·exact h
  ·rw [List.getElem?_eq_none (by simpa [ints] using h)] at hu;cases hu
 rw [hc j hj]
 simp [ints,List.getElem?_eq_getElem hj] at hu
 rw [List.getD_eq_getElem?_getD,List.getElem?_eq_getElem hj]
 simpa using hu
theorem joined_any (v1 v2:Value) (l1 l2:List Int) (w:World) (hl1:l1.length<=10000) (hl2:l2.length<=10000) (h1:RdI w v1 l1) (h2:RdI w v2 l2) :
 Calls Try.prog 51 #[v1,v2] w fun e w'=>∃ v,e=.returned v/\IntsV w' w.heap.size v (l1++l2)/\Chg () w w':=by
 obtain ⟨i,hi1,hi2,hi3,hi4⟩:=info3
 have Hi1:=hid hi1
 have Hi2:=hid hi2
 have Hi3:=hid hi3
 have Hi4:=hid hi4
 clear hi1 hi2 hi3 hi4
 have h0:w.ownsRow w.heap.size 3 1 (.slice none 0 0) 0 []:=World.ownsRow_nil _ _ _ _
 rcases h1 with ⟨rfl,rfl⟩ | ⟨g1,o1,c1,rfl,hle1,hcap1,k1⟩
 ·rcases h2 with ⟨rfl,rfl⟩ | ⟨g2,o2,c2,rfl,hle2,hcap2,k2⟩
  ·go_enter Try.func51,Try.ntmps51
   go_wp2
   go_ret
   exact ⟨_,rfl,World.ownsRow_nil _ _ _ _,Chg.refl _ _⟩
  ·have HNEWS:Hid _:=RdI.news k2
   clear k2
   go_enter Try.func51,Try.ntmps51
   go_wp2_with (first | (at_builtin;refine wpList_append_own_none rfl _ _ 24 rfl w.heap.size 3 i 1 Try.underlying24 Hi1.out _ _ _ rfl h0 rfl ?_) | (at_builtin;refine wpList_append_own _ rfl _ _ 24 rfl w.heap.size 3 i (.int .i64 0) 1 8 Try.underlying24 Hi1.out Hi2.out Hi3.out Hi4.out rfl (by decide) _ _ _ rfl h0 ⟨g2,o2,none⟩ l2.length c2 (ints l2) rfl ?c0 HNEWS.out ?c2 ?c3 ?c4 ?c5 ?_))
   case c0=>simp [ints]
   case c2=>intro u hu;simp [ints] at hu;obtain ⟨x,_,rfl⟩:=hu;rfl
   case c3=>unfold maxLen;omega
   case c4=>omega
   case c5=>exact Nat.le_refl _
   ·intro v' w1 hown hgrow _
    go_wp2
    go_ret
    exact ⟨_,rfl,by unfold IntsV;simpa using hown,(Chg.refl _ w).grown hgrow (fun k hk=>by cases hk)⟩
 ·have HN1:Hid _:=RdI.news k1
  clear k1
  have hd:=hid h2
  clear h2
  rcases hd.out with ⟨rfl,rfl⟩ | ⟨g2,o2,c2,rfl,hle2,hcap2,k2⟩
  ·go_enter Try.func51,Try.ntmps51
   go_wp2_with (first | (at_builtin;refine wpList_append_own _ rfl _ _ 24 rfl w.heap.size 3 i (.int .i64 0) 1 8 Try.underlying24 Hi1.out Hi2.out Hi3.out Hi4.out rfl (by decide) _ _ _ rfl h0 ⟨g1,o1,none⟩ l1.length c1 (ints l1) rfl ?c0 HN1.out ?c2 ?c3 ?c4 ?c5 ?_))
   case c0=>simp [ints]
   case c2=>intro u hu;simp [ints] at hu;obtain ⟨x,_,rfl⟩:=hu;rfl
   case c3=>unfold maxLen;omega
   case c4=>omega
   case c5=>exact Nat.le_refl _
   ·intro v' w1 hown hgrow _
    go_wp2_with (first | (at_builtin;refine wpList_append_own_none rfl _ _ 24 rfl w.heap.size 3 i 1 Try.underlying24 Hi1.out _ _ _ rfl hown rfl ?_))
    go_ret
    exact ⟨_,rfl,by unfold IntsV;simpa using hown,(Chg.refl _ w).grown hgrow (fun k hk=>by cases hk)⟩
  ·clear k2
   go_enter Try.func51,Try.ntmps51
   go_wp2_with (first | (at_builtin;refine wpList_append_own _ rfl _ _ 24 rfl w.heap.size 3 i (.int .i64 0) 1 8 Try.underlying24 Hi1.out Hi2.out Hi3.out Hi4.out rfl (by decide) _ _ _ rfl h0 ⟨g1,o1,none⟩ l1.length c1 (ints l1) rfl ?c0 HN1.out ?c2 ?c3 ?c4 ?c5 ?_))
   case c0=>simp [ints]
   case c2=>intro u hu;simp [ints] at hu;obtain ⟨x,_,rfl⟩:=hu;rfl
   case c3=>unfold maxLen;omega
   case c4=>omega
   case c5=>exact Nat.le_refl _
   ·intro v' w1 hown hgrow _
    have k1:Chg () w w1:=(Chg.refl _ w).grown hgrow (fun k hk=>by cases hk)
    have hsz:=k1.size
    have HN2:Hid (∀ j u,(ints l2)[j]?=some u->w1.cell? ((⟨g2,o2,none⟩:Addr).add j)=some u):=by
     rcases hd.out.new k1 with ⟨h,_⟩ | ⟨g,o,c,h,_,_,kk⟩
     ·cases h
     ·simp only [Value.slice.injEq,Option.some.injEq,Addr.mk.injEq] at h
      obtain ⟨⟨rfl,rfl,_⟩,_,rfl⟩:=h
      exact RdI.news kk
    clear hgrow
    go_wp2_with (first | (at_builtin;refine wpList_append_own _ rfl _ _ 24 rfl w.heap.size 3 i (.int .i64 0) 1 8 Try.underlying24 Hi1.out Hi2.out Hi3.out Hi4.out rfl (by decide) _ _ _ rfl hown ⟨g2,o2,none⟩ l2.length c2 (ints l2) rfl ?c0 HN2.out ?c2 ?c3 ?c4 ?c5 ?_))
    case c0=>simp [ints]
    case c2=>intro u hu;simp [ints] at hu;obtain ⟨x,_,rfl⟩:=hu;rfl
    case c3=>unfold maxLen;omega
    case c4=>omega
    case c5=>omega
    ·intro v'' w2 hown2 hgrow2 _
     go_wp2
     go_ret
     refine ⟨_,rfl,?_,k1.grown hgrow2 (fun k hk=>.inr (hown.lt k hk).1)⟩
     unfold IntsV
     simpa [ints] using hown2
end Go.Proofs.Ytnfnbcbadakofab
namespace Go.Proofs.Ytnfnbcbadakofab
open Go.RowKit
set_option maxHeartbeats 400000
set_option maxRecDepth 100000
def tyAt (l:List Int) (k:Int):Int:=if k < 0 \/ (l.length:Int)<=k then 0 else l.getD k.toNat 0
theorem typeAt_no (a:Option Addr) (n c:Nat) (k:Int) (w:World) (h:k < 0 \/ (n:Int)<=k) :
 Calls Try.prog 65 #[.slice a n c,k] w fun e w'=>e=.returned (.int .i64 0)/\w'=w:=by
 by_cases h1:k < 0
 ·clear h
  go_enter Try.func65,Try.ntmps65
  go_wp2
  go_ret
  exact ⟨rfl,rfl⟩
 ·have h2:(n:Int)<=k:=by omega
  clear h
  go_enter Try.func65,Try.ntmps65
  go_wp2
  go_ret
  exact ⟨rfl,rfl⟩
theorem typeAt_yes (g n c j:Nat) (x:Int) (w:World) (h:j < n) (hc:w.cell? ⟨g,j,none⟩=some (.int .i64 x)) :
 Calls Try.prog 65 #[.slice g n c,j] w fun e w'=>e=.returned (.int .i64 x)/\w'=w:=by
 have h':(j:Int) < n:=by omega
 go_enter Try.func65,Try.ntmps65
 go_wp2
 go_ret
 exact ⟨rfl,rfl⟩
theorem typeAt_any (v:Value) (l:List Int) (k:Int) (w:World) (base:Nat) (h:IntsV w base v l) :
 Calls Try.prog 65 #[v,k] w fun e w'=>e=.returned (.int .i64 (tyAt l k))/\w'=w:=by
 by_cases hk:k < 0 \/ (l.length:Int)<=k
 ·obtain ⟨a,c,rfl⟩:=h.slice
  unfold tyAt;rw [if_pos hk]
  exact typeAt_no a _ c k w hk
 ·obtain ⟨j,rfl⟩:∃ j:Nat,k=(j:Int):=⟨k.toNat,by omega⟩
  obtain ⟨g,c,rfl,_,_,_,hc⟩:=h.form (by omega)
  unfold tyAt;rw [if_neg hk]
  exact typeAt_yes g _ c j _ w (by omega) (hc j (by omega))
def argsF (fs:List Fn) (f:Int):List Int:=
 if h:0<=f/\f.toNat < fs.length then (if (fs[f.toNat]'h.2).args < 0 \/ ((fs[f.toNat]'h.2).locals.length:Int) < (fs[f.toNat]'h.2).args then [] else (fs[f.toNat]'h.2).locals.take (fs[f.toNat]'h.2).args.toNat) else []
def resF (fs:List Fn) (f:Int):Int:=if h:0<=f/\f.toNat < fs.length then (fs[f.toNat]'h.2).result else 0
theorem FuncsV.formS {eF eI:TypeId} {w:World} {base:Nat} {v:Value} {fs:List Fn} (h:FuncsV eF eI w base v fs) (hl:0 < fs.length) :
 ∃ g cap,v=.slice (some ⟨g,0,none⟩) fs.length cap/\fs.length<=cap/\(∀ j (hj:j < fs.length),∃ lv cv,w.cell? ⟨g,j * 4,none⟩=some (.int .i64 fs[j].args)/\w.cell? ⟨g,j * 4+1,none⟩=some lv /\
  w.cell? ⟨g,j * 4+2,none⟩=some (.int .i64 fs[j].result)/\w.cell? ⟨g,j * 4+3,none⟩=some cv/\IntsV w base lv fs[j].locals/\InsV eI w base cv fs[j].code):=by
 obtain ⟨xs,h0,h,hx⟩:=h
 have hc:=fun g=>World.ownsRow.cells (g:=g) h
 subst h0
 simp only [List.length_map] at *
 rcases h.2 with ⟨_,h0⟩ | ⟨g,cap,cur,rfl,hb,hgg,hle,hcap,_⟩
 ·omega
 ·refine ⟨g,cap,rfl,hle,fun j hj=>?_⟩
  have hadd:∀ j,(⟨g,0,none⟩:Addr).add j=⟨g,j,none⟩:=by intro j;unfold Addr.add;split <;> simp_all
  have key:∀ (c:List (Fn × Value × Value)) (j:Nat) (hj:j < c.length),(fnC c)[j * 4]?=some (.int .i64 c[j].1.args)/\(fnC c)[j * 4+1]?=some c[j].2.1/\(fnC c)[j * 4+2]?=some (.int .i64 c[j].1.result)/\(fnC c)[j * 4+3]?=some c[j].2.2:=by
   intro c
   induction c with
   | nil=>intro j hj;simp at hj
   | cons x c ih =>
    intro j hj
    have e:fnC (x::c)=.int .i64 x.1.args::x.2.1::.int .i64 x.1.result::x.2.2::fnC c:=by simp [fnC]
    rcases j with _ | j
    ·rw [e];simp
    ·have:=ih j (by simpa using hj)
     rw [e,show (j+1) * 4=j * 4+4 by omega]
     simpa using this
  obtain ⟨k1,k2,k3,k4⟩:=key xs j hj
  have a1:=hc g rfl _ _ k1
  have a2:=hc g rfl _ _ k2
  have a3:=hc g rfl _ _ k3
  have a4:=hc g rfl _ _ k4
  rw [hadd] at a1 a2 a3 a4
  have hm:=hx xs[j] (List.getElem_mem hj)
  exact ⟨xs[j].2.1,xs[j].2.2,by simpa using a1,a2,by simpa using a3,a4,by simpa using hm.1,by simpa using hm.2⟩
theorem IntsV.take {w:World} {base:Nat} {a:Option Addr} {n cap:Nat} {l:List Int} (h:IntsV w base (.slice a n cap) l) (k:Nat) (hk:k<=l.length) (hn:a=none->k=0/\cap=0):IntsV w base (.slice a k cap) (l.take k):=by
 have hlen:(l.take k).length=k:=by rw [List.length_take];omega
 unfold IntsV
 rw [hlen]
 refine ⟨by simp;omega,?_⟩
 rcases h.2 with ⟨hv,_⟩ | ⟨g,cap',cur,hv,hb,hgg,hle,hcap,hcs,htk⟩
 ·simp only [Value.slice.injEq] at hv
  obtain ⟨rfl,_,rfl⟩:=hv
  obtain ⟨rfl,_⟩:=hn rfl
  exact .inl ⟨rfl,rfl⟩
 ·simp only [Value.slice.injEq] at hv
  obtain ⟨rfl,_,rfl⟩:=hv
  refine .inr ⟨g,cap,cur,rfl,hb,hgg,by omega,hcap,hcs,?_⟩
  have e:=congrArg (List.take k) htk
  simp only [Nat.mul_one,List.take_take] at e ⊢
  rw [Nat.min_eq_left (by omega)] at e
  rw [e];simp [ints,List.map_take]
def fnAt (fs:List Fn) (k:Int):Fn:=if h:0<=k/\k.toNat < fs.length then fs[k.toNat]'h.2 else ⟨0,[],0,[]⟩
def frontP (l:List Int) (k:Int):List Int:=if k < 0 \/ (l.length:Int) < k then [] else l.take k.toNat
theorem argsF_eq (fs:List Fn) (k:Int):argsF fs k=frontP (fnAt fs k).locals (fnAt fs k).args:=by
 unfold argsF fnAt frontP
 by_cases hk:0<=k/\k.toNat < fs.length
 ·simp only [dif_pos hk]
 ·simp [dif_neg hk]
theorem resF_eq (fs:List Fn) (k:Int):resF fs k=(fnAt fs k).result:=by
 unfold resF fnAt
 by_cases hk:0<=k/\k.toNat < fs.length
 ·simp only [dif_pos hk]
 ·simp only [dif_neg hk]
theorem front_no (a:Option Addr) (n c:Nat) (k:Int) (w:World) (h:k < 0 \/ (n:Int) < k) :
 Calls Try.prog 77 #[.slice a n c,k] w fun e w'=>e=.returned (.slice none 0 0)/\w'=w:=by
 by_cases h1:k < 0
 ·clear h
  go_enter Try.func77,Try.ntmps77
  go_wp2
  go_ret
  exact ⟨rfl,rfl⟩
 ·have h2:(n:Int) < k:=by omega
  clear h
  go_enter Try.func77,Try.ntmps77
  go_wp2
  go_ret
  exact ⟨rfl,rfl⟩
theorem front_yes (a:Option Addr) (n c x:Nat) (w:World) (hx:x<=n) (hm:n<=c) (_hla:a=none->x=0/\c=0) :
 Calls Try.prog 77 #[.slice a n c,x] w fun e w'=>e=.returned (.slice a x c)/\w'=w:=by
 have h2:(x:Int)<=n:=by omega
 have h3:(x:Int)<=c:=by omega
 go_enter Try.func77,Try.ntmps77
 go_wp2
 go_ret
 exact ⟨rfl,rfl⟩
theorem front_any (v:Value) (l:List Int) (k:Int) (w:World) (base:Nat) (h:IntsV w base v l) :
 Calls Try.prog 77 #[v,k] w fun e w'=>∃ u,e=.returned u/\IntsV w base u (frontP l k)/\w'=w:=by
 by_cases hk:k < 0 \/ (l.length:Int) < k
 ·obtain ⟨a,c,rfl⟩:=h.slice
  have e1:frontP l k=[]:=if_pos hk
  rw [e1]
  refine (front_no a _ c k w hk).mono ?_
  rintro e w' ⟨rfl,rfl⟩
  exact ⟨_,rfl,World.ownsRow_nil _ _ _ _,rfl⟩
 ·obtain ⟨x,rfl⟩:∃ x:Nat,k=(x:Int):=⟨k.toNat,by omega⟩
  have e1:frontP l (x:Int)=l.take x:=if_neg hk
  rw [e1]
  obtain ⟨a,c,rfl⟩:=h.slice
  have hm:l.length<=c/\(a=none->x=0/\c=0):=by
   rcases h.2 with ⟨hv,h0⟩ | ⟨g',cap',cur,hv,_,_,hle,_⟩
   ·simp only [Value.slice.injEq] at hv
    obtain ⟨rfl,h3,rfl⟩:=hv
    exact ⟨by omega,fun _=>⟨by omega,rfl⟩⟩
   ·simp only [Value.slice.injEq] at hv
    obtain ⟨rfl,_,rfl⟩:=hv
    exact ⟨hle,fun e=>by cases e⟩
  refine (front_yes a _ c x w (by omega) hm.1 hm.2).mono ?_
  rintro e w' ⟨rfl,rfl⟩
  exact ⟨_,rfl,h.take _ (by omega) hm.2,rfl⟩
theorem argsOf_any (lv:Value) (f:Fn) (ca:Option Addr) (cn cc:Nat) (w:World) (base:Nat) (h:IntsV w base lv f.locals) :
 Calls Try.prog 79 #[.agg #[f.args,lv,f.result,.slice ca cn cc]] w fun e w'=>∃ u,e=.returned u/\IntsV w' base u (frontP f.locals f.args)/\Chg () w w':=by
 have kb:Chg () w (w.alloc (Obj.cells #[f.args,lv,f.result,.slice ca cn cc] 78)):=(Chg.refl () w).alloc _
 have h1:=h.chg kb (fun _ _ _ e=>e)
 obtain ⟨la,lc,rfl⟩:=h.slice
 go_enter Try.func79,Try.ntmps79
 go_wp2_with fail
 refine (front_any _ f.locals f.args _ base h1).mono ?_
 rintro e w1 ⟨u,rfl,hu,rfl⟩
 obtain ⟨ua,uc,rfl⟩:=hu.slice
 go_wp2
 go_ret
 exact ⟨_,rfl,hu,kb⟩
theorem funcAt_no (a:Option Addr) (n c:Nat) (k:Int) (w:World) (h:k < 0 \/ (n:Int)<=k) :
 Calls Try.prog 32 #[.slice a n c,k] w fun e w'=>e=.returned (.agg #[oO,(),oO,()])/\Chg () w w':=by
 have ka:Chg () w (w.alloc (Obj.cells #[oO,(),oO,()] 78)):=(Chg.refl _ w).alloc _
 by_cases h1:k < 0
 ·clear h
  go_enter Try.func32,Try.ntmps32
  go_wp2
  exact bodyPost_ret (v:=.agg #[oO,(),oO,()]) (by simp [results,Try.results32,go_sem]) rfl ⟨rfl,ka⟩
 ·have h2:(n:Int)<=k:=by omega
  clear h
  go_enter Try.func32,Try.ntmps32
  go_wp2
  exact bodyPost_ret (v:=.agg #[oO,(),oO,()]) (by simp [results,Try.results32,go_sem]) rfl ⟨rfl,ka⟩
theorem funcAt_yes (g n c j ln lc cn cc:Nat) (la ca:Option Addr) (x r:Int) (w:World) (h:j < n) (hg:g < w.heap.size) (hc0:w.cell? ⟨g,j * 4,none⟩=some (.int .i64 x)) (hc1:w.cell? ⟨g,j * 4+1,none⟩=some (.slice la ln lc))
 (hc2:w.cell? ⟨g,j * 4+2,none⟩=some (.int .i64 r)) (hc3:w.cell? ⟨g,j * 4+3,none⟩=some (.slice ca cn cc)) :
 Calls Try.prog 32 #[.slice g n c,j] w fun e w'=>e=.returned (.agg #[x,.slice la ln lc,r,.slice ca cn cc])/\Chg () w w':=by
 have h':(j:Int) < n:=by omega
 have d0:(w.alloc (Obj.cells #[oO,(),oO,()] 78)).cell? ⟨g,j * 4,none⟩=some (.int .i64 x):=(World.cell?_of_block (Below.heap_alloc _ _ _ hg)).trans hc0
 have d1:(w.alloc (Obj.cells #[oO,(),oO,()] 78)).cell? ⟨g,j * 4+1,none⟩=some (.slice la ln lc):=(World.cell?_of_block (Below.heap_alloc _ _ _ hg)).trans hc1
 have d2:(w.alloc (Obj.cells #[oO,(),oO,()] 78)).cell? ⟨g,j * 4+2,none⟩=some (.int .i64 r):=(World.cell?_of_block (Below.heap_alloc _ _ _ hg)).trans hc2
 have d3:(w.alloc (Obj.cells #[oO,(),oO,()] 78)).cell? ⟨g,j * 4+3,none⟩=some (.slice ca cn cc):=(World.cell?_of_block (Below.heap_alloc _ _ _ hg)).trans hc3
 clear hc0 hc1 hc2 hc3
 go_enter Try.func32,Try.ntmps32
 go_wp2
 exact bodyPost_ret (v:=.agg #[x,.slice la ln lc,r,.slice ca cn cc]) (by simp [results,Try.results32,go_sem]) rfl ⟨rfl,(Chg.refl _ w).alloc _⟩
theorem funcAt_any (v:Value) (fs:List Fn) (k:Int) (w:World) (base:Nat) (h:FuncsV 78 93 w base v fs) :
 Calls Try.prog 32 #[v,k] w fun e w'=>∃ lv cv,e=.returned (.agg #[.int .i64 (fnAt fs k).args,lv,.int .i64 (fnAt fs k).result,cv])/\IntsV w' base lv (fnAt fs k).locals/\InsV 93 w' base cv (fnAt fs k).code/\Chg () w w':=by
 by_cases hk:0<=k/\k.toNat < fs.length
 ·obtain ⟨j,rfl⟩:∃ j:Nat,k=(j:Int):=⟨k.toNat,by omega⟩
  obtain ⟨g,c,rfl,_,hc⟩:=h.formS (by omega)
  have hj:j < fs.length:=by omega
  have e1:fnAt fs (j:Int)=fs[j]:=by unfold fnAt;rw [dif_pos hk];rfl
  rw [e1]
  obtain ⟨lv,cv,h0,h1,h2,h3,hl,hi⟩:=hc j hj
  obtain ⟨la,lc,rfl⟩:=hl.slice
  obtain ⟨ca,cc,rfl⟩:=hi.slice
  refine (funcAt_yes g _ c j _ lc _ cc la ca _ _ w hj (World.block_lt_of_cell? w _ h0) h0 h1 h2 h3).mono ?_
  rintro e w' ⟨rfl,hch⟩
  exact ⟨_,_,rfl,hl.chg hch (fun _ _ _ e=>e),hi.chg hch (fun _ _ _ e=>e),hch⟩
 ·obtain ⟨a,c,rfl⟩:=h.slice
  have e1:fnAt fs k=⟨0,[],0,[]⟩:=by unfold fnAt;rw [dif_neg hk]
  rw [e1]
  refine (funcAt_no a _ c k w (by omega)).mono ?_
  rintro e w' ⟨rfl,hch⟩
  exact ⟨_,_,rfl,World.ownsRow_nil _ _ _ _,World.ownsRow_nil _ _ _ _,hch⟩
end Go.Proofs.Ytnfnbcbadakofab
