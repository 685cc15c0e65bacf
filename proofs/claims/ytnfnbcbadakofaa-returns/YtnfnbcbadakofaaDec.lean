import Derived.Test.YtnfnbcbadakofaaPro
namespace Go.Proofs.Ytnfnbcbadakofaa
open Go.RowKit
set_option maxHeartbeats 1000000
set_option maxRecDepth 100000
def bl (s:ByteArray):List Int:=s.data.toList.map fun b=>(b.toNat:Int)
theorem bl_len (s:ByteArray):(bl s).length=s.size:=by simp [bl]
theorem bl_snoc (s:ByteArray) (k:Nat) (h:k < s.size):(bl s).take (k+1)=(bl s).take k++[(s[k].toNat:Int)]:=by
 have hk:k < (bl s).length:=by rw [bl_len];exact h
 rw [List.take_succ_eq_append_getElem hk]
 congr 1
 simp [bl];rfl
theorem wrap64_byte (b:UInt8):wrap64 (b.toNat:Int)=(b.toNat:Int):=by unfold wrap64;have:=b.toNat_lt;omega
theorem bytesOf_any (s:ByteArray) (w:World) (hs:s.size<=800) :
 Calls Try.prog 66 #[.string s] w fun e w'=>∃ v,e=.returned v/\IntsV w' w.heap.size v (bl s)/\Chg () w w':=by
 obtain ⟨i,hi1,hi2,hi3,hi4⟩:=info3
 have Hi1:=hid hi1
 have Hi2:=hid hi2
 have Hi3:=hid hi3
 have Hi4:=hid hi4
 clear hi1 hi2 hi3 hi4
 go_enter Try.func66,Try.ntmps66
 go_wp2
 go_loopw [3,4] (fun v i wr=>∃ k:Nat,k<=s.size/\i=.int .i64 k/\IntsV wr w.heap.size v ((bl s).take k)/\Chg () w wr) (fun _ i _=>s.size - (intOf i).toNat)
 case atStart=>exact ⟨0,Nat.zero_le _,rfl,World.ownsRow_nil _ _ _ _,Chg.refl _ _⟩
 case round =>
  obtain ⟨k,hk,rfl,hown,hch⟩:=hrel
  have hlen:((bl s).take k).length=k:=by rw [List.length_take,bl_len];omega
  have HL:=hid hlen
  clear hlen
  by_cases hlt:k < s.size
  ·have HS:Hid ((bl s).take (k+1)=(bl s).take k++[(s[k].toNat:Int)]):=bl_snoc s k hlt
   generalize (bl s).take k=T at *
   have hsz:w.heap.size<=wr.heap.size:=hch.size
   go_wp2_with (at_builtin;refine wpList_append_lies _ rfl _ _ 47 rfl w.heap.size 3 i (.int .i64 0) 1 8 Try.underlying47 Hi1.out Hi2.out Hi3.out Hi4.out rfl (by decide) _ _ _ rfl (World.ownsRow.alloc hown _) ⟨wr.heap.size,0,none⟩ 1 1 [.int .i64 (wrap64 (s[k].toNat:Int))] rfl rfl ?c1 ?c2 (by decide) ?c3 ?c4 ?c5 _ rfl ?_)
   case c1=>exact cell_one_new _ _ _
   case c2=>intro u hu;simp at hu;subst hu;rfl
   case c3=>rw [HL.out];unfold maxLen;omega
   case c4=>rw [HL.out];omega
   case c5=>simp;omega
   ·intro g cap w2 hown2 hgrow hat hlt2
    go_wp2
    have hch2:Chg () w w2:=((hch.alloc _).grown hgrow (fun k hk=>.inr (hown.lt k hk).1))
    refine ⟨⟨k+1,by omega,rfl,?_,hch2⟩,by simp [intOf];omega⟩
    rw [HS.out]
    rw [wrap64_byte] at hown2
    unfold IntsV
    simp only [ints,List.map_append,List.length_append,List.map_cons,List.map_nil,List.length_cons,List.length_nil] at hown2 ⊢
    exact hown2
  ·go_wp2
   go_ret
   refine ⟨_,rfl,?_,hch⟩
   rwa [List.take_of_length_le (by rw [bl_len];omega)] at hown
def rdP (ns:List Int):Int × Int × Pg:=
 let r:=tkP ns (0,false)
 if r.2.2=true \/ r.2.1 < ns.length then (2,r.2.1,⟨[],[]⟩) else (0,0,r.1)
theorem chg_set5 (w:World) (b:Nat) (x y z u t:Value):Chg (fun k=>k=b) w (((((w.setCell ⟨b,0,none⟩ x).setCell ⟨b,1,none⟩ y).setCell ⟨b,2,none⟩ z).setCell ⟨b,3,none⟩ u).setCell ⟨b,4,none⟩ t):=
 (chg_set4 w b x y z u).setCell _ _ (.inl rfl)
theorem readProg_any (nv:Value) (ns:List Int) (w:World) (base:Nat) (hns:IntsV w base nv ns) (hl:ns.length<=10000) :
 Calls Try.prog 47 #[nv] w fun e w'=>∃ tv fv,e=.returned (.agg #[tv,fv,(),.int .i64 (rdP ns).1,.int .i64 (rdP ns).2.1])/\TypesV w' w.heap.size tv (rdP ns).2.2.types/\FuncsV 96 98 w' w.heap.size fv (rdP ns).2.2.funcs /\
  ((rdP ns).1 ≠ 0->tv=.slice none 0 0/\fv=.slice none 0 0)/\Chg () w w':=by
 obtain ⟨na,nc,rfl⟩:=hns.slice
 go_enter Try.func47,Try.ntmps47
 go_wp2_with fail
 have ka:Chg () w ((w.alloc (Obj.cells #[(),(),(),oO,oO] 80)).alloc (Obj.cells #[.slice na ns.length nc,oO,.bool false] 149)):=((Chg.refl _ w).alloc _).alloc _
 have bo:=(Blk.new w #[.slice none 0 0,.slice none 0 0,.slice none 0 0,.int .i64 0,.int .i64 0] 80).alloc (Obj.cells #[.slice na ns.length nc,oO,.bool false] 149)
 have br:Rd _ (w.heap.size+1) (.slice na ns.length nc) (0,false):=Blk.new' (w:=w.alloc (Obj.cells #[(),(),(),oO,oO] 80)) (by simp) #[.slice na ns.length nc,oO,.bool false] 149
 have hrs:RS _ (w.heap.size+1) (.slice na ns.length nc) ns (0,false):=⟨br,own_mono (IntsV.chg hns ka (fun _ _ _ e=>e)) (Nat.zero_le _)⟩
 have hsz0:w.heap.size+2=((w.alloc (Obj.cells #[(),(),(),oO,oO] 80)).alloc (Obj.cells #[.slice na ns.length nc,oO,.bool false] 149)).heap.size:=by simp
 generalize ((w.alloc (Obj.cells #[(),(),(),oO,oO] 80)).alloc (Obj.cells #[.slice na ns.length nc,oO,.bool false] 149))=w0 at *
 refine (takeProg_any (w.heap.size+1) (.slice na ns.length nc) ns (0,false) w0 hrs hl).mono ?_
 rintro e w1 ⟨tv,fv,rfl,hty,hfv,hrs1,hch⟩
 generalize hP:tkP ns (0,false)=P at *
 have HR:Hid (rdP ns=if P.2.2=true \/ P.2.1 < ns.length then (2,(P.2.1:Int),⟨[],[]⟩) else (0,0,P.1)):=by subst hP;rfl
 clear hP
 obtain ⟨P1,pat,pst⟩:=P
 have bo1:=bo.chg hch (by omega)
 have ch1:Chg () w w1:=ka.trans' hch (fun i hi e=>by omega)
 have hty1:TypesV w1 w.heap.size tv P1.types:=hty.mono (by omega)
 have hfv1:FuncsV 96 98 w1 w.heap.size fv P1.funcs:=hfv.mono (by omega)
 obtain ⟨ta,tc,rfl⟩:=hty1.slice
 obtain ⟨fa,fc,rfl⟩:=hfv1.slice
 clear bo br hrs hch ka hty hfv hns hsz0
 have c0:w1.cell? ⟨w.heap.size+1,0,none⟩=some (.slice na ns.length nc):=hrs1.1.cell 0
 have c1:w1.cell? ⟨w.heap.size+1,1,none⟩=some (.int .i64 pat):=hrs1.1.cell 1
 have c2:w1.cell? ⟨w.heap.size+1,2,none⟩=some (.bool pst):=hrs1.1.cell 2
 have o0:w1.cell? ⟨w.heap.size,0,none⟩=some (.slice none 0 0):=bo1.cell 0
 have o1:w1.cell? ⟨w.heap.size,1,none⟩=some (.slice none 0 0):=bo1.cell 1
 have o2:w1.cell? ⟨w.heap.size,2,none⟩=some (.slice none 0 0):=bo1.cell 2
 have o3:w1.cell? ⟨w.heap.size,3,none⟩=some (.int .i64 0):=bo1.cell 3
 have o4:w1.cell? ⟨w.heap.size,4,none⟩=some (.int .i64 0):=bo1.cell 4
 have z0:=bo1.frozen 0
 have z1:=bo1.frozen 1
 have z2:=bo1.frozen 2
 have z3:=bo1.frozen 3
 have z4:=bo1.frozen 4
 have hlt1:=hrs1.lt
 have hlt0:=bo1.lt
 cases pst with
 | true =>
  go_wp2
  have b3:=(((((bo1.set 0 (.slice none 0 0)).set 1 (.slice none 0 0)).set 2 (.slice none 0 0)).set 3 (.int .i64 2)).set 4 (.int .i64 pat)).alloc (Obj.cells #[.slice ta P1.types.length tc,.slice fa P1.funcs.length fc] 35)
  have hch4:=chg_set5 w1 w.heap.size (.slice none 0 0) (.slice none 0 0) (.slice none 0 0) (.int .i64 2) (.int .i64 pat)
  have hch5:=hch4.alloc (Obj.cells #[.slice ta P1.types.length tc,.slice fa P1.funcs.length fc] 35)
  generalize ((((((w1.setCell ⟨w.heap.size,0,none⟩ ()).setCell ⟨w.heap.size,1,none⟩ ()).setCell ⟨w.heap.size,2,none⟩ ()).setCell ⟨w.heap.size,3,none⟩ (2:Int)).setCell ⟨w.heap.size,4,none⟩ pat).alloc (Obj.cells #[.slice ta P1.types.length tc,.slice fa P1.funcs.length fc] 35))=wf at *
  have hD:Chg () w wf:=ch1.trans' hch5 (fun i hi e=>by omega)
  have hA:TypesV wf w.heap.size (.slice ta P1.types.length tc) P1.types:=hty1.chg hch5 (fun g cs hb e=>hb.ne bo1 (by decide) e) (fun g cs hb e=>hb.ne bo1 (by decide) e)
  have hB:FuncsV 96 98 wf w.heap.size (.slice fa P1.funcs.length fc) P1.funcs:=hfv1.chg hch5 (fun g cs hb e=>hb.ne bo1 (by decide) e) (fun g cs hb e=>hb.ne bo1 (by decide) e) (fun g cs hb e=>hb.ne bo1 (by decide) e)
  clear c0 c1 c2 o0 o1 o2 o3 o4 z0 z1 z2 z3 z4 hch4 hch5
  have q0:wf.cell? ⟨w.heap.size,0,none⟩=some ((.slice none 0 0)):=b3.cell 0
  have q1:wf.cell? ⟨w.heap.size,1,none⟩=some ((.slice none 0 0)):=b3.cell 1
  have q2:wf.cell? ⟨w.heap.size,2,none⟩=some (.slice none 0 0):=b3.cell 2
  have q3:wf.cell? ⟨w.heap.size,3,none⟩=some ((.int .i64 2)):=b3.cell 3
  have q4:wf.cell? ⟨w.heap.size,4,none⟩=some ((.int .i64 pat)):=b3.cell 4
  have hr:rdP ns=(2,(pat:Int),⟨[],[]⟩):=by rw [HR.out];simp
  rw [hr]
  exact bodyPost_ret (v:=.agg #[(.slice none 0 0),(.slice none 0 0),(.slice none 0 0),(.int .i64 2),(.int .i64 pat)]) (by simp [results,Try.results47,go_sem,q0,q1,q2,q3,q4]) rfl ⟨_,_,rfl,TypesV.nil _ _,FuncsV.nil _ _ _ _,fun _=>⟨rfl,rfl⟩,hD⟩
 | false =>
  by_cases hat:pat < ns.length
  ·have hat':(pat:Int) < (ns.length:Int):=by omega
   go_wp2
   have b3:=(((((bo1.set 0 (.slice none 0 0)).set 1 (.slice none 0 0)).set 2 (.slice none 0 0)).set 3 (.int .i64 2)).set 4 (.int .i64 pat)).alloc (Obj.cells #[.slice ta P1.types.length tc,.slice fa P1.funcs.length fc] 35)
   have hch4:=chg_set5 w1 w.heap.size (.slice none 0 0) (.slice none 0 0) (.slice none 0 0) (.int .i64 2) (.int .i64 pat)
   have hch5:=hch4.alloc (Obj.cells #[.slice ta P1.types.length tc,.slice fa P1.funcs.length fc] 35)
   generalize ((((((w1.setCell ⟨w.heap.size,0,none⟩ ()).setCell ⟨w.heap.size,1,none⟩ ()).setCell ⟨w.heap.size,2,none⟩ ()).setCell ⟨w.heap.size,3,none⟩ (2:Int)).setCell ⟨w.heap.size,4,none⟩ pat).alloc (Obj.cells #[.slice ta P1.types.length tc,.slice fa P1.funcs.length fc] 35))=wf at *
   have hD:Chg () w wf:=ch1.trans' hch5 (fun i hi e=>by omega)
   have hA:TypesV wf w.heap.size (.slice ta P1.types.length tc) P1.types:=hty1.chg hch5 (fun g cs hb e=>hb.ne bo1 (by decide) e) (fun g cs hb e=>hb.ne bo1 (by decide) e)
   have hB:FuncsV 96 98 wf w.heap.size (.slice fa P1.funcs.length fc) P1.funcs:=hfv1.chg hch5 (fun g cs hb e=>hb.ne bo1 (by decide) e) (fun g cs hb e=>hb.ne bo1 (by decide) e) (fun g cs hb e=>hb.ne bo1 (by decide) e)
   clear c0 c1 c2 o0 o1 o2 o3 o4 z0 z1 z2 z3 z4 hch4 hch5
   have q0:wf.cell? ⟨w.heap.size,0,none⟩=some ((.slice none 0 0)):=b3.cell 0
   have q1:wf.cell? ⟨w.heap.size,1,none⟩=some ((.slice none 0 0)):=b3.cell 1
   have q2:wf.cell? ⟨w.heap.size,2,none⟩=some (.slice none 0 0):=b3.cell 2
   have q3:wf.cell? ⟨w.heap.size,3,none⟩=some ((.int .i64 2)):=b3.cell 3
   have q4:wf.cell? ⟨w.heap.size,4,none⟩=some ((.int .i64 pat)):=b3.cell 4
   have hr:rdP ns=(2,(pat:Int),⟨[],[]⟩):=by rw [HR.out];simp [hat]
   rw [hr]
   exact bodyPost_ret (v:=.agg #[(.slice none 0 0),(.slice none 0 0),(.slice none 0 0),(.int .i64 2),(.int .i64 pat)]) (by simp [results,Try.results47,go_sem,q0,q1,q2,q3,q4]) rfl ⟨_,_,rfl,TypesV.nil _ _,FuncsV.nil _ _ _ _,fun _=>⟨rfl,rfl⟩,hD⟩
  ·have hat':(ns.length:Int)<=(pat:Int):=by omega
   go_wp2
   have b3:=(((((bo1.set 0 (.slice ta P1.types.length tc)).set 1 (.slice fa P1.funcs.length fc)).set 2 (.slice none 0 0)).set 3 (.int .i64 0)).set 4 (.int .i64 0)).alloc (Obj.cells #[.slice ta P1.types.length tc,.slice fa P1.funcs.length fc] 35)
   have hch4:=chg_set5 w1 w.heap.size (.slice ta P1.types.length tc) (.slice fa P1.funcs.length fc) (.slice none 0 0) (.int .i64 0) (.int .i64 0)
   have hch5:=hch4.alloc (Obj.cells #[.slice ta P1.types.length tc,.slice fa P1.funcs.length fc] 35)
   generalize ((((((w1.setCell ⟨w.heap.size,0,none⟩ (.slice ta P1.types.length tc)).setCell ⟨w.heap.size,1,none⟩ (.slice fa P1.funcs.length fc)).setCell ⟨w.heap.size,2,none⟩ ()).setCell ⟨w.heap.size,3,none⟩ oO).setCell ⟨w.heap.size,4,none⟩ oO).alloc (Obj.cells #[.slice ta P1.types.length tc,.slice fa P1.funcs.length fc] 35))=wf at *
   have hD:Chg () w wf:=ch1.trans' hch5 (fun i hi e=>by omega)
   have hA:TypesV wf w.heap.size (.slice ta P1.types.length tc) P1.types:=hty1.chg hch5 (fun g cs hb e=>hb.ne bo1 (by decide) e) (fun g cs hb e=>hb.ne bo1 (by decide) e)
   have hB:FuncsV 96 98 wf w.heap.size (.slice fa P1.funcs.length fc) P1.funcs:=hfv1.chg hch5 (fun g cs hb e=>hb.ne bo1 (by decide) e) (fun g cs hb e=>hb.ne bo1 (by decide) e) (fun g cs hb e=>hb.ne bo1 (by decide) e)
   clear c0 c1 c2 o0 o1 o2 o3 o4 z0 z1 z2 z3 z4 hch4 hch5
   have q0:wf.cell? ⟨w.heap.size,0,none⟩=some ((.slice ta P1.types.length tc)):=b3.cell 0
   have q1:wf.cell? ⟨w.heap.size,1,none⟩=some ((.slice fa P1.funcs.length fc)):=b3.cell 1
   have q2:wf.cell? ⟨w.heap.size,2,none⟩=some (.slice none 0 0):=b3.cell 2
   have q3:wf.cell? ⟨w.heap.size,3,none⟩=some ((.int .i64 0)):=b3.cell 3
   have q4:wf.cell? ⟨w.heap.size,4,none⟩=some ((.int .i64 0)):=b3.cell 4
   have hr:rdP ns=(0,0,P1):=by rw [HR.out];simp [hat]
   rw [hr]
   exact bodyPost_ret (v:=.agg #[(.slice ta P1.types.length tc),(.slice fa P1.funcs.length fc),(.slice none 0 0),(.int .i64 0),(.int .i64 0)]) (by simp [results,Try.results47,go_sem,q0,q1,q2,q3,q4]) rfl ⟨_,_,rfl,hA,hB,fun e=>absurd rfl e,hD⟩
end Go.Proofs.Ytnfnbcbadakofaa
