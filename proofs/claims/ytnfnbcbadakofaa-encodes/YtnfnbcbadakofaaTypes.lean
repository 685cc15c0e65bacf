import Derived.Test.YtnfnbcbadakofaaTake
namespace Go.Proofs.Ytnfnbcbadakofaa
open Go.RowKit
def tkL (ns:List Int) (hi:Int):Nat->Nat × Bool->List Int × (Nat × Bool)
 | 0,s=>([],s)
 | k+1,s=>((tkL ns hi k s).1++[(tk ns 0 hi (tkL ns hi k s).2).1],(tk ns 0 hi (tkL ns hi k s).2).2)
theorem tkL_len (ns:List Int) (hi:Int) (k:Nat) (s:Nat × Bool):(tkL ns hi k s).1.length=k:=by
 induction k with
 | zero=>rfl
 | succ k ih=>simp [tkL,ih]
theorem info_of {P:Program} {t:TypeId} {z:Value} {s b:Nat} (h:(P.info? t).map (fun i=>(i.zero,i.size,i.bytes))=some (some z,s,b)) :
 ∃ i:TypeInfo,P.info? t=some i/\i.zero=some z/\i.size=s/\i.bytes=b:=by
 cases hi:P.info? t with
 | none=>rw [hi] at h;cases h
 | some i=>rw [hi] at h;simp at h;exact ⟨i,rfl,h.1,h.2.1,h.2.2⟩
theorem info3:∃ i:TypeInfo,Try.prog.info? 3=some i/\i.zero=some (.int .i64 0)/\i.size=1/\i.bytes=8:=info_of (by kernel_rfl)
set_option maxHeartbeats 400000 in
set_option maxRecDepth 100000 in
theorem takeTypes_any (rb:Nat) (nv:Value) (ns:List Int) (s:Nat × Bool) (c hi:Int) (w:World) (h:RS w rb nv ns s) (hl:ns.length<=10000) (hc:c<=10000) :
 Calls Try.prog 93 #[.pointer rb,c,hi] w fun e w'=>∃ v,e=.returned v/\IntsV w' w.heap.size v (tkL ns hi c.toNat s).1/\RS w' rb nv ns (tkL ns hi c.toNat s).2/\Chg (fun k=>k=rb) w w':=by
 obtain ⟨i,hi1,hi2,hi3,hi4⟩:=info3
 have Hi1:=hid hi1
 have Hi2:=hid hi2
 have Hi3:=hid hi3
 have Hi4:=hid hi4
 clear hi1 hi2 hi3 hi4
 go_enter Try.func93,Try.ntmps93
 go_wp2
 go_loopw [7,8] (fun v i wr=>∃ k:Nat,k<=c.toNat/\i=.int .i64 k/\IntsV wr w.heap.size v (tkL ns hi k s).1/\RS wr rb nv ns (tkL ns hi k s).2/\Chg (fun k=>k=rb) w wr) (fun _ i _=>c.toNat - (intOf i).toNat)
 case atStart=>exact ⟨0,Nat.zero_le _,rfl,World.ownsRow_nil _ _ _ _,h,Chg.refl _ _⟩
 case round =>
  obtain ⟨k,hk,rfl,hown,hrs,hch⟩:=hrel
  by_cases hlt:(k:Int) < c
  ·go_wp2_with fail
   refine (take_any rb nv ns _ 0 hi _ hrs hl).mono ?_
   rintro e w1 ⟨rfl,hrs1,hch1⟩
   have hown1:IntsV w1 w.heap.size u7 (tkL ns hi k s).1:=hown.rs hrs.1 hch1
   have hsz:w.heap.size<=w1.heap.size:=Nat.le_trans hch.size hch1.size
   generalize hX:(tk ns 0 hi (tkL ns hi k s).2).1=X
   have HX:=hid hX
   clear hX
   go_wp2_with (at_builtin;refine wpList_append_lies _ rfl _ _ 47 rfl w.heap.size 3 i (.int .i64 0) 1 8 Try.underlying47 Hi1.out Hi2.out Hi3.out Hi4.out rfl (by decide) _ _ _ rfl (World.ownsRow.alloc hown1 _) ⟨w1.heap.size,0,none⟩ 1 1 [.int .i64 X] rfl rfl ?c1 ?c2 (by decide) ?c3 ?c4 ?c5 _ rfl ?_)
   case c1=>exact cell_one_new _ _ _
   case c2=>intro u hu;simp at hu;subst hu;rfl
   case c3=>rw [tkL_len];unfold maxLen;omega
   case c4=>rw [tkL_len];omega
   case c5=>simp;omega
   ·intro g cap w2 hown2 hgrow hat hlt2
    go_wp2
    have hch2:Chg (fun k=>k=rb) w w2:=(((hch.trans hch1).alloc _).grown hgrow (fun k hk=>.inr (hown1.lt k hk).1))
    have hrd2:Rd w2 rb nv (tk ns 0 hi (tkL ns hi k s).2).2:=(hrs1.1.alloc _).grown hgrow (fun e=>by have:=(hown1.lt rb e.symm).1;have:=h.lt;omega)
    refine ⟨⟨k+1,by omega,rfl,?_,⟨hrd2,h.2.rs h.1 hch2⟩,hch2⟩,by simp [intOf];omega⟩
    rw [<-HX.out,tkL_len] at hown2
    have e3:=tkL_len ns hi k s
    unfold IntsV
    simp only [tkL,ints,List.map_append,List.length_append,List.map_cons,List.map_nil,List.length_cons,List.length_nil,e3] at hown2 ⊢
    exact hown2
  ·go_wp2
   go_ret
   have e1:c.toNat=k:=by omega
   rw [e1]
   exact ⟨u7,rfl,hown,hrs,hch⟩
end Go.Proofs.Ytnfnbcbadakofaa
