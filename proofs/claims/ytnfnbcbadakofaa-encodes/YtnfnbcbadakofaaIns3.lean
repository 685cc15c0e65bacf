import Derived.Test.YtnfnbcbadakofaaIns2
namespace Go.Proofs.Ytnfnbcbadakofaa
open Go.RowKit
theorem Blk.new' {w:World} {b:Nat} (h:w.heap.size=b) (cs:Array Value) (e:TypeId):Blk (w.alloc (.cells cs e)) b cs e:=by subst h;exact Blk.new w cs e
theorem chg_set3 (w:World) (b:Nat) (x y z:Value):Chg (fun k=>k=b) w (((w.setCell ⟨b,0,none⟩ x).setCell ⟨b,1,none⟩ y).setCell ⟨b,2,none⟩ z):=by
 have h0:Chg (fun k=>k=b) w w:=Chg.refl _ w
 have h1:=h0.setCell ⟨b,0,none⟩ x (Or.inl rfl)
 have h2:=h1.setCell ⟨b,1,none⟩ y (Or.inl rfl)
 exact h2.setCell ⟨b,2,none⟩ z (Or.inl rfl)
theorem RS.chg {S:Nat->Prop} {w w':World} {rb:Nat} {nv:Value} {ns:List Int} {s:Nat × Bool} (h:RS w rb nv ns s) (k:Chg S w w') (h1:¬ S rb) (h2:∀ g cs,Blk w g cs 3->¬ S g):RS w' rb nv ns s:=
 ⟨h.1.chg k h1,own_chg h.2 k (fun g hg=>by obtain ⟨cs,hb⟩:=own_blk h.2 hg;exact h2 g cs hb)⟩
theorem RS.new {w w':World} {rb:Nat} {nv:Value} {ns:List Int} {s:Nat × Bool} (h:RS w rb nv ns s) (k:Chg () w w'):RS w' rb nv ns s:=h.chg k (fun e=>e) (fun _ _ _ e=>e)
theorem TypesV.new {w w':World} {base:Nat} {v:Value} {ls:List (List Int)} (h:TypesV w base v ls) (k:Chg () w w'):TypesV w' base v ls:=h.chg k (fun _ _ _ e=>e) (fun _ _ _ e=>e)
theorem TypesV.rs {w w':World} {rb:Nat} {nv:Value} {s:Nat × Bool} {base:Nat} {v:Value} {ls:List (List Int)} (h:TypesV w base v ls) (hr:Rd w rb nv s) (k:Chg (fun k=>k=rb) w w'):TypesV w' base v ls:=
 h.chg k (fun _ _ hb e=>(hb.ne hr (by decide)) e) (fun _ _ hb e=>(hb.ne hr (by decide)) e)
theorem Chg.ofNew {S:Nat->Prop} {w w':World} (h:Chg () w w'):Chg S w w':=h.mono (fun _ _ e=>e.elim)
theorem tk0 (ns:List Int) (hi:Int) (s:Nat × Bool) (h:0<=hi):0<=(tk ns 0 hi s).1/\(tk ns 0 hi s).1<=hi:=by
 unfold tk;repeat' split
 ·exact ⟨Int.le_refl _,h⟩
 ·exact ⟨Int.le_refl _,h⟩
 ·constructor <;> simp_all <;> omega
def tkI (ns:List Int) (ls:List (List Int)) (fu lo co:Int) (s:Nat × Bool):(Int × Int × Int) × (Nat × Bool):=
 let r1:=tk ns 0 18 s
 let r2:=tk ns (bA ls.length fu lo co r1.1).1 (bA ls.length fu lo co r1.1).2 r1.2
 let r3:=tk ns 0 (gB ls r1.1 r2.1) r2.2
 ((r1.1,r2.1,r3.1),r3.2)
theorem flds_len {ls:List (List Int)} (h:∀ j,(ls.getD j []).length<=10000) (a:Int):(flds ls a).length<=10000:=by
 unfold flds;split
 ·simp
 ·exact h _
set_option maxHeartbeats 1000000 in
set_option maxRecDepth 100000 in
theorem takeIns_core (rb:Nat) (nv:Value) (ns:List Int) (s:Nat × Bool) (a:Option Addr) (cap:Nat) (ls:List (List Int)) (fu lo co:Int) (w:World) (base:Nat) (h:RS w rb nv ns s) (hl:ns.length<=10000) (ht:TypesV w base (.slice a ls.length cap) ls)
 (hn:ls.length<=10000) (hls:∀ j,(ls.getD j []).length<=10000) (hlo:0<=lo) (hlo2:lo<=10000) (hco:0<=co) (hco2:co<=10000) (hfu:0<=fu) (hfu2:fu<=10000)
 (r1 r2 r3:Int × (Nat × Bool)) (bb:Int × Int) (gg:Int) (H1:Hid (tk ns 0 18 s=r1)) (HB:Hid (bA ls.length fu lo co r1.1=bb)) (H2:Hid (tk ns bb.1 bb.2 r1.2=r2)) (HG:Hid (gB ls r1.1 r2.1=gg)) (H3:Hid (tk ns 0 gg r2.2=r3))
 (ho:0<=r1.1/\r1.1<=18) :
 Calls Try.prog 121 #[.pointer rb,.agg #[.slice a ls.length cap,fu,lo,co]] w fun e w' =>
  e=.returned (.agg #[r1.1,r2.1,r3.1])/\RS w' rb nv ns r3.2/\Chg (fun k=>k=rb) w w':=by
 have hrlt:=h.lt
 have hfl:=flds_len hls r2.1
 clear hls
 go_enter Try.func121,Try.ntmps121
 go_wp2_with fail
 have k0:Chg () w ((w.alloc (Obj.cells #[.slice a ls.length cap,fu,lo,co] 177)).alloc (Obj.cells #[oO,oO,oO] 98)):=((Chg.refl _ w).alloc _).alloc _
 have b1:Blk _ w.heap.size _ 177:=(Blk.new w #[.slice a ls.length cap,.int .i64 fu,.int .i64 lo,.int .i64 co] 177).alloc (Obj.cells #[oO,oO,oO] 98)
 have b2:Blk _ (w.heap.size+1) _ 98:=Blk.new' (w:=w.alloc (Obj.cells #[.slice a ls.length cap,fu,lo,co] 177)) (by simp) #[oO,oO,oO] 98
 have hrs:=h.new k0
 have ht0:=ht.new k0
 generalize ((w.alloc (Obj.cells #[.slice a ls.length cap,fu,lo,co] 177)).alloc (Obj.cells #[oO,oO,oO] 98))=w0 at *
 refine (take_any rb nv ns _ 0 18 _ hrs hl).mono ?_
 rw [H1.out]
 rintro e w1 ⟨rfl,hrs1,hch1⟩
 have ht1:=ht0.rs hrs.1 hch1
 have b1':=b1.chg hch1 (by omega)
 have b2':=b2.chg hch1 (by omega)
 have k1:=(Chg.ofNew (S:=fun k=>k=rb) k0).trans hch1
 clear b1 b2 k0 hrs ht0 hch1
 have c0:w1.cell? ⟨w.heap.size,0,none⟩=some (.slice a ls.length cap):=b1'.cell 0
 have c1:w1.cell? ⟨w.heap.size,1,none⟩=some (.int .i64 fu):=b1'.cell 1
 have c2:w1.cell? ⟨w.heap.size,2,none⟩=some (.int .i64 lo):=b1'.cell 2
 have c3:w1.cell? ⟨w.heap.size,3,none⟩=some (.int .i64 co):=b1'.cell 3
 go_wp2_with fail
 refine (boundsA_any a ls.length cap fu lo co _ _ ho.1 ho.2 hn hlo hlo2 hco hco2 hfu hfu2).mono ?_
 rw [HB.out]
 rintro e w2 ⟨rfl,hch2⟩
 clear c0 c1 c2 c3
 have ht2:=ht1.new hch2
 have b1:=b1'.chg hch2 (fun e=>e)
 have b2:=b2'.chg hch2 (fun e=>e)
 have hrs2:=hrs1.new hch2
 have k2:=k1.trans (Chg.ofNew hch2)
 clear b1' b2' hrs1 ht1 hch2 k1
 go_wp2_with fail
 refine (take_any rb nv ns _ _ _ _ hrs2 hl).mono ?_
 rw [H2.out]
 rintro e w3 ⟨rfl,hrs3,hch3⟩
 have ht3:=ht2.rs hrs2.1 hch3
 have b1':=b1.chg hch3 (by omega)
 have b2':=b2.chg hch3 (by omega)
 have k3:=k2.trans hch3
 clear b1 b2 hrs2 ht2 hch3 k2
 have c0:w3.cell? ⟨w.heap.size,0,none⟩=some (.slice a ls.length cap):=b1'.cell 0
 have c1:w3.cell? ⟨w.heap.size,1,none⟩=some (.int .i64 fu):=b1'.cell 1
 have c2:w3.cell? ⟨w.heap.size,2,none⟩=some (.int .i64 lo):=b1'.cell 2
 have c3:w3.cell? ⟨w.heap.size,3,none⟩=some (.int .i64 co):=b1'.cell 3
 go_wp2_with fail
 refine (greatestB_any _ ls fu lo co _ _ _ base ht3 hn hfl).mono ?_
 rw [HG.out]
 rintro e w4 ⟨rfl,hch4⟩
 clear c0 c1 c2 c3
 have b2:=b2'.chg hch4 (fun e=>e)
 have hrs4:=hrs3.new hch4
 have k4:=k3.trans (Chg.ofNew hch4)
 clear b1' b2' hrs3 ht3 hch4 k3
 go_wp2_with fail
 refine (take_any rb nv ns _ _ _ _ hrs4 hl).mono ?_
 rw [H3.out]
 rintro e w5 ⟨rfl,hrs5,hch5⟩
 have b2':=b2.chg hch5 (by omega)
 have k5:=k4.trans hch5
 clear b2 hrs4 hch5 k4
 have d0:w5.cell? ⟨w.heap.size+1,0,none⟩=some (.int .i64 0):=b2'.cell 0
 have d1:w5.cell? ⟨w.heap.size+1,1,none⟩=some (.int .i64 0):=b2'.cell 1
 have d2:w5.cell? ⟨w.heap.size+1,2,none⟩=some (.int .i64 0):=b2'.cell 2
 have f0:=b2'.frozen 0
 have f1:=b2'.frozen 1
 have f2:=b2'.frozen 2
 go_wp2
 have b3:=((b2'.set 0 (.int .i64 r1.1)).set 1 (.int .i64 r2.1)).set 2 (.int .i64 r3.1)
 have hfin:RS (((w5.setCell ⟨w.heap.size+1,0,none⟩ r1.1).setCell ⟨w.heap.size+1,1,none⟩ r2.1).setCell ⟨w.heap.size+1,2,none⟩ r3.1) rb nv ns r3.2:=
  hrs5.chg (chg_set3 w5 (w.heap.size+1) _ _ _) (by omega) (fun g cs hb e=>hb.ne b2' (by decide) e)
 have hk:Chg (fun k=>k=rb) w (((w5.setCell ⟨w.heap.size+1,0,none⟩ r1.1).setCell ⟨w.heap.size+1,1,none⟩ r2.1).setCell ⟨w.heap.size+1,2,none⟩ r3.1):=
  k5.trans' (chg_set3 w5 (w.heap.size+1) _ _ _) (fun i hi e=>by omega)
 generalize (((w5.setCell ⟨w.heap.size+1,0,none⟩ r1.1).setCell ⟨w.heap.size+1,1,none⟩ r2.1).setCell ⟨w.heap.size+1,2,none⟩ r3.1)=wf at *
 have q0:wf.cell? ⟨w.heap.size+1,0,none⟩=some (.int .i64 r1.1):=b3.cell 0
 have q1:wf.cell? ⟨w.heap.size+1,1,none⟩=some (.int .i64 r2.1):=b3.cell 1
 have q2:wf.cell? ⟨w.heap.size+1,2,none⟩=some (.int .i64 r3.1):=b3.cell 2
 exact bodyPost_ret (v:=.agg #[r1.1,r2.1,r3.1]) (by simp [results,Try.results121,go_sem,q0,q1,q2]) rfl ⟨rfl,hfin,hk⟩
theorem takeIns_any (rb:Nat) (nv:Value) (ns:List Int) (s:Nat × Bool) (tv:Value) (ls:List (List Int)) (fu lo co:Int) (w:World) (base:Nat) (h:RS w rb nv ns s) (hl:ns.length<=10000) (ht:TypesV w base tv ls)
 (hn:ls.length<=10000) (hls:∀ j,(ls.getD j []).length<=10000) (hlo:0<=lo) (hlo2:lo<=10000) (hco:0<=co) (hco2:co<=10000) (hfu:0<=fu) (hfu2:fu<=10000) :
 Calls Try.prog 121 #[.pointer rb,.agg #[tv,fu,lo,co]] w fun e w' =>
  e=.returned (.agg #[.int .i64 (tkI ns ls fu lo co s).1.1,.int .i64 (tkI ns ls fu lo co s).1.2.1,.int .i64 (tkI ns ls fu lo co s).1.2.2])/\RS w' rb nv ns (tkI ns ls fu lo co s).2/\Chg (fun k=>k=rb) w w':=by
 obtain ⟨a,cap,rfl⟩:=ht.slice
 exact takeIns_core rb nv ns s a cap ls fu lo co w base h hl ht hn hls hlo hlo2 hco hco2 hfu hfu2 _ _ _ _ _ rfl rfl rfl rfl rfl (tk0 ns 18 s (by decide))
end Go.Proofs.Ytnfnbcbadakofaa
