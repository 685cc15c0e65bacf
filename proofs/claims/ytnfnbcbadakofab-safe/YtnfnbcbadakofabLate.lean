import Derived.Test.YtnfnbcbadakofabGfn
import Derived.Test.YtnfnbcbadakofabStk
import Derived.Deep.DeepAppendRoom
import Derived.Test.YtnfnbcbadakofabChk3
import Derived.Laws.BytesArg
import Derived.Test.YtnfnbcbadakofabFend
import Derived.Test.YtnfnbcbadakofabSame
import Derived.Deep.RegionHeld3
import Derived.Deep.RegionLaw
import Derived.Lib.SmallJoins
import Derived.Deep.Matrix
import Derived.Deep.Strs
import Derived.Carry
namespace Go.Proofs.Ytnfnbcbadakofab
open Go.RowKit
def entP (f:Int) (fun_:Fn) (args:List Int):Fr:=⟨f,0,args++List.replicate (fun_.locals.length - args.length) 0,[]⟩
set_option maxHeartbeats 2000000 in
set_option maxRecDepth 100000 in
theorem entered_any (f:Int) (fn:Fn) (lv:Value) (ca:Option Addr) (cn cc:Nat) (av:Value) (args:List Int) (w:World) (b1:Nat) (hl:IntsV w b1 lv fn.locals) (ha:RdI w av args) (hll:fn.locals.length<=10000) (hal:args.length<=10000) :
 Calls Try.prog 33 #[f,.agg #[fn.args,lv,fn.result,.slice ca cn cc],av] w fun e w'=>∃ v,e=.returned (.agg #[f,oO,v,()])/\IntsV w' w.heap.size v (entP f fn args).locals/\Chg () w w':=by
 obtain ⟨la,lc,rfl⟩:=hl.slice
 obtain ⟨aa,ac,rfl⟩:∃ a c,av=.slice a args.length c:=by
  rcases ha with ⟨rfl,rfl⟩ | ⟨g,o,c,rfl,_⟩
  ·exact ⟨none,0,rfl⟩
  ·exact ⟨_,_,rfl⟩
 have kb:Chg () w ((w.alloc (Obj.cells #[fn.args,.slice la fn.locals.length lc,fn.result,.slice ca cn cc] 78)).alloc (Obj.cells #[oO,oO,(),()] 63)):=((Chg.refl _ w).alloc _).alloc _
 have bx:Blk ((w.alloc (Obj.cells #[fn.args,.slice la fn.locals.length lc,fn.result,.slice ca cn cc] 78)).alloc (Obj.cells #[oO,oO,(),()] 63)) w.heap.size #[fn.args,.slice la fn.locals.length lc,fn.result,.slice ca cn cc] 78:=(Blk.new w _ 78).alloc _
 have br:Blk ((w.alloc (Obj.cells #[fn.args,.slice la fn.locals.length lc,fn.result,.slice ca cn cc] 78)).alloc (Obj.cells #[oO,oO,(),()] 63)) (w.heap.size+1) #[oO,oO,(),()] 63:=Blk.new' (w:=w.alloc (Obj.cells #[fn.args,.slice la fn.locals.length lc,fn.result,.slice ca cn cc] 78)) (by simp) _ 63
 have HA:=hid (ha.new kb)
 have HLN:Hid ((entP f fn args).locals=args++List.replicate (fn.locals.length - args.length) 0):=rfl
 clear ha hl
 go_enter Try.func33,Try.ntmps33
 go_wp2_with fail
 generalize ((w.alloc (Obj.cells #[fn.args,.slice la fn.locals.length lc,fn.result,.slice ca cn cc] 78)).alloc (Obj.cells #[oO,oO,(),()] 63))=W0 at *
 refine (joined_any _ (.slice none 0 0) args [] _ hal (by simp) HA.out (.inl ⟨rfl,rfl⟩)).mono ?_
 rintro e w1 ⟨u,rfl,hu,k1⟩
 rw [List.append_nil] at hu
 obtain ⟨ua,uc,rfl⟩:=hu.slice
 have hws:W0.heap.size<=W0.heap.size:=Nat.le_refl _
 have hbl:=bx.lt
 have hrl:=br.lt
 go_wp2_with fail
 go_loopw [7,8] (fun v iv wr=>∃ (k n:Nat) (a:Option Addr) (c:Nat),iv=.int .i64 ((args.length+k:Nat):Int)/\(k=0 \/ args.length+k<=fn.locals.length)/\v=.slice a n c/\IntsV wr W0.heap.size (.slice a n c) (args++List.replicate k 0)/\Chg () W0 wr) (fun _ iv _=>fn.locals.length - (intOf iv).toNat)
 case atStart=>exact ⟨0,args.length,ua,uc,by simp,.inl rfl,rfl,by simpa using hu,k1⟩
 case round =>
  clear hu k1 HA
  obtain ⟨k,n,a,c,rfl,hk,rfl,hI,kk⟩:=hrel
  have x1:wr.cell? ⟨w.heap.size,1,none⟩=some (.slice la fn.locals.length lc):=(bx.chg kk (fun e=>e)).cell 1
  have hsz:=kk.size
  have HK:=hid hk
  clear hk
  by_cases hlt:args.length+k < fn.locals.length
  ·have hlt':((args.length+k:Nat):Int) < (fn.locals.length:Int):=by omega
   have j1:Chg () wr (wr.alloc (Obj.cells #[oO] 3)):=(Chg.refl _ wr).alloc _
   go_wp2_with (at_builtin;refine wp_app rfl _ _ rfl W0.heap.size (.slice a n c) (.slice wr.heap.size 1 1) (args++List.replicate k 0) [0] rfl rfl ?h1 ?h2 ?h3 ?h4 ?_)
   case h1=>exact hI.chg j1 (fun _ _ _ e=>e)
   case h2=>exact lit_rd [0] 1 rfl (by unfold maxLen;omega)
   case h3=>simp;omega
   case h4=>exact Nat.le_trans hsz j1.size
   intro a7 n7 c7 w7 hn7 hI7 hch
   have k7:=app_new hI kk j1 hch
   clear hn7 hch
   go_wp2
   refine ⟨⟨k+1,n7,a7,c7,by simp;omega,.inr (by omega),rfl,?_,k7⟩,by simp [intOf];omega⟩
   rw [List.replicate_succ'];first | exact hI7 | (rw [<-List.append_assoc];exact hI7)
  ·have hlt':(fn.locals.length:Int)<=((args.length+k:Nat):Int):=by omega
   have hk:k=fn.locals.length - args.length:=by have:=HK.out;omega
   have EK:=hid hk
   have hB:=br.chg kk (fun e=>e)
   have o0:wr.cell? ⟨w.heap.size+1,0,none⟩=some (.int .i64 0):=hB.cell 0
   have o1:wr.cell? ⟨w.heap.size+1,1,none⟩=some (.int .i64 0):=hB.cell 1
   have o2:wr.cell? ⟨w.heap.size+1,2,none⟩=some (.slice none 0 0):=hB.cell 2
   have o3:wr.cell? ⟨w.heap.size+1,3,none⟩=some (.slice none 0 0):=hB.cell 3
   have z0:=hB.frozen 0
   have z1:=hB.frozen 1
   have z2:=hB.frozen 2
   have z3:=hB.frozen 3
   clear hk hlt
   go_wp2
   have b3:=((((hB.set 0 (.int .i64 f)).set 1 (.int .i64 0)).set 2 (.slice a n c)).set 3 (.slice none 0 0))
   have hkk:=chg_set4 wr (w.heap.size+1) (.int .i64 f) (.int .i64 0) (.slice a n c) (.slice none 0 0)
   have hD:=(kb.trans kk).trans' hkk (fun i hi e=>by omega)
   have hI':=hI.chg hkk (fun g cs hb e=>hb.ne hB (by decide) e)
   generalize ((((wr.setCell ⟨w.heap.size+1,0,none⟩ f).setCell ⟨w.heap.size+1,1,none⟩ oO).setCell ⟨w.heap.size+1,2,none⟩ (.slice a n c)).setCell ⟨w.heap.size+1,3,none⟩ ())=wf at *
   clear o0 o1 o2 o3 z0 z1 z2 z3
   have q0:wf.cell? ⟨w.heap.size+1,0,none⟩=some (.int .i64 f):=b3.cell 0
   have q1:wf.cell? ⟨w.heap.size+1,1,none⟩=some (.int .i64 0):=b3.cell 1
   have q2:wf.cell? ⟨w.heap.size+1,2,none⟩=some (.slice a n c):=b3.cell 2
   have q3:wf.cell? ⟨w.heap.size+1,3,none⟩=some (.slice none 0 0):=b3.cell 3
   have hek:=EK.out
   subst hek
   exact bodyPost_ret (v:=.agg #[f,oO,.slice a n c,()]) (by simp [results,Try.results33,go_sem,q0,q1,q2,q3]) rfl ⟨_,rfl,by rw [HLN.out];exact own_mono hI' kb.size,hD⟩
end Go.Proofs.Ytnfnbcbadakofab
namespace Go.Proofs.Ytnfnbcbadakofab
open Go.RowKit
structure Rn where
 heap:Int
 depth:Int
 status:Int
 words:List Int
 below:List Fr
 top:Fr
 inp:List Int
 used:Nat
 out:List Int
structure Cx where
 ls:List (List Int)
 fs:List Fn
 sps:List Spots
structure Mv where
 to:List Int
 refs:List Int
def mvP (ls:List (List Int)) (frm:List Int) (m:Mv) (ref:Int):Int × Mv:=
 if ref - 1 < 0 \/ (frm.length:Int)<=ref - 1 then (0,m)
 else if m.refs.getD (ref - 1).toNat 0 ≠ 0 then (m.refs.getD (ref - 1).toNat 0,m)
 else if (frm.length:Int) < ref+((flds ls (frm.getD (ref - 1).toNat 0)).length:Int) then (0,m)
 else ((m.to.length:Int)+1,⟨m.to++(frm.drop (ref - 1).toNat).take (1+(flds ls (frm.getD (ref - 1).toNat 0)).length),m.refs.set (ref - 1).toNat ((m.to.length:Int)+1)⟩)
def mv1 (ls:List (List Int)) (frm:List Int) (kind v:Int) (m:Mv):Int × Mv:=if kind ≠ 0 then mvP ls frm m v else (v,m)
def mvL (ls:List (List Int)) (frm:List Int) (kinds:List Int):Nat->List Int->Mv->List Int × Mv
 | _,[],m=>([],m)
 | k,v::vs,m=>((mv1 ls frm (tyAt kinds k) v m).1::(mvL ls frm kinds (k+1) vs (mv1 ls frm (tyAt kinds k) v m).2).1,(mvL ls frm kinds (k+1) vs (mv1 ls frm (tyAt kinds k) v m).2).2)
def skP (sps:List Spots) (f i:Int):List Int:=(spP sps f i).getD []
def mvFr (c:Cx) (frm:List Int) (f:Fr) (m:Mv):Fr × Mv:=
 (⟨f.fn,f.pc,(mvL c.ls frm (fnAt c.fs f.fn).locals 0 f.locals m).1,(mvL c.ls frm (skP c.sps f.fn f.pc) 0 f.stack (mvL c.ls frm (fnAt c.fs f.fn).locals 0 f.locals m).2).1⟩,
  (mvL c.ls frm (skP c.sps f.fn f.pc) 0 f.stack (mvL c.ls frm (fnAt c.fs f.fn).locals 0 f.locals m).2).2)
def mvFrs (c:Cx) (frm:List Int):List Fr->Mv->List Fr × Mv
 | [],m=>([],m)
 | f::fs,m=>((mvFr c frm f m).1::(mvFrs c frm fs (mvFr c frm f m).2).1,(mvFrs c frm fs (mvFr c frm f m).2).2)
def mvW (ls:List (List Int)) (frm:List Int):Nat->Nat->List Int->Nat->Mv->Mv
 | 0,_,_,_,m=>m
 | n+1,k,kinds,left,m =>
  if k < m.to.length then
   if left=0 then mvW ls frm n (k+1) (flds ls (m.to.getD k 0)) (flds ls (m.to.getD k 0)).length m
   else if tyAt kinds ((kinds.length:Int) - left) ≠ 0 then
    mvW ls frm n (k+1) kinds (left - 1) ⟨(mvP ls frm m (m.to.getD k 0)).2.to.set k (mvP ls frm m (m.to.getD k 0)).1,(mvP ls frm m (m.to.getD k 0)).2.refs⟩
   else mvW ls frm n (k+1) kinds (left - 1) m
  else m
def mvA (c:Cx) (R:Rn):(List Fr × Fr) × Mv:=
 let b:=mvFrs c R.words R.below ⟨[],List.replicate R.words.length 0⟩
 let t:=mvFr c R.words R.top b.2
 ((b.1,t.1),mvW c.ls R.words (6 * R.words.length) 0 [] 0 t.2)
def clrP (c:Cx) (R:Rn):Rn:={ R with words:=(mvA c R).2.to,below:=(mvA c R).1.1,top:=(mvA c R).1.2 }
def popV (s:List Int):Int:=s.getLastD 0
def pushF (f:Fr) (v:Int):Fr:={ f with stack:=f.stack++[v] }
def popF (f:Fr):Fr:={ f with stack:=f.stack.dropLast }
def popN (s:List Int) (n:Nat):List Int:=if s.length < n then [] else s.drop (s.length - n)
def resN (s:List Int) (n:Nat):List Int:=if s.length < n then s else s.take (s.length - n)
def recP (op a b:Int):Int:=
 if op=1 then (a+b) % 65536 else if op=2 then (a - b) % 65536 else if op=3 then (a * b) % 65536 else if op=4 then (if a < b then 1 else 0) else if a=b then 1 else 0
def uvP (x:Int × Int × Int) (R:Rn):Rn:=
 if x.1=0 then { R with top:=pushF R.top x.2.1 }
 else if x.1=1 \/ x.1=2 \/ x.1=3 \/ x.1=4 \/ x.1=12 then { R with top:=pushF (popF (popF R.top)) (recP x.1 (popV R.top.stack.dropLast) (popV R.top.stack)) }
 else if x.1=5 then { R with top:=pushF R.top (tyAt R.top.locals x.2.1) }
 else if x.1=6 then { R with top:={ popF R.top with locals:=if 0<=x.2.1/\x.2.1 < (R.top.locals.length:Int) then R.top.locals.set x.2.1.toNat (popV R.top.stack) else R.top.locals } }
 else if x.1=10 then { R with top:=pushF R.top 0 }
 else if x.1=11 then { R with top:=pushF (popF R.top) (if popV R.top.stack=0 then 1 else 0) }
 else if x.1=17 then { R with top:=popF R.top,out:=R.out++[popV R.top.stack] }
 else if x.1=18 then { R with top:=pushF R.top (R.inp.getD R.used 0 % 65536),used:=R.used+1 }
 else R
def mr2P (c:Cx) (t:Int) (R:Rn):Rn:=
 if R.heap < (R.words.length:Int)+((flds c.ls t).length:Int)+1 then { R with status:=4 }
 else { R with words:=R.words++t::popN R.top.stack (flds c.ls t).length,top:={ R.top with stack:=resN R.top.stack (flds c.ls t).length++[(R.words.length:Int)+1] } }
def mrP (c:Cx) (t:Int) (R:Rn):Rn:=
 mr2P c t (if R.heap < (R.words.length:Int)+((flds c.ls t).length:Int)+1 then clrP c R else R)
def urP (c:Cx) (x:Int × Int × Int) (R:Rn):Rn:=
 if x.1=7 then mrP c x.2.1 R
 else if x.1=8 then
  if popV R.top.stack=0 then { R with top:=popF R.top,status:=3 }
  else { R with top:=pushF (popF R.top) (tyAt R.words (popV R.top.stack+x.2.2)) }
 else
  if popV R.top.stack.dropLast=0 then { R with top:=popF (popF R.top),status:=3 }
  else { R with top:=popF (popF R.top),words:=if 0<=popV R.top.stack.dropLast+x.2.2/\popV R.top.stack.dropLast+x.2.2 < (R.words.length:Int) then R.words.set (popV R.top.stack.dropLast+x.2.2).toNat (popV R.top.stack) else R.words }
def clP (c:Cx) (f:Int) (R:Rn):Rn:=
 if R.depth<=(R.below.length:Int)+1 then { R with status:=5 }
 else { R with below:=R.below++[{ R.top with stack:=resN R.top.stack (argsF c.fs f).length }],top:=entP f (fnAt c.fs f) (popN R.top.stack (argsF c.fs f).length) }
def gbP (R:Rn):Rn:=
 if h:R.below=[] then { R with top:=popF R.top,out:=R.out++[popV R.top.stack],status:=1 }
 else { R with below:=R.below.dropLast,top:={ pushF (R.below.getLast h) (popV R.top.stack) with pc:=(R.below.getLast h).pc+1 } }
def incF (f:Fr):Fr:={ f with pc:=f.pc+1 }
def incR (R:Rn):Rn:={ R with top:=incF R.top }
def doP (c:Cx) (x:Int × Int × Int) (R:Rn):Rn:=
 if x.1=13 then { R with top:={ R.top with pc:=x.2.1 } }
 else if x.1=14 then { R with top:={ popF R.top with pc:=if popV R.top.stack=0 then x.2.1 else R.top.pc+1 } }
 else if x.1=15 then clP c x.2.1 R
 else if x.1=16 then gbP R
 else if x.1=7 \/ x.1=8 \/ x.1=9 then incR (urP c x R)
 else incR (uvP x R)
def insP (f:Fn) (i:Int):Int × Int × Int:=if i < 0 \/ (f.code.length:Int)<=i then (0,0,0) else f.code.getD i.toNat (0,0,0)
def nxtP (c:Cx) (R:Rn):Int × Int × Int:=insP (fnAt c.fs R.top.fn) R.top.pc
def goOnP (c:Cx):Nat->Rn->Rn × Int
 | 0,R=>(R,R.status)
 | n+1,R=>if R.status ≠ 0 then (R,R.status) else if (nxtP c R).1=18/\R.inp.length<=R.used then (R,2) else goOnP c n (doP c (nxtP c R) R)
end Go.Proofs.Ytnfnbcbadakofab
namespace Go.Proofs.Ytnfnbcbadakofab
open Go.RowKit
def recO (ls:List (List Int)):Nat->List Int->List (Option Int)
 | _,[]=>[]
 | 0,w::ws=>some w::recO ls (flds ls w).length ws
 | l+1,_::ws=>none::recO ls l ws
def recL (ls:List (List Int)) (n:Nat) (ws:List Int):List Int:=(recO ls n ws).map fun x=>x.getD 0
def badV (recs:List Int) (kind v:Int):Bool:=decide (kind ≠ 0) && decide (v ≠ 0) && decide (tyAt recs (v - 1) ≠ kind)
def tvP (ns recs:List Int):List Int->Nat × Bool->List Int × (Nat × Bool)
 | [],s=>([],s)
 | k::ks,s=>((tk ns 0 65535 s).1::(tvP ns recs ks ((tk ns 0 65535 s).2.1,(tk ns 0 65535 s).2.2 || badV recs k (tk ns 0 65535 s).1)).1,(tvP ns recs ks ((tk ns 0 65535 s).2.1,(tk ns 0 65535 s).2.2 || badV recs k (tk ns 0 65535 s).1)).2)
def twP (ls:List (List Int)) (ws recs:List Int):Nat->Nat × Bool->Nat × Bool
 | 0,s=>s
 | n+1,s=>if s.1 < ws.length/\s.2=false then twP ls ws recs n (tvP ws recs (flds ls (tk ws 1 ls.length s).1) (tk ws 1 ls.length s).2).2 else s
def twsP (c:Cx) (ns:List Int) (heap:Int) (s:Nat × Bool):List Int × (Nat × Bool):=
 let k:=tk ns 0 heap s
 let ws:=tkL ns 65535 k.1.toNat k.2
 (ws.1,(ws.2.1,ws.2.2 || (twP c.ls ws.1 (recL c.ls 0 ws.1) ws.1.length (0,false)).2))
def tfP (c:Cx) (ns recs:List Int) (f:Int) (waits:Bool) (s:Nat × Bool):Fr × (Nat × Bool):=
 let fn:=fnAt c.fs f
 let a:=tk ns 0 ((fn.code.length:Int) - 1) s
 let x:=insP fn a.1
 let p:=spP c.sps f a.1
 let ks:=if waits then frontP (p.getD []) (((p.getD []).length:Int) - ((ahead c.ls c.fs fn x.1 x.2.1 x.2.2).length:Int)) else p.getD []
 let l:=tvP ns recs fn.locals (a.2.1,a.2.2 || (!p.isSome || (waits && decide (x.1 ≠ 15))))
 let k:=tvP ns recs ks l.2
 (⟨f,a.1,l.1,k.1⟩,k.2)
def tfsP (c:Cx) (ns recs:List Int):Nat->Int->Nat × Bool->List Fr × Int × (Nat × Bool)
 | 0,f,s=>([],f,s)
 | n+1,f,s=>((tfP c ns recs f true s).1::(tfsP c ns recs n (insP (fnAt c.fs f) (tfP c ns recs f true s).1.pc).2.1 (tfP c ns recs f true s).2).1,(tfsP c ns recs n (insP (fnAt c.fs f) (tfP c ns recs f true s).1.pc).2.1 (tfP c ns recs f true s).2).2)
def tfrP (c:Cx) (ns recs:List Int) (depth:Int) (s:Nat × Bool):(List Fr × Fr) × (Nat × Bool):=
 let k:=tk ns 1 depth s
 let b:=tfsP c ns recs (k.1 - 1).toNat 0 k.2
 let t:=tfP c ns recs b.2.1 false b.2.2
 ((b.1,t.1),t.2)
def thP (ms ns:List Int) (s:Nat × Bool):(Int × Int × Int) × (Nat × Bool):=
 let m:=ms.foldl (fun s m=>(tk ns m m s).2) s
 let h:=tk ns 0 4000 m
 let d:=tk ns 1 64 h.2
 let st:=tk ns 0 5 d.2
 ((h.1,d.1,st.1),(st.2.1,st.2.2 || decide (st.1=2)))
def tuR (c:Cx) (ms ns:List Int):Rn × (Nat × Bool):=
 let h:=thP ms ns (0,false)
 if h.1.2.2=0 then
  let w:=twsP c ns h.1.1 h.2
  let f:=tfrP c ns (recL c.ls 0 w.1) h.1.2.1 w.2
  (⟨h.1.1,h.1.2.1,0,w.1,f.1.1,f.1.2,[],0,[]⟩,f.2)
 else (⟨h.1.1,h.1.2.1,h.1.2.2,[],[],⟨0,0,[],[]⟩,[],0,[]⟩,h.2)
def tuP (c:Cx) (ms ns:List Int):Option Rn:=if (tuR c ms ns).2.2=true \/ (tuR c ms ns).2.1 < ns.length then none else some (tuR c ms ns).1
def goStP (c:Cx) (R:Rn) (inp:List Int) (fuel:Nat):Rn × Int:=goOnP c fuel { R with inp:=inp }
end Go.Proofs.Ytnfnbcbadakofab
namespace Go.Proofs.Ytnfnbcbadakofab
open Go.RowKit
set_option maxHeartbeats 400000 in
theorem wrapped_any (n:Int) (w:World):Calls Try.prog 85 #[n] w fun e w'=>e=.returned (.int .i64 (n % 65536))/\w'=w:=by
 have hb:=Int.emod_nonneg n (show (65536:Int) ≠ 0 by decide)
 have hc:=Int.emod_lt_of_pos n (show (0:Int) < 65536 by decide)
 have he:(0<=n.tmod 65536/\n.tmod 65536=n % 65536) \/ (n.tmod 65536 < 0 /\ -65536 < n.tmod 65536/\n.tmod 65536+65536=n % 65536) \/ (n.tmod 65536=0/\n % 65536=0):=by
  rw [Int.tmod_eq_emod]
  split
  ·omega
  ·have:((65536:Int).natAbs:Int)=65536:=rfl
   omega
 rcases he with ⟨h0,h1⟩ | ⟨h0,h1,h2⟩ | ⟨h0,h1⟩
 ·have H:=hid h1
  clear h1 hb hc
  go_enter Try.func85,Try.ntmps85
  go_wp2
  go_ret
  exact ⟨by rw [<-H.out];rfl,rfl⟩
 ·have H:=hid h2
  clear h2 hb hc
  have hw:wrap64 (n.tmod 65536+65536)=n.tmod 65536+65536:=by unfold wrap64;omega
  go_enter Try.func85,Try.ntmps85
  go_wp2
  go_ret
  exact ⟨by rw [<-H.out];first | rfl | (simp only [hw];rfl),rfl⟩
 ·have H:=hid h1
  clear h1 hb hc
  go_enter Try.func85,Try.ntmps85
  go_wp2
  go_ret
  exact ⟨by rw [H.out];first | rfl | (simp only [h0];rfl),rfl⟩
theorem truth_any (b:Bool) (w:World):Calls Try.prog 84 #[.bool b] w fun e w'=>e=.returned (.int .i64 (if b=true then 1 else 0))/\w'=w:=by
 cases b <;> (go_enter Try.func84,Try.ntmps84;go_wp2;go_ret;exact ⟨rfl,rfl⟩)
theorem refTo_any (n:Int) (h0:-1000000<=n) (h1:n<=1000000) (w:World):Calls Try.prog 86 #[n] w fun e w'=>e=.returned (.int .i64 (n+1))/\w'=w:=by
 go_enter Try.func86,Try.ntmps86
 go_wp2
 go_ret
 exact ⟨rfl,rfl⟩
theorem fieldPlace_any (r f:Int) (h0:0<=r) (h1:r<=1000000) (h2:0<=f) (h3:f<=1000000) (w:World):Calls Try.prog 82 #[r,f] w fun e w'=>e=.returned (.int .i64 (r+f))/\w'=w:=by
 go_enter Try.func82,Try.ntmps82
 go_wp2
 go_ret
 exact ⟨rfl,rfl⟩
set_option maxHeartbeats 400000 in
theorem reckoned_any (op a b:Int) (hop:op=1 \/ op=2 \/ op=3 \/ op=4 \/ op=12) (ha:0<=a) (ha':a<=65535) (hb:0<=b) (hb':b<=65535) (w:World) :
 Calls Try.prog 83 #[op,a,b] w fun e w'=>e=.returned (.int .i64 (recP op a b))/\w'=w:=by
 rcases hop with rfl | rfl | rfl | rfl | rfl
 ·have e:recP 1 a b=(a+b) % 65536:=rfl
  rw [e]
  go_enter Try.func83,Try.ntmps83
  go_wp2_with fail
  refine (wrapped_any _ _).mono ?_
  rintro ex w1 ⟨rfl,rfl⟩
  go_wp2
  go_ret
  exact ⟨rfl,rfl⟩
 ·have e:recP 2 a b=(a - b) % 65536:=rfl
  rw [e]
  go_enter Try.func83,Try.ntmps83
  go_wp2_with fail
  refine (wrapped_any _ _).mono ?_
  rintro ex w1 ⟨rfl,rfl⟩
  go_wp2
  go_ret
  exact ⟨rfl,rfl⟩
 ·have e:recP 3 a b=(a * b) % 65536:=rfl
  rw [e]
  have h0:0<=a * b:=Int.mul_nonneg ha hb
  have h1:a * b<=65535 * 65535:=Int.mul_le_mul ha' hb' hb (by decide)
  generalize hp:a * b=p at *
  go_enter Try.func83,Try.ntmps83
  go_wp2_with fail
  refine (wrapped_any _ _).mono ?_
  rintro ex w1 ⟨rfl,rfl⟩
  go_wp2
  go_ret
  exact ⟨rfl,rfl⟩
 ·have e:recP 4 a b=if a < b then 1 else 0:=rfl
  rw [e]
  by_cases h:a < b
  ·rw [if_pos h]
   go_enter Try.func83,Try.ntmps83
   go_wp2_with fail
   refine (truth_any _ _).mono ?_
   rintro ex w1 ⟨rfl,rfl⟩
   go_wp2
   go_ret
   exact ⟨by simp,rfl⟩
  ·rw [if_neg h]
   have h':b<=a:=by omega
   go_enter Try.func83,Try.ntmps83
   go_wp2_with fail
   refine (truth_any _ _).mono ?_
   rintro ex w1 ⟨rfl,rfl⟩
   go_wp2
   go_ret
   exact ⟨by simp,rfl⟩
 ·have e:recP 12 a b=if a=b then 1 else 0:=rfl
  rw [e]
  by_cases h:a=b
  ·rw [if_pos h]
   go_enter Try.func83,Try.ntmps83
   go_wp2_with fail
   refine (truth_any _ _).mono ?_
   rintro ex w1 ⟨rfl,rfl⟩
   go_wp2
   go_ret
   exact ⟨by simp,rfl⟩
  ·rw [if_neg h]
   go_enter Try.func83,Try.ntmps83
   go_wp2_with fail
   refine (truth_any _ _).mono ?_
   rintro ex w1 ⟨rfl,rfl⟩
   go_wp2
   go_ret
   exact ⟨by simp,rfl⟩
end Go.Proofs.Ytnfnbcbadakofab
namespace Go.Proofs.Ytnfnbcbadakofab
open Go.RowKit
set_option maxHeartbeats 1000000
set_option maxRecDepth 100000
def Lies (w:World) (v v':Value):Prop:=v'.ownBlock=v.ownBlock \/ ∃ g,v'.ownBlock=some g/\w.heap.size<=g
theorem Lies.refl (w:World) (v:Value):Lies w v v:=.inl rfl
theorem wp_appL {ops:Array Oper} {rest:List Oper} {o:Oper} {a:Act} {Q:Exit->Act->World->Prop} {w:World} (hgd:o.guard=none) (s x:Operand)
 (ho:o.op=.call { callee:=.builtin .append,args:=#[s,x],argTypes:=#[24,24] }) (base:Nat) (v u:Value) (l l':List Int) (hs:a.eval s=v) (hx:a.eval x=u) (hown:IntsV w base v l) (hu:RdI w u l')
 (hlen:l.length+l'.length<=10000000) (hbase:base<=w.heap.size)
 (h:∀ x n c w',n=l.length+l'.length->IntsV w' base (.slice x n c) (l++l')->Chg (fun j=>some j=v.ownBlock) w w'->Lies w v (.slice x n c)->wpList Try.prog ops Q rest (a.put o.dst (.slice x n c)) w'):wpList Try.prog ops Q (o::rest) a w:=by
 obtain ⟨i,hi1,hi2,hi3,hi4⟩:=info3
 rcases hu with ⟨rfl,rfl⟩ | ⟨g,off,c,rfl,hle,hcap,hc⟩
 ·refine wpList_append_own_none hgd s x 24 ho base 3 i 1 Try.underlying24 hi1 v _ _ hs hown hx ?_
  obtain ⟨b,c,hv⟩:=hown.slice
  have:=h b l.length c w (by simp) (by rw [List.append_nil];rw [hv] at hown;exact hown) (Chg.refl _ w) (.inl (by rw [hv]))
  rw [hv];exact this
 ·by_cases h0:l'=[]
  ·subst h0
   rcases hown.2 with ⟨hv,h0⟩ | ⟨g0,cap,cur,hv,_,_,hle0,hcap0,_⟩
   ·refine wpList_append_own _ hgd s x 24 ho base 3 i (.int .i64 0) 1 8 Try.underlying24 hi1 hi2 hi3 hi4 rfl (by decide) v _ _ hs hown ⟨g,off,none⟩ 0 c [] hx rfl (fun j u hu=>by simp at hu) (fun u hu=>by simp at hu) (by unfold maxLen;simp at hlen;omega) (by simp at hlen;omega) hbase ?_
    intro v' w' hown' hgrow hnil
    have e:=hnil.2 ⟨hv,rfl⟩
    subst e
    have hI:IntsV w' base (.slice none 0 0) (l++[]):=by
     have:l=[]:=List.eq_nil_of_length_eq_zero h0
     subst this;exact World.ownsRow_nil _ _ _ _
    exact h none 0 0 w' (by simp [h0]) hI (chg_of_grown hgrow |>.mono (fun j _ e=>e)) (.inl (by rw [hv]))
   ·refine wpList_append_own_spare (w:=w) hgd s x 24 ho base 3 i 1 Try.underlying24 hi1 hi3 g0 l.length cap (ints l) (by rw [hs,hv]) (by rw [<-hv];exact hown) ⟨g,off,none⟩ 0 c [] hx rfl (fun j u hu=>by simp at hu) (fun u hu=>by simp at hu) (by omega) ?_
    intro w' hown' hgrow
    have hI:IntsV w' base (.slice g0 (l.length+0) cap) (l++[]):=by unfold IntsV;simpa [ints] using hown'
    exact h _ _ cap w' (by simp) hI (by rw [hv];exact (chg_of_grown hgrow).mono (fun j _ e=>e)) (.inl (by rw [hv];rfl))
  ·refine wpList_append_lies w hgd s x 24 ho base 3 i (.int .i64 0) 1 8 Try.underlying24 hi1 hi2 hi3 hi4 rfl (by decide) v _ _ hs hown ⟨g,off,none⟩ l'.length c (ints l') hx (by simp [ints]) (RdI.news hc) (fun u hu=>by simp only [ints,List.mem_map] at hu;obtain ⟨y,_,rfl⟩:=hu;rfl) (List.length_pos_iff.2 h0) (by unfold maxLen;omega) (by omega) hbase _ rfl ?_
   intro g' cap w' hown' hgrow hlies _
   have hI:IntsV w' base (.slice g' (l.length+l'.length) cap) (l++l'):=by unfold IntsV;simpa [ints] using hown'
   refine h _ _ cap w' rfl hI (chg_of_grown hgrow |>.mono (fun j _ e=>e)) ?_
   rcases hlies with q | q
   ·exact .inl (by rw [q];rfl)
   ·exact .inr ⟨g',rfl,by omega⟩
structure FrEnd (S:Nat->Prop) (w w':World) (b off:Nat) (cs:Array Value) (e:TypeId) (base:Nat) (kv:Value) (l:List Int):Prop where
 mk ::
 ex:∃ kv',Blk w' b (cs.setIfInBounds (off+3) kv') e/\Lies w kv kv'/\IntsV w' base kv' l
 ch:Chg S w w'
theorem arr_same {cs:Array Value} {i:Nat} {v:Value} (h:cs[i]?=some v):cs.setIfInBounds i v=cs:=by
 apply Array.ext_getElem?
 intro j
 rw [Array.getElem?_setIfInBounds]
 by_cases hj:i=j
 ·subst hj
  rw [if_pos rfl]
  have:=(Array.getElem?_eq_some_iff.1 h).1
  rw [if_pos this,h]
 ·rw [if_neg hj]
theorem pop_any (b off:Nat) (cs:Array Value) (e:TypeId) (kv:Value) (l:List Int) (base:Nat) (w:World) (hb:Blk w b cs e) (hk:cs[off+3]?=some kv) (he:3 ≠ e) (hI:IntsV w base kv l) (hl:l.length<=10000) :
 Calls Try.prog 58 #[.pointer (some ⟨b,off,none⟩)] w fun ex w'=>ex=.returned (.int .i64 (popV l))/\FrEnd (fun j=>j=b) w w' b off cs e base kv l.dropLast:=by
 have hne:=own_ne hI hb he
 have x3:w.cell? ⟨b,off+3,none⟩=some kv:=(hb.cell (off+3)).trans hk
 have f3:=hb.frozen (off+3)
 have HB:=hid hb
 clear hb
 by_cases h0:l=[]
 ·subst h0
  obtain ⟨a,c,rfl⟩:=hI.slice
  have HK:Hid (cs[off+3]?=some (.slice a 0 c)):=hk
  have HI:Hid (IntsV w base (.slice a 0 c) []):=hI
  clear hk hI
  go_enter Try.func58,Try.ntmps58
  go_wp2
  go_ret
  exact ⟨rfl,⟨⟨_,by rw [arr_same HK.out];exact HB.out,.refl _ _,HI.out⟩,Chg.refl _ _⟩⟩
 ·have hlp:0 < l.length:=List.length_pos_iff.2 h0
  obtain ⟨g,cap,rfl,hbg,hle,hcap,hc⟩:=hI.form hlp
  have y:=hc (l.length - 1) (by omega)
  have hT:=hI.take (l.length - 1) (by omega) (by intro q;cases q)
  rw [<-List.dropLast_eq_take] at hT
  have HV:Hid (l.getD (l.length - 1) 0=popV l):=by
   show l.getD (l.length - 1) 0=popV l
   unfold popV
   rw [List.getD_eq_getElem?_getD,<-List.getLast?_eq_getElem?,List.getLastD_eq_getLast?]
  have e1:(l.length:Int) - 1=((l.length - 1:Nat):Int):=by omega
  have HI:=hI
  have HT:=hid hT
  clear hT hc hI HI
  generalize l.getD (l.length - 1) 0=t at *
  generalize hm:l.length - 1=m at *
  have hn:l.length=m+1:=by omega
  rw [hn] at x3 hk hle e1
  clear hm
  have hgb:g ≠ b:=fun q=>hne (by rw [q];rfl)
  go_enter Try.func58,Try.ntmps58
  go_wp2
  go_ret
  exact ⟨by rw [<-HV.out];rfl,⟨⟨.slice g m cap,HB.out.set (off+3) _,.inl rfl,own_set HT.out _ _ (fun q=>hgb (by simpa [Value.ownBlock] using q))⟩,(Chg.refl _ w).setCell _ _ (.inl rfl)⟩⟩
theorem push_any (b off:Nat) (cs:Array Value) (e:TypeId) (kv:Value) (l:List Int) (v:Int) (base:Nat) (w:World) (hb:Blk w b cs e) (hk:cs[off+3]?=some kv) (he:3 ≠ e) (hI:IntsV w base kv l) (hl:l.length<=100000) (hbase:base<=w.heap.size) :
 Calls Try.prog 80 #[.pointer (some ⟨b,off,none⟩),v] w fun ex w'=>ex=.returned (.tuple #[])/\FrEnd (fun j=>j=b \/ some j=kv.ownBlock) w w' b off cs e base kv (l++[v]):=by
 have hne:=own_ne hI hb he
 have x3:w.cell? ⟨b,off+3,none⟩=some kv:=(hb.cell (off+3)).trans hk
 have hlt:=hb.lt
 have HB:=hid hb
 clear hb
 obtain ⟨a,c,rfl⟩:=hI.slice
 have HK:=hid hk
 clear hk
 have HI:=hid hI
 have j1:Chg () w (w.alloc (Obj.cells #[v] 3)):=(Chg.refl _ w).alloc _
 go_enter Try.func80,Try.ntmps80
 go_wp2_with (at_builtin;refine wp_appL rfl _ _ rfl base (.slice a l.length c) (.slice w.heap.size 1 1) l [v] rfl rfl ?h1 ?h2 ?h3 ?h4 ?_)
 case h1=>exact HI.out.chg j1 (fun _ _ _ e=>e)
 case h2=>exact lit_rd [v] 1 rfl (by unfold maxLen;omega)
 case h3=>simp;omega
 case h4=>exact Nat.le_trans hbase j1.size
 intro a2 n2 c2 w2 hn2 hI2 hch2 hl2
 have hbk:Blk w2 b cs e:=(HB.out.chg j1 (fun q=>q)).chg hch2 (fun q=>hne q.symm)
 have f3:=hbk.frozen (off+3)
 have x3':w2.cell? ⟨b,off+3,none⟩=some (.slice a l.length c):=(hbk.cell (off+3)).trans HK.out
 have hlt2:=hbk.lt
 have hnb:(Value.slice a2 n2 c2).ownBlock ≠ some b:=own_ne hI2 hbk he
 have hL:Lies w (.slice a l.length c) (.slice a2 n2 c2):=by
  rcases hl2 with q | ⟨g,q,hg⟩
  ·exact .inl q
  ·exact .inr ⟨g,q,Nat.le_trans j1.size hg⟩
 have HN:=hid hn2
 clear hn2
 go_wp2
 refine bodyPost_end (v:=.tuple #[]) (by simp [results,Try.results80]) rfl ⟨rfl,⟨⟨_,hbk.set (off+3) _,hL,own_set hI2 _ _ hnb⟩,?_⟩⟩
 exact (Chg.setCell (S:=fun j=>j=b \/ some j=(Value.slice a l.length c).ownBlock) ((j1.mono (fun _ _ q=>q.elim)).trans (hch2.mono (fun _ _ q=>.inr q))) _ _ (.inl (.inl rfl)))
theorem IntsV.rdrop {w:World} {base:Nat} {a:Option Addr} {n c:Nat} {l:List Int} (h:IntsV w base (.slice a n c) l) (k:Nat) (hk:k < l.length):∃ g,a=some ⟨g,0,none⟩/\RdI w (.slice (some ⟨g,k,none⟩) (l.length - k) (c - k)) (l.drop k):=by
 obtain ⟨g,cap,he,_,hle,hcap,hc⟩:=h.form (by omega)
 simp only [Value.slice.injEq] at he
 obtain ⟨rfl,rfl,rfl⟩:=he
 refine ⟨g,rfl,.inr ⟨g,k,c - k,?_,?_,?_,?_⟩⟩
 ·rw [List.length_drop]
 ·rw [List.length_drop];omega
 ·omega
 ·intro j hj
  rw [List.length_drop] at hj
  have:=hc (k+j) (by omega)
  rw [this]
  rw [List.getD_eq_getElem?_getD,List.getD_eq_getElem?_getD,List.getElem?_drop]
def PaEnd (w:World) (b off:Nat) (cs:Array Value) (e:TypeId) (base:Nat) (kv:Value) (l:List Int) (n:Nat) (ex:Ending) (w':World):Prop:=
 ∃ u,ex=.returned u/\IntsV w' w.heap.size u (popN l n)/\FrEnd (fun j=>j=b) w w' b off cs e base kv (resN l n)
theorem popAll_any (b off:Nat) (cs:Array Value) (e:TypeId) (kv:Value) (l:List Int) (n:Nat) (base:Nat) (w:World) (hb:Blk w b cs e) (hk:cs[off+3]?=some kv) (he:3 ≠ e) (hI:IntsV w base kv l) (hl:l.length<=10000) (hn:n<=10000) :
 Calls Try.prog 78 #[.pointer (some ⟨b,off,none⟩),n] w (PaEnd w b off cs e base kv l n):=by
 have hne:=own_ne hI hb he
 have x3:w.cell? ⟨b,off+3,none⟩=some kv:=(hb.cell (off+3)).trans hk
 have HB:=hid hb
 clear hb
 obtain ⟨a,c,rfl⟩:=hI.slice
 have HK:=hid hk
 have HI:=hid hI
 clear hk
 by_cases h0:l.length < n
 ·have h0':(l.length:Int) - (n:Int) < 0:=by omega
  have HP:Hid (popN l n=[]/\resN l n=l):=by
   show popN l n=[]/\resN l n=l
   unfold popN resN;rw [if_pos h0,if_pos h0];exact ⟨rfl,rfl⟩
  clear hI
  go_enter Try.func78,Try.ntmps78
  go_wp2
  go_ret
  refine ⟨_,rfl,?_,⟨⟨_,by rw [arr_same HK.out];exact HB.out,.refl _ _,?_⟩,Chg.refl _ _⟩⟩
  ·rw [HP.out.1];exact World.ownsRow_nil _ _ _ _
  ·rw [HP.out.2];exact HI.out
 ·have HP:Hid (popN l n=l.drop (l.length - n)/\resN l n=l.take (l.length - n)):=by
   show popN l n=_/\resN l n=_
   unfold popN resN;rw [if_neg h0,if_neg h0];exact ⟨rfl,rfl⟩
  have e1:(l.length:Int) - (n:Int)=((l.length - n:Nat):Int):=by omega
  generalize hm:l.length - n=m at *
  have hm':m<=l.length:=by omega
  have hmi:(m:Int)<=(l.length:Int):=by omega
  clear hI h0 hm
  rcases HI.out.two with ⟨hv,hl0⟩ | ⟨g,c',hv⟩
  ·simp only [Value.slice.injEq] at hv
   obtain ⟨rfl,_,rfl⟩:=hv
   have hz:l.length=0:=by rw [hl0];rfl
   have hm0:m=0:=by omega
   subst hm0
   rw [hz] at x3 e1 HK HI hmi
   go_enter Try.func78,Try.ntmps78
   go_wp2_with fail
   refine (joined_any (.slice none 0 0) (.slice none 0 0) [] [] _ (by simp) (by simp) (.inl ⟨rfl,rfl⟩) (.inl ⟨rfl,rfl⟩)).mono ?_
   rintro ex w1 ⟨u,rfl,hu,k1⟩
   obtain ⟨ua,uc,rfl⟩:=hu.slice
   have hbk:=HB.out.chg k1 (fun q=>q)
   have x3':w1.cell? ⟨b,off+3,none⟩=some (.slice none 0 0):=(hbk.cell (off+3)).trans HK.out
   have f3:=hbk.frozen (off+3)
   clear x3
   go_wp2
   go_ret
   refine ⟨_,rfl,?_,⟨⟨.slice none 0 0,hbk.set (off+3) _,.inl rfl,?_⟩,?_⟩⟩
   ·rw [HP.out.1,hl0];exact own_set hu ⟨b,off+3,none⟩ _ (own_ne hu hbk he)
   ·rw [HP.out.2,hl0];exact World.ownsRow_nil _ _ _ _
   ·exact (k1.mono (fun _ _ q=>q.elim)).setCell _ _ (.inl rfl)
  ·simp only [Value.slice.injEq] at hv
   obtain ⟨rfl,_,rfl⟩:=hv
   have hcl:l.length<=c:=by
    rcases HI.out.2 with ⟨q,_⟩ | ⟨g',cap,cur,q,_,_,q2,_⟩
    ·cases q
    ·simp only [Value.slice.injEq] at q;obtain ⟨_,_,rfl⟩:=q;exact q2
   have hcm2:c<=maxLen:=by
    rcases HI.out.2 with ⟨q,_⟩ | ⟨g',cap,cur,q,_,_,q2,q3,_⟩
    ·cases q
    ·simp only [Value.slice.injEq] at q;obtain ⟨_,_,rfl⟩:=q;exact q3
   have hgb:g ≠ b:=fun q=>hne (by rw [q];rfl)
   have hT:=HI.out.take m hm' (by intro q;cases q)
   have HT:=hid hT
   clear hT hne
   by_cases hcm:m < c
   ·have hrd:RdI w (.slice (some ⟨g,m,none⟩) (l.length - m) (c - m)) (l.drop m):=by
     by_cases hlt:m < l.length
     ·obtain ⟨g',q1,q2⟩:=HI.out.rdrop m hlt
      simp only [Option.some.injEq,Addr.mk.injEq] at q1
      obtain ⟨rfl,_⟩:=q1
      exact q2
     ·have:l.drop m=[]:=List.drop_eq_nil_of_le (by omega)
      rw [this]
      exact .inr ⟨g,m,c - m,by rw [show l.length - m=0 by omega];rfl,by simp,by omega,fun j hj=>by simp at hj⟩
    have HR:=hid hrd
    clear hrd
    have hcm0:c - m ≠ 0:=by omega
    generalize hN:l.length=N at *
    go_enter Try.func78,Try.ntmps78
    go_wp2_with fail
    refine (joined_any (.slice (some ⟨g,m,none⟩) (N - m) (c - m)) (.slice none 0 0) (l.drop m) [] _ (by rw [List.length_drop];omega) (by simp) HR.out (.inl ⟨rfl,rfl⟩)).mono ?_
    rintro ex w1 ⟨u,rfl,hu,k1⟩
    rw [List.append_nil] at hu
    obtain ⟨ua,uc,rfl⟩:=hu.slice
    rw [show (l.drop m).length=N - m by rw [List.length_drop,hN]] at hu ⊢
    have hbk:=HB.out.chg k1 (fun q=>q)
    have x3':w1.cell? ⟨b,off+3,none⟩=some (.slice g N c):=(hbk.cell (off+3)).trans HK.out
    have f3:=hbk.frozen (off+3)
    clear x3
    go_wp2
    go_ret
    refine ⟨_,rfl,?_,⟨⟨.slice g m c,hbk.set (off+3) _,.inl rfl,?_⟩,?_⟩⟩
    ·rw [HP.out.1];exact own_set hu ⟨b,off+3,none⟩ _ (own_ne hu hbk he)
    ·rw [HP.out.2];exact own_set (own_chg HT.out k1 (fun _ _ q=>q)) _ _ (fun q=>hgb (by simpa [Value.ownBlock] using q))
    ·exact (k1.mono (fun _ _ q=>q.elim)).setCell _ _ (.inl rfl)
   ·have hce:c=m:=by omega
    subst hce
    have hlm:l.length=c:=by omega
    have hde:l.drop c=[]:=List.drop_eq_nil_of_le (by omega)
    rw [hlm] at x3 HK e1 hmi
    have HLM:=hid hlm
    clear hlm
    go_enter Try.func78,Try.ntmps78
    go_wp2_with fail
    refine (joined_any _ (.slice none 0 0) [] [] _ (by simp) (by simp) (.inr ⟨g,0,0,by first | rfl | simp,by simp,by unfold maxLen;omega,fun j hj=>by simp at hj⟩) (.inl ⟨rfl,rfl⟩)).mono ?_
    rintro ex w1 ⟨u,rfl,hu,k1⟩
    obtain ⟨ua,uc,rfl⟩:=hu.slice
    have hbk:=HB.out.chg k1 (fun q=>q)
    have x3':w1.cell? ⟨b,off+3,none⟩=some (.slice g c c):=(hbk.cell (off+3)).trans HK.out
    have f3:=hbk.frozen (off+3)
    clear x3
    go_wp2
    go_ret
    refine ⟨_,rfl,?_,⟨⟨.slice g c c,hbk.set (off+3) _,.inl rfl,?_⟩,?_⟩⟩
    ·rw [HP.out.1,hde];exact own_set hu ⟨b,off+3,none⟩ _ (own_ne hu hbk he)
    ·rw [HP.out.2];exact own_set (own_chg HT.out k1 (fun _ _ q=>q)) _ _ (fun q=>hgb (by simpa [Value.ownBlock] using q))
    ·exact (k1.mono (fun _ _ q=>q.elim)).setCell _ _ (.inl rfl)
end Go.Proofs.Ytnfnbcbadakofab
namespace Go.Proofs.Ytnfnbcbadakofab
open Go.RowKit
theorem IntsV.rdA {w:World} {base:Nat} {v:Value} {l:List Int} (h:IntsV w base v l):RdA w v l:=by
 by_cases h0:0 < l.length
 ·obtain ⟨g,cap,hv,_,hle,hcap,hc⟩:=h.form h0
  refine .inr ⟨⟨g,0,none⟩,cap,hv,hle,hcap,fun j hj=>?_⟩
  have hadd:(⟨g,0,none⟩:Addr).add j=⟨g,j,none⟩:=by unfold Addr.add;split <;> simp_all
  rw [hadd];exact hc j hj
 ·have hl:l=[]:=List.eq_nil_of_length_eq_zero (by omega)
  rcases h.2 with ⟨hv,_⟩ | ⟨g,cap,cur,hv,_,_,hle,hcap,_⟩
  ·exact .inl ⟨hv,hl⟩
  ·exact .inr ⟨⟨g,0,none⟩,cap,hv,hle,hcap,fun j hj=>by omega⟩
end Go.Proofs.Ytnfnbcbadakofab
namespace Go.Proofs.Ytnfnbcbadakofab
open Go.RowKit
def Sep (u v:Value):Prop:=∀ g,u.ownBlock=some g->v.ownBlock ≠ some g
theorem Sep.symm {u v:Value} (h:Sep u v):Sep v u:=fun g h1 h2=>h g h2 h1
theorem Sep.nil (u:Value):Sep u (.slice none 0 0):=fun g _ h=>by cases h
theorem Sep.lies {w:World} {u v v':Value} (h:Sep u v) (hl:Lies w v v') (hu:∀ g,u.ownBlock=some g->g < w.heap.size):Sep u v':=by
 intro g hg hv
 rcases hl with q | ⟨g',q,hg'⟩
 ·rw [q] at hv;exact h g hg hv
 ·rw [q] at hv;simp at hv;have:=hu g hg;omega
theorem Sep.new {w:World} {u v:Value} {base:Nat} {l:List Int} (hv:IntsV w base v l) (hu:∀ g,u.ownBlock=some g->g < base):Sep u v:=by
 intro g hg h
 have:=(hv.lt g h).1
 have:=hu g hg
 omega
structure RV where
 wv:Value
 bv:Value
 lv:Value
 kv:Value
 ov:Value
 xs:List (Fr × Value × Value)
def RV.fl (V:RV):List Value:=V.xs.flatMap fun x=>[x.2.1,x.2.2]
structure RSp (V:RV):Prop where
 wl:Sep V.wv V.lv
 wk:Sep V.wv V.kv
 wo:Sep V.wv V.ov
 lk:Sep V.lv V.kv
 lo:Sep V.lv V.ov
 ko:Sep V.kv V.ov
 fw:∀ u ∈ V.fl,Sep u V.wv
 fl:∀ u ∈ V.fl,Sep u V.lv
 fk:∀ u ∈ V.fl,Sep u V.kv
 fo:∀ u ∈ V.fl,Sep u V.ov
 ff:V.fl.Pairwise Sep
def rcs (s:ByteArray) (tv fv sv iv:Value) (R:Rn) (V:RV):Array Value:=
 #[.string s,tv,fv,sv,.int .i64 R.heap,.int .i64 R.depth,.int .i64 R.status,V.wv,V.bv,.int .i64 R.top.fn,.int .i64 R.top.pc,V.lv,V.kv,iv,.int .i64 R.used,V.ov]
structure RI (W1 w:World) (rb:Nat) (s:ByteArray) (tv fv sv iv:Value) (R:Rn) (V:RV):Prop where
 ch:Chg (fun j=>j=rb) W1 w
 bx:Blk w rb (rcs s tv fv sv iv R V) 65
 ww:IntsV w W1.heap.size V.wv R.words
 ll:IntsV w W1.heap.size V.lv R.top.locals
 kk:IntsV w W1.heap.size V.kv R.top.stack
 oo:IntsV w W1.heap.size V.ov R.out
 be:V.xs.map (·.1)=R.below
 bb:w.ownsRow W1.heap.size 63 4 V.bv V.xs.length (frC V.xs)
 xx:∀ x ∈ V.xs,IntsV w W1.heap.size x.2.1 x.1.locals/\IntsV w W1.heap.size x.2.2 x.1.stack
 sp:RSp V
section
variable {W1 w w':World} {rb:Nat} {s:ByteArray} {tv fv sv iv:Value} {R:Rn} {V:RV}
theorem RV.fl_mem {V:RV} {u:Value} (h:u ∈ V.fl):∃ x ∈ V.xs,u=x.2.1 \/ u=x.2.2:=by
 unfold RV.fl at h
 rw [List.mem_flatMap] at h
 obtain ⟨x,hx,hu⟩:=h
 exact ⟨x,hx,by simpa using hu⟩
theorem RI.fl_own (h:RI W1 w rb s tv fv sv iv R V) {u:Value} (hu:u ∈ V.fl):∃ l,IntsV w W1.heap.size u l:=by
 obtain ⟨x,hx,rfl | rfl⟩:=V.fl_mem hu
 ·exact ⟨_,(h.xx x hx).1⟩
 ·exact ⟨_,(h.xx x hx).2⟩
theorem RI.fl_lt (h:RI W1 w rb s tv fv sv iv R V) {u:Value} (hu:u ∈ V.fl):∀ g,u.ownBlock=some g->g < w.heap.size:=by
 obtain ⟨l,hl⟩:=h.fl_own hu
 exact fun g hg=>(hl.lt g hg).2
theorem IntsV.lts {w:World} {base:Nat} {v:Value} {l:List Int} (h:IntsV w base v l):∀ g,v.ownBlock=some g->g < w.heap.size:=fun g hg=>(h.lt g hg).2
theorem IntsV.apart {w w':World} {base:Nat} {u v:Value} {l:List Int} {S:Nat->Prop} (h:IntsV w base u l) {b:Nat} {cs:Array Value} {e:TypeId} (hb:Blk w b cs e) (he:3 ≠ e) (k:Chg S w w') (hS:∀ j,S j->j=b \/ some j=v.ownBlock) (hs:Sep u v):IntsV w' base u l:=
 own_chg h k (fun g hg hSg=>by
  rcases hS g hSg with q | q
  ·exact own_ne h hb he (by rw [hg,q])
  ·exact hs g hg q.symm)
theorem RI.frames (h:RI W1 w rb s tv fv sv iv R V) {v:Value} {lv:List Int} {base:Nat} (hv:IntsV w base v lv) {S:Nat->Prop} (k:Chg S w w') (hS:∀ j,S j->j=rb \/ some j=v.ownBlock) (hs:∀ u ∈ V.fl,Sep u v) :
 w'.ownsRow W1.heap.size 63 4 V.bv V.xs.length (frC V.xs)/\∀ x ∈ V.xs,IntsV w' W1.heap.size x.2.1 x.1.locals/\IntsV w' W1.heap.size x.2.2 x.1.stack:=by
 refine ⟨own_chg h.bb k (fun g hg hSg=>?_),fun x hx=>?_⟩
 ·obtain ⟨cs,hb⟩:=own_blk h.bb hg
  rcases hS g hSg with q | q
  ·subst q;exact hb.ne h.bx (by decide) rfl
  ·obtain ⟨cs',hb'⟩:=own_blk hv q.symm;exact hb.ne hb' (by decide) rfl
 ·exact ⟨(h.xx x hx).1.apart h.bx (by decide) k hS (hs _ (List.mem_flatMap.2 ⟨x,hx,by simp⟩)),(h.xx x hx).2.apart h.bx (by decide) k hS (hs _ (List.mem_flatMap.2 ⟨x,hx,by simp⟩))⟩
theorem RI.chg1 (h:RI W1 w rb s tv fv sv iv R V) {v:Value} {lv:List Int} (hv:IntsV w W1.heap.size v lv) {S:Nat->Prop} (k:Chg S w w') (hS:∀ j,S j->j=rb \/ some j=v.ownBlock):Chg (fun j=>j=rb) W1 w':=
 h.ch.trans' k (fun i hi q=>by
  rcases hS i q with q | q
  ·exact q
  ·have:=(hv.lt i q.symm).1;omega)
theorem RI.stk (h:RI W1 w rb s tv fv sv iv R V) {S:Nat->Prop} {kv':Value} {l':List Int} (hS:∀ j,S j->j=rb \/ some j=V.kv.ownBlock) (k:Chg S w w') (hb:Blk w' rb ((rcs s tv fv sv iv R V).setIfInBounds 12 kv') 65) (hL:Lies w V.kv kv') (hI:IntsV w' W1.heap.size kv' l') :
 RI W1 w' rb s tv fv sv iv { R with top:={ R.top with stack:=l' } } { V with kv:=kv' }:=by
 obtain ⟨f1,f2⟩:=h.frames h.kk k hS h.sp.fk
 refine ⟨h.chg1 h.kk k hS,hb,h.ww.apart h.bx (by decide) k hS h.sp.wk,h.ll.apart h.bx (by decide) k hS h.sp.lk,hI,h.oo.apart h.bx (by decide) k hS h.sp.ko.symm,h.be,f1,f2,?_⟩
 exact ⟨h.sp.wl,h.sp.wk.lies hL h.ww.lts,h.sp.wo,h.sp.lk.lies hL h.ll.lts,h.sp.lo,(h.sp.ko.symm.lies hL h.oo.lts).symm,h.sp.fw,h.sp.fl,fun u hu=>(h.sp.fk u hu).lies hL (h.fl_lt hu),h.sp.fo,h.sp.ff⟩
theorem RI.num (h:RI W1 w rb s tv fv sv iv R V) {i:Nat} {v:Value} {R':Rn} (e:(rcs s tv fv sv iv R V).setIfInBounds i v=rcs s tv fv sv iv R' V) (e1:R'.words=R.words) (e2:R'.top.locals=R.top.locals) (e3:R'.top.stack=R.top.stack) (e4:R'.out=R.out) (e5:R'.below=R.below) :
 RI W1 (w.setCell ⟨rb,i,none⟩ v) rb s tv fv sv iv R' V:=by
 have k:Chg (fun j=>j=rb) w (w.setCell ⟨rb,i,none⟩ v):=(Chg.refl _ w).setCell _ _ (.inl rfl)
 have hS:∀ j,j=rb->j=rb \/ some j=V.kv.ownBlock:=fun j q=>.inl q
 obtain ⟨f1,f2⟩:=h.frames h.kk k hS h.sp.fk
 refine ⟨h.chg1 h.kk k hS,by rw [<-e];exact h.bx.set i v,?_,?_,?_,?_,by rw [e5];exact h.be,f1,f2,h.sp⟩
 ·rw [e1];exact h.ww.apart h.bx (by decide) k hS h.sp.wk
 ·rw [e2];exact h.ll.apart h.bx (by decide) k hS h.sp.lk
 ·rw [e3];exact own_set h.kk _ _ (own_ne h.kk h.bx (by decide))
 ·rw [e4];exact h.oo.apart h.bx (by decide) k hS h.sp.ko.symm
theorem RI.new (h:RI W1 w rb s tv fv sv iv R V) (k:Chg () w w'):RI W1 w' rb s tv fv sv iv R V:=by
 have hS:∀ j,False->j=rb \/ some j=V.kv.ownBlock:=fun j q=>q.elim
 obtain ⟨f1,f2⟩:=h.frames h.kk k hS h.sp.fk
 exact ⟨h.chg1 h.kk k hS,h.bx.chg k (fun q=>q),own_chg h.ww k (fun _ _ q=>q),own_chg h.ll k (fun _ _ q=>q),own_chg h.kk k (fun _ _ q=>q),own_chg h.oo k (fun _ _ q=>q),h.be,f1,f2,h.sp⟩
end
structure KR (w w':World):Prop where
 size:w.heap.size<=w'.heap.size
 keep:∀ b cs e,Blk w b cs e->e ≠ 3->e ≠ 63->e ≠ 65->Blk w' b cs e
theorem KR.refl (w:World):KR w w:=⟨Nat.le_refl _,fun _ _ _ h _ _ _=>h⟩
theorem KR.trans {a b c:World} (h:KR a b) (k:KR b c):KR a c:=⟨Nat.le_trans h.size k.size,fun x cs e q h3 h4 h5=>k.keep x cs e (h.keep x cs e q h3 h4 h5) h3 h4 h5⟩
theorem KR.new {w w':World} (k:Chg () w w'):KR w w':=⟨k.size,fun _b _ _ h _ _ _=>h.chg k (fun q=>q)⟩
theorem KR.of {w w':World} {S:Nat->Prop} (k:Chg S w w') {rb:Nat} {cs0:Array Value} (hb:Blk w rb cs0 65) {v:Value} {l:List Int} {base:Nat} (hv:IntsV w base v l) (hS:∀ j,S j->j=rb \/ some j=v.ownBlock):KR w w':=
 ⟨k.size,fun b cs e h h3 _ h5=>h.chg k (fun q=>by
  rcases hS b q with q | q
  ·subst q;exact h.ne hb h5 rfl
  ·obtain ⟨cs',hb'⟩:=own_blk hv q.symm;exact h.ne hb' h3 rfl)⟩
def RunEnd (W1 w:World) (rb:Nat) (s:ByteArray) (tv fv sv iv:Value) (R:Rn) (ex:Ending) (w':World):Prop:=ex=.returned (.tuple #[])/\KR w w'/\∃ V,RI W1 w' rb s tv fv sv iv R V
end Go.Proofs.Ytnfnbcbadakofab
namespace Go.Proofs.Ytnfnbcbadakofab
open Go.RowKit
theorem recL_0 (ls:List (List Int)) (v:Int) (ws:List Int):recL ls 0 (v::ws)=v::recL ls (flds ls v).length ws:=rfl
theorem recL_s (ls:List (List Int)) (n:Nat) (v:Int) (ws:List Int):recL ls (n+1) (v::ws)=0::recL ls n ws:=rfl
theorem recL_nil (ls:List (List Int)) (n:Nat):recL ls n []=[]:=by cases n <;> rfl
set_option maxHeartbeats 2000000 in
set_option maxRecDepth 100000 in
theorem recordsIn_any (tv:Value) (ls:List (List Int)) (wa:Option Addr) (wc:Nat) (ws:List Int) (w:World) (ht:TypesV w 0 tv ls) (hw:IntsV w 0 (.slice wa ws.length wc) ws) (hl:ls.length<=10000) (h5:∀ t,(flds ls t).length<=5) (hwl:ws.length<=4000) :
 Calls Try.prog 54 #[tv,.slice wa ws.length wc] w fun ex w'=>∃ u,ex=.returned u/\IntsV w' w.heap.size u (recL ls 0 ws)/\Chg () w w':=by
 obtain ⟨ta,tc,htv⟩:=ht.slice
 have HTY:=hid ht
 have HW:=hid hw
 have H5:=hid h5
 clear ht hw h5
 generalize ls.length=tn at htv
 subst htv
 obtain ⟨T,hT⟩:∃ r,recL ls 0 ws=r:=⟨_,rfl⟩
 rw [hT]
 have HT:=hid hT
 clear hT
 go_enter Try.func54,Try.ntmps54
 go_wp2
 go_loopw [5,6,11] (fun lv ev iv wr=>∃ (k n:Nat) (a:Option Addr) (c:Nat) (L:List Int) (left:Nat),k<=ws.length/\iv=.int .i64 (k:Int)/\ev=.int .i64 (left:Int)/\left<=5/\lv=.slice a n c/\IntsV wr w.heap.size (.slice a n c) L/\L.length=k/\Chg () w wr/\L++recL ls left (ws.drop k)=T) (fun _ _ iv _=>ws.length - (intOf iv).toNat)
 case atStart=>exact ⟨0,0,none,0,[],0,Nat.zero_le _,rfl,rfl,Nat.zero_le _,rfl,World.ownsRow_nil _ _ _ _,rfl,Chg.refl _ _,by rw [List.drop_zero];exact HT.out⟩
 case round =>
  obtain ⟨k,n,a,c,L,left,hk,rfl,rfl,hle,rfl,hI,hLk,hC,hE⟩:=hrel
  have HI:=hid hI
  have HC:=hid hC
  have HE:=hid hE
  have HLK:=hid hLk
  clear hI hC hE hLk HT
  by_cases hlt:k < ws.length
  ·have hlt':(k:Int) < (ws.length:Int):=by omega
   have HWW:IntsV wr 0 (.slice wa ws.length wc) ws:=own_chg HW.out HC.out (fun _ _ q=>q)
   obtain ⟨g,wc',hve,_,_,_,hc⟩:=HWW.form (by omega)
   simp only [Value.slice.injEq] at hve
   obtain ⟨rfl,_,rfl⟩:=hve
   have y:=hc k hlt
   have HD:Hid (ws.drop k=ws.getD k 0::ws.drop (k+1)):=by
    show ws.drop k=ws.getD k 0::ws.drop (k+1)
    rw [List.drop_eq_getElem_cons hlt,List.getD_eq_getElem?_getD,List.getElem?_eq_getElem hlt];rfl
   have HE1:Hid (L++recL ls left (ws.getD k 0::ws.drop (k+1))=T):=by
    show _=T
    rw [<-HE.out,HD.out]
   clear hc HE HD HWW
   generalize ws.getD k 0=v at *
   have hsz:=HC.out.size
   have hLn:L.length<=4000:=by rw [HLK.out];omega
   by_cases hz:left=0
   ·subst hz
    have HE2:Hid (L++v::recL ls (flds ls v).length (ws.drop (k+1))=T):=by
     show _=T
     rw [<-HE1.out,recL_0]
    clear HE1
    have h55:=H5.out v
    go_wp2_with fail
    refine (fieldsOf_any _ ls v wr 0 (HTY.out.chg HC.out (fun _ _ _ q=>q) (fun _ _ _ q=>q)) hl).mono ?_
    rintro ex w1 ⟨u,rfl,hu,hw1⟩
    have hw1:=hw1.symm
    subst hw1
    obtain ⟨ua,uc,rfl⟩:=hu.slice
    clear hu
    have j1:Chg () wr (wr.alloc (Obj.cells #[v] 3)):=(Chg.refl _ _).alloc _
    go_wp2_with (at_builtin;refine wp_appL rfl _ _ rfl w.heap.size (.slice a n c) (.slice wr.heap.size 1 1) L [v] rfl rfl ?h1 ?h2 ?h3 ?h4 ?_)
    case h1=>exact HI.out.chg j1 (fun _ _ _ e=>e)
    case h2=>exact lit_rd [v] 1 rfl (by unfold maxLen;omega)
    case h3=>simp;omega
    case h4=>exact Nat.le_trans hsz j1.size
    intro a2 n2 c2 w4 hn2 hI2 hch2 hl2
    clear hn2
    have hC4:Chg () w w4:=(HC.out.trans j1).trans' hch2 (fun i hi q=>by have:=(HI.out.lt i q.symm).1;omega)
    go_wp2
    exact ⟨⟨k+1,n2,a2,c2,L++[v],(flds ls v).length,by omega,rfl,by simp,h55,rfl,hI2,by rw [List.length_append,HLK.out];rfl,hC4,by rw [<-HE2.out];simp⟩,by simp [intOf];omega⟩
   ·obtain ⟨left,rfl⟩:∃ m,left=m+1:=⟨left - 1,by omega⟩
    have HE2:Hid (L++0::recL ls left (ws.drop (k+1))=T):=by
     show _=T
     rw [<-HE1.out,recL_s]
    clear HE1
    have j1:Chg () wr (wr.alloc (Obj.cells #[oO] 3)):=(Chg.refl _ _).alloc _
    go_wp2_with (at_builtin;refine wp_appL rfl _ _ rfl w.heap.size (.slice a n c) (.slice wr.heap.size 1 1) L [0] rfl rfl ?h1 ?h2 ?h3 ?h4 ?_)
    case h1=>exact HI.out.chg j1 (fun _ _ _ e=>e)
    case h2=>exact lit_rd [0] 1 rfl (by unfold maxLen;omega)
    case h3=>simp;omega
    case h4=>exact Nat.le_trans hsz j1.size
    intro a2 n2 c2 w4 hn2 hI2 hch2 hl2
    clear hn2
    have hC4:Chg () w w4:=(HC.out.trans j1).trans' hch2 (fun i hi q=>by have:=(HI.out.lt i q.symm).1;omega)
    go_wp2
    exact ⟨⟨k+1,n2,a2,c2,L++[0],left,by omega,rfl,by simp,by omega,rfl,hI2,by rw [List.length_append,HLK.out];rfl,hC4,by rw [<-HE2.out];simp⟩,by simp [intOf];omega⟩
  ·have hkk:k=ws.length:=by omega
   have hlt':(ws.length:Int)<=(k:Int):=by omega
   have HE1:Hid (L=T):=by
    show L=T
    rw [<-HE.out,hkk,List.drop_eq_nil_of_le (Nat.le_refl _),recL_nil,List.append_nil]
   clear HE
   go_wp2
   go_ret
   exact ⟨_,rfl,by rw [<-HE1.out];exact HI.out,HC.out⟩
end Go.Proofs.Ytnfnbcbadakofab
namespace Go.Proofs.Ytnfnbcbadakofab
open Go.RowKit Go.ChangeShapes
theorem pick {α:Type} {P:Nat->α->Prop}:∀ (n:Nat),(∀ i,i < n->∃ x,P i x)->∃ l:List α,l.length=n/\∀ i (hi:i < l.length),P i l[i]:=by
 intro n
 induction n with
 | zero=>intro _;exact ⟨[],rfl,fun i hi=>by simp at hi⟩
 | succ n ih =>
  intro h
  obtain ⟨l,hl,hp⟩:=ih (fun i hi=>h i (by omega))
  obtain ⟨x,hx⟩:=h n (by omega)
  refine ⟨l++[x],by simp [hl],fun i hi=>?_⟩
  simp only [List.length_append,List.length_cons,List.length_nil] at hi
  by_cases hin:i < l.length
  ·rw [List.getElem_append_left hin];exact hp i hin
  ·have:i=n:=by omega
   subst this
   rw [List.getElem_append_right (by omega)]
   simp [hl];exact hx
theorem bulk_one {H:Type} (d:DataW H):1<=Rows.uptoBulk d:=by
 cases d with
 | lit l=>cases l <;> simp [Rows.uptoBulk]
 | nil=>simp [Rows.uptoBulk]
 | ptr d=>simp [Rows.uptoBulk]
 | slice elems spare=>simp [Rows.uptoBulk]
 | agg parts=>simp [Rows.uptoBulk]
 | iface t d=>simp [Rows.uptoBulk]
 | map entries=>simp [Rows.uptoBulk]
 | held h=>simp [Rows.uptoBulk]
theorem bulk_len {H:Type} (l:List (DataW H)):l.length<=Rows.uptoBulkAll l:=by
 induction l with
 | nil=>simp [Rows.uptoBulkAll]
 | cons x r ih=>have:=bulk_one x;simp only [Rows.uptoBulkAll,List.length_cons];omega
theorem bulk_elems {H:Type} (elems spare:List (DataW H)):Rows.uptoBulkAll elems+1<=Rows.uptoBulk (.slice elems spare):=by
 simp only [Rows.uptoBulk]
 omega
section
variable {H:Type} {enc:TypeId × Value->H} {W:World}
theorem opn_ints {n:Nat} {cs:List Value} {x:DataW H × List MemPlace} (h:DataW.trod enc Try.prog W 0 (fun _=>true) true n 24 cs=some x):∃ v l,cs=[v]/\RdA W v l/\l.length<=Rows.uptoBulk x.1:=by
 rcases open_ints Try.underlying24 Try.underlying3 (by kernel_rfl) h with ⟨rfl,rfl⟩ | ⟨a,len,cap,zs,rfl,_,hle,hcap,hz,rfl,hc,_⟩
 ·exact ⟨_,[],rfl,.inl ⟨rfl,rfl⟩,by simp⟩
 ·simp only [if_true] at hz
  have hlt:(zs.take len).length=len:=by rw [List.length_take];omega
  refine ⟨_,zs.take len,rfl,.inr ⟨a,cap,by rw [hlt],by rw [hlt];exact hle,hcap,fun j hj=>?_⟩,?_⟩
  ·rw [hlt] at hj
   rw [hc j (by omega),List.getD_eq_getElem?_getD,List.getD_eq_getElem?_getD,List.getElem?_take_of_lt hj]
  ·have h1:=bulk_elems (lits .i64 (zs.take len)) (lits (H:=H) .i64 (zs.drop len))
   have h2:=bulk_len (lits (H:=H) .i64 (zs.take len))
   have h3:(lits (H:=H) .i64 (zs.take len)).length=(zs.take len).length:=by simp [lits]
   simp only
   omega
theorem cells_n {a:Addr} {k:Nat} {cs:List Value} (h:W.cells? 0 a k=some cs):cs.length=k/\∀ i,i < k->W.cell? (a.add i)=cs[i]?:=by
 unfold World.cells? at h
 rw [if_pos (Nat.zero_le _)] at h
 have hgen:∀ (l:List Nat) (cs:List Value),l.mapM (fun i=>W.cell? (a.add i))=some cs->cs.length=l.length/\∀ i,i < l.length->W.cell? (a.add (l.getD i 0))=cs[i]?:=by
  intro l
  induction l with
  | nil=>intro cs h;simp at h;subst h;exact ⟨rfl,fun i hi=>by simp at hi⟩
  | cons x l ih =>
   intro cs h
   rw [List.mapM_cons] at h
   cases hx:W.cell? (a.add x) with
   | none=>rw [hx] at h;cases h
   | some v =>
    rw [hx] at h
    cases hr:l.mapM (fun i=>W.cell? (a.add i)) with
    | none=>rw [hr] at h;cases h
    | some r =>
     rw [hr] at h
     have:cs=v::r:=by simpa using h.symm
     subst this
     obtain ⟨h1,h2⟩:=ih r hr
     refine ⟨by simp [h1],fun i hi=>?_⟩
     cases i with
     | zero=>simpa using hx
     | succ i=>simpa using h2 i (by simpa using hi)
 obtain ⟨h1,h2⟩:=hgen _ _ h
 rw [List.length_range] at h1 h2
 refine ⟨h1,fun i hi=>?_⟩
 have:=h2 i hi
 rw [List.getD_eq_getElem?_getD,List.getElem?_range hi] at this
 exact this
end
end Go.Proofs.Ytnfnbcbadakofab
namespace Go.Proofs.Ytnfnbcbadakofab
open Go.RowKit Go.ChangeShapes Go.Deep Go.Joins
section
variable {H:Type} {enc:TypeId × Value->H} {W:World}
theorem opn_int {n:Nat} {cs:List Value} {x:DataW H × List MemPlace} (h:DataW.trod enc Try.prog W 0 (fun _=>true) true n 3 cs=some x):∃ z,cs=[.int .i64 z]:=by
 obtain ⟨z,h1,_⟩:=DataW.trod_int Try.underlying3 h
 exact ⟨z,h1⟩
theorem add_more {a:Addr} {k i:Nat} (hi:i ≠ 0):(a.add k).add i=⟨(a.add k).block,(a.add k).off+i,none⟩:=by
 generalize a.add k=b
 unfold Addr.add
 rw [if_neg hi]
end
end Go.Proofs.Ytnfnbcbadakofab
