import Derived.Test.YtapodndfpecglaaGreatDoorK16
import Derived.RangeFuncKeeps
import Derived.Shelf.SlIter.Collect
import Derived.Test.YtapodndfpecglaaGreatDoorK05
import Derived.Test.YtapodndfpecglaaGreatDoorK14
import Derived.Lib.AppendZerosOnto
import Derived.Laws.EntriesVeiled
set_option linter.all false
set_option maxRecDepth 100000
set_option maxHeartbeats 0
open Go.Proofs.Tryz
namespace Go.Proofs.YtapodndfpecglaaGreatDoor
open Go.RowKit Go.Maps Go.Joins
theorem Ez:(prog.info? 3).map (fun i=>(i.zero,i.size,i.bytes))=some (some (.int .i64 0),1,8):=by kernel_rfl
theorem mG{w w':World}(h:w.grownBy w' none):w.grownBy w'.drew none:=⟨h.os,h.tape,h.output,h.size,h.block⟩
theorem PY(W:World){R:Nat}(h:W.heap.size=R)(x y:Value)(t:TypeId):((W.alloc (.cells #[x] t)).alloc (.cells #[y] t)).cell? ⟨R,0,none⟩=some x/\((W.alloc (.cells #[x] t)).alloc (.cells #[y] t)).cell? ⟨R+1,0,none⟩=some y/\W.grownBy ((W.alloc (.cells #[x] t)).alloc (.cells #[y] t)) none/\((W.alloc (.cells #[x] t)).alloc (.cells #[y] t)).heap.size=R+2:=by
 have s1:(W.alloc (.cells #[x] t)).heap.size=R+1:=by rw[World.size_alloc,h]
 have h1:=heap_alloc_new W (.cells #[x] t);have h2:=heap_alloc_new (W.alloc (.cells #[x] t)) (.cells #[y] t);rw[h]at h1;rw[s1]at h2;refine⟨(au (ak _ none) _).cell (by rw[ag h1];rfl) (by simp),by rw[ag h2];rfl,au (au (ak W none) _) _,by rw[World.size_alloc,s1]⟩
def Cs(B S M R0 p q k:Nat)(pv nv cm rv:Value)(f:Int)(A D A1 D1:Nat)(cv:Value)(w:World)(ch:List Nat)(wx:World):Prop:=∃g cap,Sb wx S pv nv cm rv (.map (some M)) (.slice (some ⟨g,0,none⟩) (ch.length+1) cap) f A1 D1/\wx.ownsRow B 3 1 (.slice (some ⟨g,0,none⟩) (ch.length+1) cap) (ch.length+1) ((ch++[k]).map fun(j:Nat)=>Value.int .i64 (j:Int))/\Fx (fun b=>b=S\/cv.ownBlock=some b) w wx/\wx.cell? ⟨R0,0,none⟩=some (.pointer (some ⟨S,0,none⟩))/\wx.cell? ⟨p,0,none⟩=some (.int .u64 (A:Int))/\wx.cell? ⟨q,0,none⟩=some (.int .u64 (D:Int))/\R0+3<=wx.heap.size/\(cv.ownBlock=some g\/R0+3<=g)
theorem Z8{B S M R0 p q k g cap:Nat}{pv nv cm rv cv:Value}{f:Int}{A D A1 D1:Nat}{ch:List Nat}{w wc w3:World}{X:Obj}(hw:w.heap.size=R0)(h:Sb wc S pv nv cm rv (.map (some M)) cv f A1 D1)(hg:w.grownBy wc none)(x0:wc.cell? ⟨R0,0,none⟩=some (.pointer (some ⟨S,0,none⟩)))(m1:wc.cell? ⟨p,0,none⟩=some (.int .u64 (A:Int)))(m2:wc.cell? ⟨q,0,none⟩=some (.int .u64 (D:Int)))(hp:R0+1<=p)(hq:R0+1<=q)(hs:R0+3<=wc.heap.size)(hSR:S<R0)(bW:∀b,cv.ownBlock=some b->¬b=S/\b<R0)(ho:w3.ownsRow B 3 1 (.slice (some ⟨g,0,none⟩) (ch.length+1) cap) (ch.length+1) ((ch.map fun(j:Nat)=>Value.int .i64 (j:Int))++[.int .i64 (k:Int)]))(hgr:(wc.drew.alloc X).grownBy w3 cv.ownBlock)(hat:cv.ownBlock=some g\/g=(wc.drew.alloc X).heap.size) :
  Cs B S M R0 p q k pv nv cm rv f A D A1 D1 cv w ch (w3.setCell ⟨S,6,none⟩ (.slice (some ⟨g,0,none⟩) (ch.length+1) cap)):=by
 have f1:Fx (fun b=>cv.ownBlock=some b) wc w3:=((Fx.refl _ wc).drew.gb (au (ak wc.drew none) X) (fun b e=>by cases e)).gb hgr (fun b e=>Or.inl e);have f2:Fx (fun b=>b=S) w3 (w3.setCell ⟨S,6,none⟩ (.slice (some ⟨g,0,none⟩) (ch.length+1) cap)):=(Fx.refl (fun b=>b=S) w3).set (Or.inl rfl) _ _;have f0:Fx (fun b=>b=S\/cv.ownBlock=some b) w wc:=(Fx.refl _ w).gb hg (fun b e=>by cases e);have s3:=h.fx f1 (fun e=>(bW S e).1 rfl);have keep:∀{b:Nat} {v:Value},R0<=b->wc.cell? ⟨b,0,none⟩=some v->(w3.setCell ⟨S,6,none⟩ (.slice (some ⟨g,0,none⟩) (ch.length+1) cap)).cell? ⟨b,0,none⟩=some v:=fun hb hv=>f2.cell (f1.cell hv (fun e=>by have:=(bW _ e).2;omega)) (by omega)
 have sJ:¬g=S:=by
  rintro rfl
  rcases ho.2 with⟨e,-⟩|⟨g',c',cur,e,-,h2,-⟩
  ·cases e
  ·cases e
   have h3:w3.heap[g]?=_:=s3;rw[h3]at h2;injection h2 with h2
   injection h2 with _ h2
   exact absurd h2 (by decide)
 have sz:=f1.size;refine⟨g,cap,s3.setC _,?_,(f0.trans ((f1.mono fun b hb=>Or.inr hb).trans (f2.mono fun b hb=>Or.inl hb))),keep (Nat.le_refl _) x0,keep (by omega) m1,keep (by omega) m2,?_,?_⟩
 ·rw[List.map_append];exact iY ho f2 (fun g' e=>by cases e;exact sJ)
 ·have:(w3.setCell ⟨S,6,none⟩ (.slice (some ⟨g,0,none⟩) (ch.length+1) cap)).heap.size=w3.heap.size:=by simp[World.setCell]
  omega
 ·rcases hat with h|h
  ·exact Or.inl h
  ·right;have:(wc.drew.alloc X).heap.size=wc.heap.size+1:=World.size_alloc _ _;omega
open Go.RowKit Go.Maps
def lQ(n:Nat):DataW Unit:=.lit (.int .i64 (n:Int))
theorem zn{a b:Nat}(h:lQ a=lQ b):a=b:=by
 unfold lQ at h;injection h with h
 injection h with _ h
 omega
def ja(v:Value):Option (DataW Unit × List MemPlace) :=
 match v with
 | .slice none n c=>some (.agg [lQ n,lQ c],[])
 | .slice (some ⟨b,o,none⟩) n c=>some (.agg [lQ n,lQ c,lQ b,lQ o],[])
 | _=>none
theorem PZ{v v':Value}{d:DataW Unit}{ps ps':List MemPlace}(h:ja v=some (d,ps))(h':ja v'=some (d,ps')):v=v':=by
 unfold ja at h h';split at h
 ·injection h with h
  injection h with h _
  split at h'
  ·injection h' with h'
   injection h' with h' _
   rw[<-h]at h';injection h' with h'
   injection h' with h1 h2
   injection h2 with h2 _
   rw[zn h1,zn h2]
  ·injection h' with h'
   injection h' with h' _
   rw[<-h]at h';injection h' with h'
   injection h' with _ h'
   injection h' with _ h'
   cases h'
  ·cases h'
 ·injection h with h
  injection h with h _
  split at h'
  ·injection h' with h'
   injection h' with h' _
   rw[<-h]at h';injection h' with h'
   injection h' with _ h'
   injection h' with _ h'
   cases h'
  ·injection h' with h'
   injection h' with h' _
   rw[<-h]at h';injection h' with h'
   injection h' with h1 h2
   injection h2 with h2 h3
   injection h3 with h3 h4
   injection h4 with h4 _
   rw[zn h1,zn h2,zn h3,zn h4]
  ·cases h'
 ·cases h
def sV:DataW Unit:=.agg [lQ 0,lQ 0]
open Go.RowKit Go.Maps Go.Sort Go.Shelf
attribute [local go_sem] Oper.semAt_some
theorem Z9{P:Program}{n:Nat}{g:Operand}{ps:Array Tmp}{assign body:Code}{Q:Exit->Act->World->Prop}{a:Act}{w:World}{gf:Nat}{lb:Array Value}
  (hg:a.eval g=.func (.func gf) #[] lb) (eg:∀args w,(callFunc gf args).run P w=.ok (.enter gf args) w)
  (h:∀(r:Loop) (W4:World),r.state=.ready->r.pending=none->r.params=ps->r.assign=assign->r.body=body->r.tmps=a.tmps->(w.alloc (.deferred (some []))).alloc (.loop r)=W4 →
   CallsIn Fence.wide (n-1) P gf (#[.func (.yield (w.heap.size+1)) #[] #[]]++lb) W4 (rangePost Fence.wide n P (w.heap.size+1) Q { a with defers:=[{ target:=.collected w.heap.size,args:=#[] }]++a.defers })) :
  (Code.rangeFunc g ps assign body).wpIn Fence.wide n P Q a w:=by
 refine wpIn_rangeFunc ?_;intro fn hfn;obtain⟨r,hr⟩:∃r:Loop,r={ state:=.ready,pending:=none,fn:=fn,tmps:=a.tmps,params:=ps,assign:=assign,body:=body,defers:=w.heap.size }:=⟨_,rfl⟩;obtain⟨W1,hW1⟩:=zN ((w.alloc (.deferred (some []))).alloc (.loop r));have hc:=h r W1 (by rw[hr]) (by rw[hr]) (by rw[hr]) (by rw[hr]) (by rw[hr]) (by rw[hr]) hW1;have e1:(Instr.enterLoop fn a.tmps ps assign body Fence.wide.round).run P w=.ok (w.heap.size+1,[{ target:=.collected w.heap.size,args:=#[] }]) W1:=by
  rw[<-hW1,hr,show Fence.wide.round=none from rfl];exact run_enterLoop_outer _ _ _ _ _
 have e2:(resolve a.eval (rangeCall g (w.heap.size+1)) 0).run P W1=.ok { target:=.fn (.func gf) lb,args:=#[.func (.yield (w.heap.size+1)) #[] #[]] } W1:=by
  simp only[resolve,hg];simp[go_sem]
 have e3:(invoke (.fn (.func gf) lb) #[.func (.yield (w.heap.size+1)) #[] #[]]).run P W1=.ok (.enter gf (#[.func (.yield (w.heap.size+1)) #[] #[]]++lb)) W1:=by
  simp[invoke,go_sem,eg]
 have e4:Fence.wide.depth.isSome=true->1<=n:=by
  intro hd;simp[Fence.wide]at hd
 clear h hr;refine⟨w.heap.size+1,[{ target:=.collected w.heap.size,args:=#[] }],W1,{ target:=.fn (.func gf) lb,args:=#[.func (.yield (w.heap.size+1)) #[] #[]] },W1,gf,#[.func (.yield (w.heap.size+1)) #[] #[]]++lb,W1,e1,?_⟩;refine⟨e2,?_⟩;refine⟨fun _ _=>trivial,?_⟩;refine⟨e3,?_⟩;refine⟨e4,?_⟩;exact hc
theorem aab(r:Loop)(h1:r.state=.ready)(h2:r.pending=none):({ ({ r with state:=.busy }:Loop) with state:=if(none:Option Code).isNone then .ready else .done,pending:=none }:Loop)=r:=by
 cases r
 simp at h1 h2;simp[h1,h2]
theorem aac{P:Program}{n l:Nat}{r:Loop}{args:Array Value}{W1:World}{R:Ending->World->Prop}(hl:W1.heap[l]?=some (.loop r))(hps:args.size=r.params.size)
  (h:r.assign.wpIn (Fence.wide.inRound l) n P (Exit.then (fun a₁ w₁=>∃w₂,(Instr.beginRound l).run P w₁=.ok () w₂/\r.body.wpIn (Fence.wide.inRound l) n P (roundPost P l R) a₁ w₂) (fun _ _ _=>False))
   { tmps:=(r.params.zip args).foldl (fun tmps (t,a)=>tmps.setIfInBounds t a) r.tmps,defers:=[] } W1) :
  YieldAt Fence.wide n P l args W1 R:=⟨_,_,_,_,run_yield hl hps,roundIn_of_wpIn trivial h⟩
theorem aad(o:Option Addr)(n c:Nat)(w:World):Calls prog 39 #[.slice o n c] w fun e w'=>e=.returned (.func (.func 67) #[] #[.pointer (some ⟨w.heap.size,0,none⟩)])/\w'=w.alloc (.cells #[.slice o n c] 25):=by
 go_enter func39,ntmps39;go_wp2;go_ret;exact⟨rfl,rfl⟩
theorem aae(n l bm:Nat)(hn:1<=n)(o:Option Addr)(c:Nat)(L:List Int)(hL:L.length<=1048576)(J:List Int->World->Prop)
  (hc:∀pre W,J pre W->W.cell? ⟨bm,0,none⟩=some (.slice o L.length c)/\IS W (.slice o L.length c) L)
  (hY:∀pre x W,J pre W->pre.length<L.length->YieldAt Fence.wide (n-1) prog l #[.int .i64 x] W fun e W'=>e=.returned (.bool true)/\J (pre++[x]) W') (W:World) (h0:J [] W) :
  CallsIn Fence.wide n prog 67 #[.func (.yield l) #[] #[],.pointer (some ⟨bm,0,none⟩)] W fun e W'=>(∃v,e=.returned v)/\J L W':=by
 refine callsIn_of_wp func67 rfl trivial ?_ rfl;simp only[ntmps67,List.size_toArray,List.length_cons,List.length_nil,Nat.reduceAdd,Nat.reduceSub,Array.replicate_succ,Array.replicate_zero,List.push_toArray,List.append_toArray,List.nil_append,List.cons_append];obtain⟨m0,-⟩:=hc [] W h0
 gi_wp2
 clear m0
 gi_loopw [7] (fun vi wr=>∃i:Nat,vi=.int .i64 i/\i<=L.length/\J (L.take i) wr) (fun vi _=>L.length-(intOf vi).toNat)
 case atStart=>exact⟨0,rfl,Nat.zero_le _,h0⟩
 case round =>
  obtain⟨i,rfl,hi,hJ⟩:=hrel;have HJ:=ae hJ
  by_cases hlt:i<L.length
  ·obtain⟨m1,m2⟩:=hc _ _ hJ;obtain⟨a,rfl,hcv,hat⟩:=qE m2 hlt;have e0:=hat i hlt;obtain⟨x,hx⟩:=zN (L[i]);rw[hx]at e0;obtain⟨fn,tmps,assign,body,hy,hR⟩:=hY (L.take i) x wr hJ (by simp;omega);have jm:Hd (L.take i++[x]=L.take (i+1)):=by
    show _=_;rw[List.take_succ_eq_append_getElem hlt,hx]
   clear m1 m2 hat hx hJ
   gi_wp2
   refine hR.mono ?_;rintro e W3 ⟨rfl,hJ3⟩;have qM:Hd (J (L.take (i+1)) W3):=by show J _ _;rw[<-jm.o];exact hJ3
   clear hJ3
   gi_wp2
   exact⟨⟨i+1,by go_num,by omega,qM.o⟩,by simp[intOf];omega⟩
  ·have hil:i=L.length:=by omega
   have qM:Hd (J L wr):=by
    rw[hil,List.take_length]at hJ;exact hJ
   clear hJ hil hi
   gi_wp2
   go_end0
   exact⟨⟨_,rfl⟩,qM.o⟩
theorem zo(W:World)(l:Nat)(o:Obj):W.grownBy (W.putObj l o) (some l) :=
 ⟨rfl,rfl,rfl,by simp,fun k _ hk=>World.putObj_heap_other (fun e=>hk (by rw[e]))⟩
theorem aaf(bm:Nat)(o:Option Addr)(c:Nat)(L:List Int)(hL:L.length<=1048576)(w:World)(hbm:w.heap[bm]?=some (.cells #[.slice o L.length c] 25 (0,0)))(htx:IS w (.slice o L.length c) L) :
  CallsIn Fence.wide 4 prog 91 #[.slice none 0 0,.func (.func 67) #[] #[.pointer (some ⟨bm,0,none⟩)]] w fun e w'=>∃v,e=.returned v/\w'.ownsRow w.heap.size 3 1 v L.length (L.map (Value.int .i64))/\Below w.heap.size w w':=by
 have Be:=Ez;obtain⟨j0,hj0,hjj⟩:=Option.map_eq_some_iff.1 Be;simp only[Prod.mk.injEq]at hjj;obtain⟨hy0,hy1,hyb⟩:=hjj;clear Be;have P5:Hd (w.heap[bm]?=some (.cells #[.slice o L.length c] 25 (0,0))/\IS w (.slice o L.length c) L):=⟨hbm,htx⟩;have hbl:=(aA hbm);clear hbm htx;refine callsIn_of_wp_marks func91 rfl trivial ?_ rfl;simp only[ntmps91,List.size_toArray,List.length_cons,List.length_nil,Nat.reduceAdd,Nat.reduceSub,Array.replicate_succ,Array.replicate_zero,List.push_toArray,List.append_toArray,List.nil_append,List.cons_append]
 gi_wp2
 refine Z9 (gf:=67) (lb:=#[.pointer (some ⟨bm,0,none⟩)]) rfl (enters_of func67 (by kernel_rfl) rfl) ?_;intro r W4 hr1 hr2 hr3 hr4 iL hr6 iE;obtain⟨B,hB⟩:=zN (w.heap.size);have hs1:(w.alloc (.cells #[.slice none 0 0] 25)).heap.size=B+1:=by rw[World.size_alloc,hB]
 rw[hs1];have q0:W4.heap[B]?=some (.cells #[.slice none 0 0] 25 (0,0)):=by
  rw[<-iE,Below.heap_alloc _ _ _ (by simp;omega),Below.heap_alloc _ _ _ (by simp;omega),<-hB];exact heap_alloc_new w _
 have qd:W4.heap[B+1]?=some (.deferred (some [])):=by
  rw[<-iE,Below.heap_alloc _ _ _ (by simp;omega),<-hs1];exact heap_alloc_new _ _
 have ql:W4.heap[B+2]?=some (.loop r):=by
  rw[<-iE];have:=heap_alloc_new ((w.alloc (.cells #[.slice none 0 0] 25)).alloc (.deferred (some []))) (.loop r);rw[World.size_alloc,hs1]at this;exact this
 have b4:Below w.heap.size w W4:=by
  rw[<-iE];exact(((Below.refl _ _).alloc (Nat.le_refl _) _).alloc (by simp) _).alloc (by simp;omega) _
 have HB:=ae hB;clear iE hs1;have hbB:bm<B:=by omega
 have hcl:∀W,Below w.heap.size w W->W.cell? ⟨bm,0,none⟩=some (.slice o L.length c)/\IS W (.slice o L.length c) L:=fun W hb=>by
  refine⟨?_,P5.o.2.grow (ny hb)⟩;rw[ag ((hb.block bm hbl).trans P5.o.1)];rfl
 refine(aae 3 (B+2) bm (by omega) o c L hL (fun pre W=>(∃v,W.heap[B]?=some (.cells #[v] 25 (0,0))/\W.ownsRow w.heap.size 3 1 v pre.length (pre.map (Value.int .i64)))/\W.heap[B+2]?=some (.loop r)/\W.heap[B+1]?=some (.deferred (some []))/\Below w.heap.size w W)
  (fun pre W h=>hcl W h.2.2.2) ?yl W4 ⟨⟨_,q0,World.ownsRow_nil _ _ _ _⟩,ql,qd,b4⟩).mono ?fin
 case fin =>
  rintro e W5 ⟨⟨v,rfl⟩,⟨v5,qv,qr⟩,q2,q3,q4⟩;obtain⟨W6,lw⟩:=zN (W5.putObj (B+2) (Obj.loop { r with state:=.exhausted }));have hel:=run_endLoop (P:=prog) q2 (by rw[hr1];simp);rw[lw,hr2]at hel;refine⟨none,W6,hel,?_⟩;clear hel;have p1:W6.heap[B]?=some (.cells #[v5] 25 (0,0)):=by rw[<-lw];exact(World.putObj_heap_other (by omega)).trans qv
  have p3:W6.heap[B+1]?=some (.deferred (some [])):=by rw[<-lw];exact(World.putObj_heap_other (by omega)).trans q3
  have pg:W5.grownBy W6 (some (B+2)):=by rw[<-lw];exact zo _ _ _
  have pr:=qr.kept pg (ownsRow_ne_a qr q2 (fun cur e=>by cases e));have p4:=q4.grown pg q4.size (fun k e=>by cases e;omega);obtain⟨pc,pf⟩:=cell_of_box_a p1;have qN:=ae pr;have hpb:=HB.o;clear lw qv qr q2 q3 q4 hr4 iL hr6 q0 qd ql b4 pg pr
  try rw[hpb]
  simp only[List.cons_append,List.nil_append]
  gi_wp2
  refine⟨by simp,.inl ⟨_,_,rfl,run_takeDeferred p3,?_⟩⟩;refine⟨_,results_tmp rfl _ _ _,?_⟩;exact⟨v5,rfl,qN.o.kept (zo _ _ _) (ownsRow_ne_a qN.o p3 (fun cur e=>by cases e)),p4.grown (zo _ _ _) p4.size (fun k e=>by cases e;omega)⟩
 case yl =>
  rintro pre x W5 ⟨⟨v5,qv,qr⟩,q2,q3,q4⟩ hlen;refine aac q2 (by rw[hr3];rfl) ?_;rw[hr3,hr4,iL,hr6];obtain⟨W6,lw⟩:=zN (W5.putObj (B+2) (Obj.loop { r with state:=.busy }));have hbr:=run_beginRound (P:=prog) q2 hr1;rw[lw]at hbr;have l2:=(aA q2);have pg:W5.grownBy W6 (some (B+2)):=by rw[<-lw];exact zo _ _ _
  have p1:W6.heap[B]?=some (.cells #[v5] 25 (0,0)):=by rw[<-lw];exact(World.putObj_heap_other (by omega)).trans qv
  have p2:W6.heap[B+2]?=some (.loop { r with state:=.busy }):=by rw[<-lw];exact World.putObj_heap_same l2
  have p3:W6.heap[B+1]?=some (.deferred (some [])):=by rw[<-lw];exact(World.putObj_heap_other (by omega)).trans q3
  have pr:=qr.kept pg (ownsRow_ne_a qr q2 (fun cur e=>by cases e));have p4:=q4.grown pg q4.size (fun k e=>by cases e;omega);obtain⟨pc,pf⟩:=cell_of_box_a p1;have hz6:=p4.size;have hB6:=(aA p1);have hD6:=(aA p3);have hl6:=(aA p2);have ne_of:∀{j:Nat} {ob:Obj},W6.heap[j]?=some ob->(∀cur,ob≠.cells cur 3 (0,0))->some j≠v5.ownBlock:=fun hj hno=>by
   rcases ownsRow_ne_a pr hj hno with e|e
   ·rw[e];simp
   ·exact fun e'=>e e'.symm
  have nB:=ne_of p1 (fun cur e=>by simp at e);have nl:=ne_of p2 (fun cur e=>by cases e);have nD:=ne_of p3 (fun cur e=>by cases e);have hpb:=HB.o;rw[hpb]at hr6;clear lw qv qr q3 q4 q0 qd ql b4 pg;rw[hpb];clear q2
  gi_wp2_with (first
   | (gi_at_builtin;refine wpListIn_append_own _ rfl _ _ 25 rfl w.heap.size 3 j0 (.int .i64 0) 1 8 underlying25 hj0 hy0 hy1 hyb rfl (by decide) _ _ _ rfl (pr.alloc _) ⟨W6.heap.size,0,none⟩ 1 1 [.int .i64 x] rfl rfl (cell_one_new _ _ _) (by simp[Value.oneCell']) (by unfold maxLen;omega) (by omega) (by simp;omega) ?_;intro v' w3 hown' hg3 hnil3
      have hv3:=(hg3.block B (by simp;omega) nB).trans ((Below.heap_alloc _ _ B hB6).trans p1);obtain⟨hc3,hf3⟩:=cell_of_box_a hv3;obtain⟨g',cap',cur',rfl,hbase',hgb',hr1',hr2',ae4,ae5⟩:∃g' cap' cur',v'=.slice (some ⟨g',0,none⟩) (pre.length+1) cap'/\w.heap.size<=g'/\w3.heap[g']?=some (.cells cur' 3 (0,0))/\pre.length+1<=cap'/\cap'<=maxLen/\cur'.size=cap'*1/\cur'.toList.take ((pre.length+1)*1)=pre.map (Value.int .i64)++[.int .i64 x]:=by
       rcases hown'.2 with⟨_,h0⟩|h'
       ·exact absurd h0 (by omega)
       ·exact h'
      go_frame)
   | gi_in)
  have hg3':(W6.alloc (.cells #[.int .i64 x] 3)).grownBy w3 v5.ownBlock:=hg3;have hL3:=(hg3'.block (B+2) (by simp;omega) nl).trans ((Below.heap_alloc _ _ _ hl6).trans p2);have hK3:=(hg3'.block (B+1) (by simp;omega) nD).trans ((Below.heap_alloc _ _ _ hD6).trans p3);obtain⟨w4,hw4⟩:=zN (w3.setCell ⟨B,0,none⟩ (.slice (some ⟨g',0,none⟩) (pre.length+1) cap'));rw[hw4];have hg4:w3.grownBy w4 (some B):=by rw[<-hw4];exact grownBy_setCell0_a _ _ _
  have hv4:w4.heap[B]?=some (.cells #[.slice (some ⟨g',0,none⟩) (pre.length+1) cap'] 25 (0,0)):=by rw[<-hw4];exact heap_setCell_box_a _ hv3
  have hL4:=(hg4.block (B+2) (aA hL3) (by simp)).trans hL3;have hK4:=(hg4.block (B+1) (aA hK3) (by simp)).trans hK3;have hrow4:=hown'.kept hg4 (ownsRow_ne_a hown' hv3 (fun cur e=>by simp at e));have hl4:=(aA hL4);have hb3:=(p4.alloc p4.size _).grown hg3' (by simp;omega) (fun k e=>(pr.lt k e).1);have hb4:=hb3.grown hg4 hb3.size (fun k e=>by cases e;omega);clear hw4;have ae6:=hb4.size;rw[hpb]at hb4 hrow4;refine⟨_,_,run_endRound none hL4,rfl,⟨_,(World.putObj_heap_other (by omega)).trans hv4,?_⟩,by rw[World.putObj_heap_same hl4,aab r hr1 hr2],(World.putObj_heap_other (by omega)).trans hK4,hb4.grown (zo _ _ _) (by omega) (fun k e=>by cases e;omega)⟩;have:=hrow4.kept (zo w4 (B+2) (.loop { { r with state:=.busy } with state:=if(none:Option Code).isNone then .ready else .done,pending:=none })) (ownsRow_ne_a hrow4 hL4 (fun cur e=>by cases e))
  simpa using this
open Go.RowKit Go.Maps Go.Joins
theorem P6(o:Option Addr)(n c len:Nat)(h:len<=c)(wx:World):(Instr.slice 25 (.slice o n c) none (some (.int .i64 (len:Int))) none).run prog wx=.ok (.slice o len c) wx:=by
 have ht:prog.underlying 25=some (.slice (prog.elem 25)):=by kernel_rfl
 have hsz:∀w,(sizeOf (prog.elem 25)).run prog w=.ok 1 w:=fun w=>by kernel_rfl
 rw[run_slice_h wx _ o n c ht .i64 (len:Int) (by omega) (by omega),hsz]
 cases o with
 | none=>simp[Result.andThen,sliced]
 | some a=>simp[Result.andThen,sliced,Addr.add]
theorem aag(B S M b0 b1 b2 b3 bs bl len m:Nat)(pv nv cm rv:Value)(co:Option Addr)(cc:Nat)(f:Int)(A D A0 D0:Nat)(row:List ByteArray)(ch:List Nat)(w:World)(h:Sb w S pv nv cm rv (.map (some M)) (.slice co (m+1) cc) f A D)(hr:w.ownsRow B 9 1 rv row.length (row.map .string))(hin:InR w M row)(hnd:row.Nodup)(hle:len<=row.length)(hz:∀x∈row,x.size<=maxLen)(hR:row.length<=1048576)(hm:m+1<=cc)(hmm:m<=1048576)
  (e0:w.cell? ⟨b0,0,none⟩=some (.func (.func 61) #[] #[.pointer (some ⟨bs,0,none⟩),.pointer (some ⟨bl,0,none⟩)])) (e1:w.cell? ⟨b1,0,none⟩=some (.pointer (some ⟨S,0,none⟩))) (e2:w.cell? ⟨b2,0,none⟩=some (.int .u64 (A0:Int))) (e3:w.cell? ⟨b3,0,none⟩=some (.int .u64 (D0:Int))) (hs:w.cell? ⟨bs,0,none⟩=some (.pointer (some ⟨S,0,none⟩))) (hl:w.cell? ⟨bl,0,none⟩=some (.int .i64 (len:Int)))
  (hb:∀b,b=b0\/b=b1\/b=b2\/b=b3\/b=bs\/b=bl->¬b=S/\¬b=M) (hSM:¬S=M) :
  Calls prog 64 #[.pointer (some ⟨b0,0,none⟩),.pointer (some ⟨b1,0,none⟩),.pointer (some ⟨b2,0,none⟩),.pointer (some ⟨b3,0,none⟩)] w fun e w'=>e=.returned (.tuple #[])/\∃rv',Sb w' S pv nv cm rv' (.map (some M)) (.slice co m cc) f A0 D0/\w'.ownsRow B 9 1 rv' len ((row.take len).map .string)/\InR w' M (row.take len)/\Fx (fun b=>b=S\/b=M) w w'/\rv'.ownBlock=rv.ownBlock:=by
 have C1:Hd (Calls prog 61 #[.pointer (some ⟨bs,0,none⟩),.pointer (some ⟨bl,0,none⟩)] w fun e w'=>e=.returned (.tuple #[])/\Hd (∃rv',Sb w' S pv nv cm rv' (.map (some M)) (.slice co (m+1) cc) f A D/\w'.ownsRow B 9 1 rv' len ((row.take len).map .string)/\InR w' M (row.take len)/\Fx (fun b=>b=S\/b=M) w w'/\rv'.ownBlock=rv.ownBlock)):=Y5 B S M bs bl len pv nv cm rv (.slice co (m+1) cc) f A D row w h hr hin hnd hs hl hle ⟨(hb bs (by simp)).2,(hb bl (by simp)).2,hSM⟩ hz hR;have HB:=ae hb;clear h hr hin hnd hz hs hl hb;go_enter func64,ntmps64;go_wp2_with (first|(go_at_call 61;refine C1.o.mono ?_));rintro e w1 ⟨rfl,h1⟩;obtain⟨rv',k1,k2,k3,k4,k5⟩:=h1.o;have yE:=ae k5;have HK:=ae (And.intro k1 (And.intro k2 (And.intro k3 k4)));have nX:∀b,b=b0\/b=b1\/b=b2\/b=b3\/b=bs\/b=bl->¬(b=S\/b=M):=fun b hb hh=>hh.elim (HB.o b hb).1 (HB.o b hb).2
 have g1:=k4.cell e1 (nX b1 (by simp));have g2:=k4.cell e2 (nX b2 (by simp));have g3:=k4.cell e3 (nX b3 (by simp));have c6:=k1.cells.2.1.2.2;have z6:=k1.fz 6;have hhi:=P6 co (m+1) cc m (by omega);have hwr:IntKind.i64.wrap (m:Int)=(m:Int):=by rw[IntKind.wrap_i64];omega
 have aah:Hd (∀w2,w2.heap=(w1.setCell ⟨S,6,none⟩ (.slice co m cc)).heap->w2.os=w1.os->w2.tape=w1.tape->w2.output=w1.output->Sb w2 S pv nv cm rv' (.map (some M)) (.slice co m cc) f A D/\w2.ownsRow B 9 1 rv' len ((row.take len).map .string)/\InR w2 M (row.take len)/\Fx (fun b=>b=S\/b=M) w w2):=fun w2 e1 e2 e3 e4=>by
  obtain⟨q1,q2,q3,q4⟩:=HK.o;have fx:Fx (fun b=>b=S) w1 w2:=⟨e2,e3,e4,by rw[e1];simp[World.setCell],fun k hk hn=>by rw[e1];exact heap_setCell_other w1 _ k _ hn⟩;have hs:Sb w2 S pv nv cm rv' (.map (some M)) (.slice co m cc) f A D:=by unfold Sb;rw[e1];exact q1.setC (.slice co m cc)
  refine⟨hs,iY q2 fx (fun g hg e=>?_),q3.fx fx (fun e=>hSM e.symm),q4.trans (fx.mono fun b hb=>Or.inl hb)⟩
  rcases q2.2 with⟨h1,-⟩|⟨g',c',cur,h1,-,h2,-⟩
  ·rw[h1]at hg;cases hg
  ·rw[h1]at hg;obtain rfl:g'=g:=Option.some.inj hg;have h3:w1.heap[S]?=_:=q1;rw[e,h3]at h2;injection h2 with h2
   injection h2 with _ h2
   exact absurd h2 (by decide)
 clear h1 k1 k2 k3 k4 k5 e0 e1 e2 e3 nX C1;have fS:Fx (fun b=>b=S) w1 (w1.setCell ⟨S,6,none⟩ (.slice co m cc)):=(Fx.refl (fun b=>b=S) w1).set (Or.inl rfl) _ _;have HC:=ae (And.intro (fS.cell g1 (HB.o b1 (by simp)).1) (And.intro (fS.cell g2 (HB.o b2 (by simp)).1) (fS.cell g3 (HB.o b3 (by simp)).1)));clear fS;go_wp2
 go_cut [] from 6 (fun wx=>(wx.heap=(w1.setCell ⟨S,6,none⟩ (.slice co m cc)).heap/\wx.os=w1.os/\wx.tape=w1.tape/\wx.output=w1.output)/\wx.cell? ⟨b1,0,none⟩=some (.pointer (some ⟨S,0,none⟩))/\wx.cell? ⟨b2,0,none⟩=some (.int .u64 (A0:Int))/\wx.cell? ⟨b3,0,none⟩=some (.int .u64 (D0:Int)))
 case first =>
  go_region_law (fail)
  all_goals (go_wp2_with fail;go_meet;exact⟨⟨rfl,rfl,rfl,rfl⟩,HC.o⟩)
 case rest =>
  obtain⟨⟨m1,m2,m3,m4⟩,n1,n2,n3⟩:=hcut;obtain⟨q1,q2,q3,q4⟩:=aah.o wc m1 m2 m3 m4;have z7:=q1.fz 7;obtain⟨-,-,n7,n8⟩:=q1.cells;have z8:=q1.fz 8;have f7:Fx (fun b=>b=S) wc ((wc.setCell ⟨S,7,none⟩ (.int .u64 (A0:Int))).setCell ⟨S,8,none⟩ (.int .u64 (D0:Int))):=((Fx.refl (fun b=>b=S) wc).set (Or.inl rfl) _ _).set (Or.inl rfl) _ _;have sJ:∀g,rv'.ownBlock=some g->¬g=S:=fun g hg e=>by
   rcases q2.2 with⟨h1,-⟩|⟨g',c',cur,h1,-,h2,-⟩
   ·rw[h1]at hg;cases hg
   ·rw[h1]at hg;obtain rfl:g'=g:=Option.some.inj hg;have h3:wc.heap[S]?=_:=q1;rw[e,h3]at h2;injection h2 with h2
    injection h2 with _ h2
    exact absurd h2 (by decide)
  have HE:=ae (And.intro ((q1.setA A0).setD D0) (And.intro (iY q2 f7 sJ) (And.intro (q3.fx f7 (fun e=>hSM e.symm)) (q4.trans (f7.mono fun b hb=>Or.inl hb)))));clear sJ f7;clear q1 q2 q3 q4 m1 m2 m3 m4 c6 z6 hhi hwr g1 g2 g3;go_wp2
  go_region_law (fail)
  all_goals (go_wp2;exact bodyPost_end (results_none rfl _ _ _) rfl ⟨rfl,_,HE.o.1,HE.o.2.1,HE.o.2.2.1,HE.o.2.2.2.drew,yE.o⟩)
open Go.RowKit Go.Maps Go.WideMaps Go.Joins Go.Shelf Go.Sort
def cT(a b:ByteArray):Int:=Lib.compareBytes a.data.toList b.data.toList
theorem wX:Good cT:=oI KZ (fun a:ByteArray=>a.data.toList)
theorem aai{α:Type}(f:α->ByteArray):SWO (ltOf fun x y=>cT (f x) (f y)) where
 irrefl x:=decide_eq_false (show ¬cT (f x) (f x)<0 by rw[wX.self];omega)
 trans x y z h1 h2:=by
  have a1:cT (f x) (f y)<0:=of_decide_eq_true h1;have a2:cT (f y) (f z)<0:=of_decide_eq_true h2;refine decide_eq_true (show cT (f x) (f z)<0 from ?_);have t:=wX.trans (f x) (f y) (f z) (by omega) (by omega)
  by_cases h0:cT (f x) (f z)=0
  ·have:=t.2.2 h0;omega
  ·have:=t.1;omega
 ntrans x y z h1 h2:=by
  have a1:¬cT (f x) (f y)<0:=of_decide_eq_false h1;have a2:¬cT (f y) (f z)<0:=of_decide_eq_false h2;refine decide_eq_false (show ¬cT (f x) (f z)<0 from ?_);have t:=wX.trans (f z) (f y) (f x) (by have:=wX.anti (f y) (f z);omega) (by have:=wX.anti (f x) (f y);omega);have:=wX.anti (f x) (f z);omega
theorem IQ(s:ByteArray)(w:World):Calls prog 68 #[.string s] w fun e w'=>e=.returned (.bool false)/\w'=w:=by
 go_enter func68,ntmps68;go_wp2;go_ret;exact⟨rfl,rfl⟩
theorem aaj(a b:ByteArray)(w:World):Calls prog 41 #[.string a,.string b] w fun e w'=>e=.returned (.int .i64 (cT a b))/\w'=w:=by
 unfold cT
 cases h1:Op.bytesLess a.toList b.toList with
 | true =>
  rw[DD h1];go_enter func41,ntmps41;go_wp2_with (go_at_call 68;refine(IQ _ _).mono ?_;rintro e w' ⟨rfl,rfl⟩);go_ret;exact⟨rfl,rfl⟩
 | false =>
  cases h2:(!a.toList == b.toList) with
  | true =>
   rw[DF h1 h2];go_enter func41,ntmps41;go_wp2_with (go_at_call 68;refine(IQ _ _).mono ?_;rintro e w' ⟨rfl,rfl⟩);go_ret;exact⟨rfl,rfl⟩
  | false =>
   rw[DI h2];go_enter func41,ntmps41;go_wp2_with (go_at_call 68;refine(IQ _ _).mono ?_;rintro e w' ⟨rfl,rfl⟩);go_ret;exact⟨rfl,rfl⟩
theorem uZ(b k:Nat):(⟨b,0,none⟩:Addr).add k=⟨b,k,none⟩:=by
 unfold Addr.add;split
 ·rename_i h;rw[h]
 ·simp
theorem aak(W:World)(bx:Nat)(o:Option Addr)(c a b:Nat)(L:List Re)(hbx:W.cell? ⟨bx,0,none⟩=some (.slice o L.length c))(h:ReS W (.slice o L.length c) L)(ha:a<L.length)(hb:b<L.length)(hn:L.length<=1000000) :
  Calls prog 40 #[.int .i64 (a:Nat),.int .i64 (b:Nat),.pointer (some ⟨bx,0,none⟩)] W fun e w'=>e=.returned (.int .i64 (cT L[a].nm L[b].nm))/\∃q,w'=W.drewN q:=by
 obtain⟨ad,rfl,hc,hat⟩:=sG h ha;obtain⟨e0,-⟩:=hat a ha;obtain⟨f0,-⟩:=hat b hb;obtain⟨ka,hka⟩:=zN (L[a].nm);obtain⟨kb,hkb⟩:=zN (L[b].nm);rw[hka]at e0 ⊢;rw[hkb]at f0 ⊢;have CC:=ae (aaj ka kb);obtain⟨z,hz⟩:=zN (cT ka kb);rw[hz]at CC ⊢;have hai:a<c:=by omega
 have hbi:b<c:=by omega
 clear hz h hat hka hkb;go_enter func40,ntmps40;go_wp2;go_quiet (first|(go_at_call 41;exact Calls.quiet_of_same (CC.o _)));go_wp2;go_ret;exact⟨rfl,_,rfl⟩
theorem aal(ve:Value)(E:List Nat)(base n bx:Nat)(w:World)(f:Nat->ByteArray)(hown:w.ownsRow base 3 1 ve E.length (E.map fun q=>.int .i64 (q:Nat)))(hlen:E.length<=1000000)(hE:∀q∈E,q<n+1)
  (hC:0<E.length->∀W:World,(∀a:Addr,ve.ownBlock≠some a.block->a.block<w.heap.size->W.cell? a=w.cell? a)->∀x y:Fin (n+1),Calls prog 40 #[.int .i64 (x.val:Nat),.int .i64 (y.val:Nat),.pointer (some ⟨bx,0,none⟩)] W fun e w'=>e=.returned (.int .i64 (cT (f x.val) (f y.val)))/\∃q,w'=W.drewN q) :
  Calls prog 66 #[ve,.func (.func 40) #[] #[.pointer (some ⟨bx,0,none⟩)]] w fun e w'=>e=.returned (.tuple #[])/\∃E':List Nat,E'.Perm E/\(E'.Pairwise fun a b=>cT (f a) (f b)<=0)/\w'.ownsRow base 3 1 ve E'.length (E'.map fun q=>.int .i64 (q:Nat))/\w.grownBy w' ve.ownBlock:=by
 obtain⟨D,hD⟩:∃D:Array (Fin (n+1)),D.toList.map (·.val)=E:=⟨(E.attach.map fun e=>(⟨e.1,hE e.1 e.2⟩:Fin (n+1))).toArray,by simp⟩;have hDs:D.size=E.length:=by rw[<-hD];simp
 have hown':=hown
 by_cases h0:E.length=0
 ·obtain⟨o,c,rfl⟩:=qG hown;have hE0:=List.eq_nil_of_length_eq_zero h0;subst hE0;refine(show Calls prog 66 #[.slice o 0 c,.func (.func 40) #[] #[.pointer (some ⟨bx,0,none⟩)]] w _ from AnyF.slices_SortFunc_none { Tryz.laysSortI with } o c (.func (.func 40) #[] #[.pointer (some ⟨bx,0,none⟩)]) w).mono ?_;rintro e w' ⟨rfl,rfl⟩;exact⟨rfl,[],List.Perm.refl _,List.Pairwise.nil,hown',⟨rfl,rfl,rfl,Nat.le_refl _,fun _ _ _=>rfl⟩⟩
 rcases hown.2 with⟨rfl,h1⟩|⟨g,cap,cur,rfl,hb,hg,hn,hm,hs,ht⟩
 ·exact absurd h1 h0
 ·have hgl:=(aA hg);have hH:Holds (fun x:Fin (n+1)=>Value.int .i64 (x.val:Nat)) w g 0 D:=by
   intro j hj;refine⟨?_,Lib.frozen_of_heap hg _⟩;have hjE:j<E.length:=by omega
   have h1:=hown.cells (g:=g) rfl j (.int .i64 (E[j]:Nat)) (by rw[List.getElem?_map,List.getElem?_eq_getElem hjE];rfl);rw[uZ]at h1;rw[Nat.zero_add,h1,getElem!_pos D j hj];have e:E[j]=D[j].val:=by
    subst hD;simp
   rw[e]
  have hcmp:CmpLays1 prog 40 #[.pointer (some ⟨bx,0,none⟩)] (fun x:Fin (n+1)=>Value.int .i64 (x.val:Nat)) (fun x y=>cT (f x.val) (f y.val)) g 0 D.size w:=by
   intro m os dk hdk x y;refine(hC (by omega) _ (fun a h1 h2=>World.cell?_of_block (by
    show((w.heap.modify g _)++os)[a.block]?=_;rw[Array.getElem?_append_left (by simpa using h2),Array.getElem?_modify,if_neg (fun e=>h1 (by rw[<-e];rfl))])) x y).mono ?_
   rintro e w' ⟨rfl,q,rfl⟩;exact⟨rfl,q,#[],by rw[grow_empty]⟩
  have eg:∀args w,(callFunc 40 args).run prog w=.ok (.enter 40 args) w:=enters_of func40 (by kernel_rfl) rfl;rw[<-hDs];refine(show Calls prog 66 #[.slice (some ⟨g,0,none⟩) D.size cap,.func (.func 40) #[] #[.pointer (some ⟨bx,0,none⟩)]] w _ from Any.slices_SortFunc Tryz.laysSortI (fun x:Fin (n+1)=>Value.int .i64 (x.val:Nat)) (fun x=>rfl) (fun x y=>cT (f x.val) (f y.val)) (aai fun x:Fin (n+1)=>f x.val) 40 #[.pointer (some ⟨bx,0,none⟩)] g 0 cap D w eg hcmp hH hgl (by omega)).mono ?_;rintro e w' ⟨rfl,d',m,os,hperm,hsort,hw'⟩;have hds:=hperm.1;have hheap:w'.heap=(w.heap.modify g (onCells (putCells (fun x:Fin (n+1)=>Value.int .i64 (x.val:Nat)) 0 d')))++os:=by rw[hw'];rfl
  have hg':w'.heap[g]?=some (.cells (putCells (fun x:Fin (n+1)=>Value.int .i64 (x.val:Nat)) 0 d' cur) 3):=by
   rw[hheap,Array.getElem?_append_left (by simpa using hgl),Array.getElem?_modify,if_pos rfl,hg];rfl
  have hcs:D.size<=cur.size:=by rw[hs,hDs];omega
  refine⟨rfl,d'.toList.map (·.val),?_,?_,⟨?_,.inr ⟨g,cap,_,?_,hb,hg',?_,hm,?_,?_⟩⟩,?_⟩
  ·rw[<-hD];apply List.Perm.map;have:=hperm.2.2;rw[Array.extract_size]at this;rw[show d'.extract 0 D.size=d' by rw[<-hds,Array.extract_size]]at this;exact this
  ·rw[List.pairwise_iff_getElem];intro i j hi hj hij;simp only[List.length_map,Array.length_toList]at hi hj;have:=hsort i j (Nat.zero_le _) hij (by omega);rw[getElem!_pos d' j hj,getElem!_pos d' i hi]at this;have h3:¬cT (f d'[j].val) (f d'[i].val)<0:=of_decide_eq_false this;simp only[List.getElem_map,Array.getElem_toList];have:=wX.anti (f d'[i].val) (f d'[j].val);omega
  ·simp
  ·simp[hds]
  ·simp[hds];omega
  ·simp[putCells,hs]
  ·rw[show(d'.toList.map (·.val)).length=D.size by simp[hds]];apply List.ext_getElem?;intro j
   by_cases hj:j<D.size
   ·rw[List.getElem?_take_of_lt (by omega),Array.getElem?_toList];rw[putCells,Array.getElem?_mapIdx,Array.getElem?_eq_getElem (show j<cur.size by omega)];rw[Option.map_some,if_pos ⟨Nat.zero_le _,by omega⟩,Nat.sub_zero,getElem!_pos d' j (by omega)];simp[hds,hj]
   ·rw[List.getElem?_eq_none (by simp;omega),List.getElem?_eq_none (by simp;omega)]
  ·refine⟨by rw[hw'];rfl,by rw[hw'];rfl,by rw[hw'];rfl,?_,?_⟩
   ·rw[hheap];simp
   ·intro k hk hne;have hkg:g≠k:=by
     intro h;subst h;exact hne rfl
    rw[hheap,Array.getElem?_append_left (by simpa using hk),Array.getElem?_modify,if_neg hkg]
theorem aam(bm:Nat)(o:Option Addr)(c:Nat)(L:List Int)(hL:L.length<=1048576)(w:World)(hbm:w.heap[bm]?=some (.cells #[.slice o L.length c] 25 (0,0)))(htx:IS w (.slice o L.length c) L) :
  Calls prog 91 #[.slice none 0 0,.func (.func 67) #[] #[.pointer (some ⟨bm,0,none⟩)]] w fun e w'=>∃v,e=.returned v/\w'.ownsRow w.heap.size 3 1 v L.length (L.map (Value.int .i64))/\Below w.heap.size w w':=callsIn_wide.1 (aaf bm o c L hL w hbm htx)
theorem aan(bm:Nat)(o:Option Addr)(c:Nat)(L:List Int)(hL:L.length<=1048576)(w:World)(hbm:w.heap[bm]?=some (.cells #[.slice o L.length c] 25 (0,0)))(htx:IS w (.slice o L.length c) L) :
  Calls prog 65 #[.func (.func 67) #[] #[.pointer (some ⟨bm,0,none⟩)]] w fun e w'=>∃o c,e=.returned (.slice o L.length c)/\w'.ownsRow w.heap.size 3 1 (.slice o L.length c) L.length (L.map (Value.int .i64))/\w.grownBy w' none:=by
 have CA:Hd (Calls prog 91 #[.slice none 0 0,.func (.func 67) #[] #[.pointer (some ⟨bm,0,none⟩)]] w fun e w'=>∃o c,e=.returned (.slice o L.length c)/\w'.ownsRow w.heap.size 3 1 (.slice o L.length c) L.length (L.map (Value.int .i64))/\w.grownBy w' none):=(aam bm o c L hL w hbm htx).mono fun e w' ⟨v,h1,h2,h3⟩=>by
  obtain⟨o,c,rfl⟩:=qG h2;exact⟨o,c,h1,h2,ny h3⟩
 clear hbm htx;go_enter func65,ntmps65;go_wp2_with (go_at_call 91;refine CA.o.mono ?_);rintro e w1 ⟨o1,c1,rfl,h2,h3⟩;go_wp2;go_ret;exact⟨o1,c1,rfl,h2,h3⟩
def P7(L:List Re)(ch:List Nat)(w:World)(e:Ending)(w':World):Prop:=∃(E:List Nat) (o:Option Addr) (c:Nat),e=.returned (.slice o E.length c)/\E.Perm ch/\(E.Pairwise fun a b=>cT (aQ L a) (aQ L b)<=0)/\IS w' (.slice o E.length c) (E.map fun(k:Nat)=>(k:Int))/\w.grownBy w' none/\∀a,o=some a->w.heap.size<=a.block
theorem aao{w w':World}{v:Value}{L:List Re}(h:ReS w v L)(hc:∀(a:Addr) u,w.cell? a=some u->w'.cell? a=some u):ReS w' v L:=by
 rcases h with h|⟨a,cap,h1,h2,h3⟩
 ·exact Or.inl h
 ·refine Or.inr ⟨a,cap,h1,h2,fun i hi=>?_⟩;obtain⟨e0,e1,⟨x,e2,e3⟩,e4⟩:=h3 i hi;refine⟨hc _ _ e0,hc _ _ e1,⟨x,hc _ _ e2,?_⟩,hc _ _ e4⟩
  rcases e3 with e3|⟨b,c2,g1,g2,g3⟩
  ·exact Or.inl e3
  ·exact Or.inr ⟨b,c2,g1,g2,fun j hj=>⟨hc _ _ (g3 j hj).1,hc _ _ (g3 j hj).2⟩⟩
theorem P8{w:World}{B:Nat}{v:Value}{cs:List Int}(h:w.ownsRow B 3 1 v cs.length (cs.map (Value.int .i64))):IS w v cs:=by
 obtain⟨o,c,rfl⟩:=qG h
 rcases h.2 with⟨e1,e2⟩|⟨g,cap,cur,e1,hb,hg,hn,-⟩
 ·obtain rfl:=List.eq_nil_of_length_eq_zero e2;exact Or.inl ⟨e1,rfl⟩
 ·exact Or.inr ⟨⟨g,0,none⟩,cap,e1,hn,fun j hj=>h.cells (g:=g) (by rw[e1];rfl) j (.int .i64 cs[j]) (by rw[List.getElem?_map,List.getElem?_eq_getElem hj];rfl)⟩
theorem P9{w:World}{B:Nat}{v:Value}{ch:List Nat}(h:w.ownsRow B 3 1 v ch.length (ch.map fun(j:Nat)=>Value.int .i64 (j:Int))):IS w v (ch.map fun(k:Nat)=>(k:Int)) :=
 P8 (B:=B) (by rw[List.length_map,List.map_map];exact h)
theorem aap(bm bx:Nat)(o:Option Addr)(c:Nat)(ro:Option Addr)(rc:Nat)(L:List Re)(ch:List Nat)(w:World)(hbm:w.heap[bm]?=some (.cells #[.slice o ch.length c] 25 (0,0)))(htx:IS w (.slice o ch.length c) (ch.map fun(k:Nat)=>(k:Int)))(hbx:w.cell? ⟨bx,0,none⟩=some (.slice ro L.length rc))(hr:ReS w (.slice ro L.length rc) L)(hL:L.length<=1000)(hch:ch.length<=1000)(hlt:∀k∈ch,k<L.length) :
  Calls prog 38 #[.func (.func 67) #[] #[.pointer (some ⟨bm,0,none⟩)],.func (.func 40) #[] #[.pointer (some ⟨bx,0,none⟩)]] w (P7 L ch w):=by
 have hln:(ch.map fun(k:Nat)=>(k:Int)).length=ch.length:=by simp
 have HC:Hd (Calls prog 65 #[.func (.func 67) #[] #[.pointer (some ⟨bm,0,none⟩)]] w fun e w'=>∃o c,e=.returned (.slice o ch.length c)/\w'.ownsRow w.heap.size 3 1 (.slice o ch.length c) ch.length (ch.map fun q=>.int .i64 (q:Nat))/\w.grownBy w' none):=by
  have:=aan bm o c (ch.map fun(k:Nat)=>(k:Int)) (by omega) w (by rw[hln];exact hbm) (by rw[hln];exact htx);rw[hln,List.map_map]at this;exact this
 have CS:Hd (∀o1 c1 w1,w.grownBy w1 none->w1.ownsRow w.heap.size 3 1 (.slice o1 ch.length c1) ch.length (ch.map fun q=>.int .i64 (q:Nat))->Calls prog 66 #[.slice o1 ch.length c1,.func (.func 40) #[] #[.pointer (some ⟨bx,0,none⟩)]] w1 fun e w'=>e=.returned (.tuple #[])/\∃E':List Nat,E'.Perm ch/\(E'.Pairwise fun a b=>cT (aQ L a) (aQ L b)<=0)/\w'.ownsRow w.heap.size 3 1 (.slice o1 ch.length c1) E'.length (E'.map fun q=>.int .i64 (q:Nat))/\w1.grownBy w' (Value.slice o1 ch.length c1).ownBlock):=fun o1 c1 w1 hg1 hown=>by
  refine aal (.slice o1 ch.length c1) ch w.heap.size (L.length-1) bx w1 (aQ L) hown (by omega) (fun q hq=>by have:=hlt q hq;omega) fun h0 W' hW x y=>?_
  have hL0:0<L.length:=by
   cases ch with
   | nil=>simp at h0
   | cons a r=>have:=hlt a (by simp);omega
  have cell:∀(a:Addr) u,w.cell? a=some u->W'.cell? a=some u:=fun a u hu=>by
   have hlt:=rZ hu;rw[hW a (fun e=>by have:=(hown.lt _ e).1;omega) (Nat.lt_of_lt_of_le hlt hg1.size)];exact hg1.cell hu (by simp)
  have hx:x.val<L.length:=by have:=x.isLt;omega
  have hy:y.val<L.length:=by have:=y.isLt;omega
  have:=aak W' bx ro rc x.val y.val L (cell _ _ hbx) (aao hr cell) hx hy (by omega);rw[qF L _ hx,qF L _ hy];exact this
 clear hbm htx hbx hr hln;go_enter func38,ntmps38;go_wp2_with (go_at_call 65;refine HC.o.mono ?_);rintro e w1 ⟨o1,c1,rfl,hown,hb⟩;have HB:=ae hb;have C2:=ae (CS.o o1 c1 w1 hb hown);have gK:=ae (fun q (hq:(Value.slice o1 ch.length c1).ownBlock=some q)=>(hown.lt q hq).1);clear hown hb;go_wp2_with (go_at_call 66;refine C2.o.mono ?_);rintro e w2 ⟨rfl,E',hp,hr,hown2,hg2⟩;go_wp2;refine bodyPost_ret (results_tmp (t:=4) rfl _ _ _) rfl ⟨E',o1,c1,by rw[hp.length_eq];rfl,hp,hr,P9 (by rw[hp.length_eq]at hown2 ⊢;exact hown2),?_,fun a ha=>gK.o a.block (by rw[ha];rfl)⟩;exact⟨hg2.os.trans HB.o.os,hg2.tape.trans HB.o.tape,hg2.output.trans HB.o.output,Nat.le_trans HB.o.size hg2.size,fun k hk hn=>(hg2.block k (Nat.lt_of_lt_of_le hk HB.o.size) (fun e=>by have:=gK.o k e.symm;omega)).trans (HB.o.block k hk hn)⟩
theorem aaq(S:Nat)(pv nv cm rv im cv:Value)(f:Int)(A D B:Nat)(ro:Option Addr)(rc:Nat)(L:List Re)(ch:List Nat)(w:World)(h:Sb w S pv nv cm rv im cv f A D)(hc:w.ownsRow B 3 1 cv ch.length (ch.map fun(j:Nat)=>Value.int .i64 (j:Int)))(hr:ReS w (.slice ro L.length rc) L)(hL:L.length<=1000)(hch:ch.length<=1000)(hlt:∀k∈ch,k<L.length) :
  Calls prog 22 #[.pointer (some ⟨S,0,none⟩),.slice ro L.length rc] w (P7 L ch w):=by
 obtain⟨o,c,rfl⟩:=qG hc;obtain⟨-,⟨-,-,c6⟩,-⟩:=h.cells;obtain⟨W1,hW1⟩:=zN (w.alloc (.cells #[.slice ro L.length rc] 33));have hg1:w.grownBy W1 none:=by rw[<-hW1];exact au (ak w none) _
 have hb1:W1.heap[w.heap.size]?=some (.cells #[.slice ro L.length rc] 33 (0,0)):=by rw[<-hW1];exact heap_alloc_new w _
 obtain⟨W2,hW2⟩:=zN (W1.alloc (.cells #[.slice o ch.length c] 25));have hg2:W1.grownBy W2 none:=by rw[<-hW2];exact au (ak W1 none) _
 have hb2:W2.heap[W1.heap.size]?=some (.cells #[.slice o ch.length c] 25 (0,0)):=by rw[<-hW2];exact heap_alloc_new W1 _
 have hg:=ah hg1 hg2;have CF:Hd (Calls prog 38 #[.func (.func 67) #[] #[.pointer (some ⟨W1.heap.size,0,none⟩)],.func (.func 40) #[] #[.pointer (some ⟨w.heap.size,0,none⟩)]] W2 fun e w'=>∃(E:List Nat) (o:Option Addr) (c:Nat),e=.returned (.slice o E.length c)/\Hd (E.Perm ch/\(E.Pairwise fun a b=>cT (aQ L a) (aQ L b)<=0)/\IS w' (.slice o E.length c) (E.map fun(k:Nat)=>(k:Int))/\W2.grownBy w' none/\∀a,o=some a->W2.heap.size<=a.block)):=aap W1.heap.size w.heap.size o c ro rc L ch W2 hb2 ((P9 hc).grow hg) (hg2.cell (by rw[ag hb1];rfl) (by simp)) (hr.grow hg) hL hch hlt;have CV:Hd (Calls prog 39 #[.slice o ch.length c] W1 fun e w'=>e=.returned (.func (.func 67) #[] #[.pointer (some ⟨W1.heap.size,0,none⟩)])/\w'=W2):=by
  have:=aad o ch.length c W1;rw[hW2]at this;exact this
 have HG:=ae hg;have hmf:∀(fn:Fn) (first cap:Array Value) (w:World),(Instr.makeFunc fn first cap).run prog w=.ok (.func fn first cap) w:=fun _ _ _ _=>rfl
 have d6:=hg1.cell c6 (by simp);clear h hc hr hlt hb1 hb2 hW2 hg hg1 hg2 c6;go_enter func22,ntmps22;go_wp2_with (first|(go_at_call 39;refine CV.o.mono ?_;rintro e w' ⟨rfl,rfl⟩)|(go_at_call 38;refine CF.o.mono ?_));rintro e w3 ⟨E,o3,c3,rfl,hE⟩;go_wp2;go_ret;exact⟨E,o3,c3,rfl,hE.o.1,hE.o.2.1,hE.o.2.2.1,ah HG.o hE.o.2.2.2.1,fun a ha=>Nat.le_trans HG.o.size (hE.o.2.2.2.2 a ha)⟩
open Go.RowKit Go.Maps Go.Joins
theorem EC{w:World}{o:Option Addr}{c:Nat}{L:List En}(h:EnS w (.slice o L.length c) L){i:Nat}(hi:i<L.length):∃a,o=some a/\L.length<=c/\∀j (hj:j<L.length),EnAt w (a.add (j*4)) L[j]:=by
 rcases h with⟨h1,h2⟩|⟨a,cap,h1,h2,h3⟩
 ·rw[h2]at hi;simp at hi
 ·cases h1
  exact⟨a,rfl,h2,h3⟩
theorem ED{w wa wb:World}{r:Option Nat}(h:w.grownBy wa none)(hg:wa.grownBy wb r)(hr:∀q,r=some q->w.heap.size<=q):w.grownBy wb none :=
 ⟨hg.os.trans h.os,hg.tape.trans h.tape,hg.output.trans h.output,Nat.le_trans h.size hg.size,fun k hk hn=>(hg.block k (Nat.lt_of_lt_of_le hk h.size) (fun e=>by have:=hr k e.symm;omega)).trans (h.block k hk hn)⟩
theorem aar(n:Nat)(h0:0<n)(hn:n<=1000)(w:World) :
  Calls prog 90 #[.slice none 0 0,.int .i64 n] w fun e w'=>∃v,e=.returned v/\w'.ownsRow w.heap.size 3 1 v 0 []/\w.grownBy w' none:=by
 obtain⟨i0,hi0,hii⟩:=Option.map_eq_some_iff.1 Ez;simp only[Prod.mk.injEq]at hii;obtain⟨hz0,hz1,hzb⟩:=hii;have hrz:∀ty,(Builtin.append_ #[25,3] ty #[.slice none 0 0,.int .i64 (n:Int)]).run prog w=.ok (.slice (some ⟨w.heap.size,0,none⟩) n (grownCap w n 0 3)) (w.drew.alloc (.cells (Builtin.zeroCells #[.int .i64 0] n++Builtin.zeroCells #[.int .i64 0] (grownCap w n 0 3-n)) 3)):=fun ty=>by
  have h:=Lib.run_append_grow_zeros w 25 3 ty 3 i0 (.int .i64 0) .i64 .i64 underlying25 underlying3 hi0 hz0 none 0 0 [] (run_firstCells_none w.drew i0.size 0 0 0) n h0 (by omega) (by omega) (by omega) (by rw[hzb];omega) (growslice_fits (by omega) (by rw[hzb];omega));rw[Nat.zero_add]at h;simpa [Value.cells] using h
 have hG:=grownCap_ge w n 0 3;have hG2:=grownCap_le_maxLen w n 0 3 (by unfold maxLen;omega);obtain⟨G,Qa⟩:=zN (grownCap w n 0 3);rw[Qa]at hrz hG hG2;have HO:Hd ((w.drew.alloc (.cells (Builtin.zeroCells #[.int .i64 0] n++Builtin.zeroCells #[.int .i64 0] (G-n)) 3)).ownsRow w.heap.size 3 1 (.slice (some ⟨w.heap.size,0,none⟩) 0 G) 0 []):=by
  refine⟨rfl,Or.inr ⟨w.heap.size,G,_,rfl,Nat.le_refl _,heap_alloc_new w.drew _,Nat.zero_le _,hG2,?_,rfl⟩⟩;rw[Array.size_append,size_zeroCells,size_zeroCells];simp;omega
 have HG:Hd (w.grownBy (w.drew.alloc (.cells (Builtin.zeroCells #[.int .i64 0] n++Builtin.zeroCells #[.int .i64 0] (G-n)) 3)) none):=⟨rfl,rfl,rfl,by rw[World.size_alloc];exact Nat.le_succ _,fun k hk _=>Below.heap_alloc w.drew _ k hk⟩;have hG63:G<=9223372036854775807:=by unfold maxLen at hG2;omega
 have pF:(n:Int) > 0:=by omega
 clear Qa hG hG2;go_enter func90,ntmps90;go_wp2_with (at_builtin;refine Lib.wpList_append_run _ rfl _ _ _ _ rfl _ _ rfl rfl _ _ (hrz _) ?_)
 all_goals (go_ret;exact⟨_,rfl,HO.o,HG.o⟩)
def gp(C:Nat->List Int):Nat->List Int
 | 0=>[]
 | i+1=>gp C i++C i
theorem aas(q:Nat)(A:Nat->Addr)(C:Nat->List Int)(K:Nat->Nat)(w:World)(hq:∀i,i<3->w.cell? ⟨q,i,none⟩=some (.slice (some (A i)) (C i).length (K i)))(hA:∀i,i<3->∀j u,((C i).map (Value.int .i64))[j]?=some u->w.cell? ((A i).add j)=some u)(hC:∀i,i<3->(C i).length<=100)(h0:0<(gp C 3).length) :
  Calls prog 60 #[.slice (some ⟨q,0,none⟩) 3 3] w fun e w'=>∃v,e=.returned v/\w'.ownsRow w.heap.size 3 1 v (gp C 3).length ((gp C 3).map (Value.int .i64))/\w.grownBy w' none:=by
 obtain⟨j0,hj0,hjj⟩:=Option.map_eq_some_iff.1 Ez;simp only[Prod.mk.injEq]at hjj;obtain⟨hy0,hy1,hyb⟩:=hjj;have hlen:∀i,i<=3->(gp C i).length<=100*i:=fun i hi=>by
  induction i with
  | zero=>simp[gp]
  | succ i ih =>
   have:=ih (by omega);have:=hC i (by omega);rw[gp,List.length_append];omega
 have HQ:=ae hq;have HA:=ae hA;have HC:=ae hC;have HL:=ae hlen;have h3:=hlen 3 (by omega);have HST:Hd (∀i,gp C (i+1)=gp C i++C i):=fun i=>rfl
 obtain⟨N,hN⟩:=zN ((gp C 3).length);have HN:=ae hN;rw[hN]at h0 h3 ⊢;have CG:=ae (aar N h0 (by omega));clear hq hA hC hlen hN;go_enter func60,ntmps60;go_wp2;go_loopw [3,11] (fun vs vi wr=>∃i:Nat,vi=.int .i64 i/\i<=3/\vs=.int .i64 ((gp C i).length:Nat)/\wr=w) (fun _ vi _=>3-(intOf vi).toNat)
 case atStart=>exact⟨0,rfl,by omega,rfl,rfl⟩
 case round =>
  obtain⟨i,rfl,hi,rfl,hw⟩:=hrel;have hw:=hw.symm;subst hw
  by_cases hlt:i<3
  ·have e0:=HQ.o i hlt;have hm:=HC.o i hlt;have hp:=HL.o i hi;have HS:Hd ((gp C (i+1)).length=(gp C i).length+(C i).length):=by rw[HST.o,List.length_append];exact rfl
   obtain⟨m,hm'⟩:=zN ((C i).length);obtain⟨p,hp'⟩:=zN ((gp C i).length);rw[hm']at e0 hm HS;rw[hp']at hp HS ⊢;clear hm' hp';go_wp2;exact⟨⟨i+1,by go_num,by omega,by rw[HS.o];go_num,by trivial⟩,by simp[intOf];omega⟩
  ·obtain rfl:i=3:=by omega
   rw[HN.o];go_wp2_with (go_at_call 90;refine(CG.o _).mono ?_);rintro e w1 v1 rfl hown1 hg1;have dC:=ae hown1;have bI:=ae hg1;clear hown1 hg1;go_wp2;go_loopw [6,27] (fun v6 vi wr=>∃i:Nat,vi=.int .i64 i/\i<=3/\wr.ownsRow w.heap.size 3 1 v6 (gp C i).length ((gp C i).map (Value.int .i64))/\w.grownBy wr none) (fun _ vi _=>3-(intOf vi).toNat)
   case atStart=>exact⟨0,rfl,by omega,dC.o,bI.o⟩
   case round =>
    obtain⟨i,rfl,hi,hown,hg⟩:=hrel;obtain⟨wo,hwo⟩:∃wo,wo=wr:=⟨_,rfl⟩;subst hwo;have HG:=ae hg;have HOW:=ae hown
    by_cases hlt:i<3
    ·have e0:=hg.cell (HQ.o i hlt) (by simp);have hnews:=fun j u (hu:((C i).map (Value.int .i64))[j]?=some u)=>hg.cell (HA.o i hlt j u hu) (by simp)
     have hm:=HC.o i hlt;have hp:=HL.o i hi;have HS:Hd ((gp C (i+1)).length=(gp C i).length+(C i).length):=by rw[HST.o,List.length_append];exact rfl
     have HS2:Hd ((gp C (i+1)).map (Value.int .i64)=(gp C i).map (Value.int .i64)++(C i).map (Value.int .i64)):=by rw[HST.o,List.map_append];exact rfl
     obtain⟨news,hnw⟩:=zN ((C i).map (Value.int .i64));have hone:∀u∈news,u.oneCell'=true:=by
      intro u hu;rw[<-hnw]at hu;obtain⟨b,-,rfl⟩:=List.mem_map.1 hu;rfl
     have hnl:news.length=(C i).length*1:=by rw[<-hnw];simp
     obtain⟨xs,hxs⟩:=zN ((gp C i).map (Value.int .i64));rw[hnw]at hnews HS2;rw[hxs]at hown HS2;obtain⟨m,hm'⟩:=zN ((C i).length);obtain⟨p,hp'⟩:=zN ((gp C i).length);rw[hm']at e0 hm HS hnl;rw[hp']at hp HS hown;obtain⟨o6,c6,rfl⟩:=qG hown;obtain⟨ad,had⟩:=zN (A i);rw[had]at e0 hnews;have hbs:=hg.size;clear hm' hp' hnw hxs had hg;go_wp2_with (first|(at_builtin;refine wpList_append_own _ rfl _ _ 25 rfl w.heap.size 3 j0 (.int .i64 0) 1 8 underlying25 hj0 hy0 hy1 hyb rfl (by decide) _ p xs rfl hown ad m (K i) news rfl hnl hnews hone (by unfold maxLen;omega) (by omega) hbs ?_;intro v' w2 hown2 hg2 hnil2));exact⟨⟨i+1,by go_num,by omega,by rw[HS.o,HS2.o];exact hown2,ED HG.o hg2 (fun q' hq'=>(hown.lt q' hq').1)⟩,by simp[intOf];omega⟩
    ·obtain rfl:i=3:=by omega
     rw[HN.o]at HOW;clear hown hg;go_wp2;refine bodyPost_ret (results_tmp (t:=2) rfl _ _ _) rfl ?_;exact⟨_,rfl,HOW.o,HG.o⟩
open Go.RowKit Go.Maps Go.Joins
theorem aat{a b:ByteArray}(h:a.toList=b.toList):a=b:=by
 rw[Lib.toList_data,Lib.toList_data]at h;exact ByteArray.ext (Array.ext' h)
theorem aau(o:Option Addr)(c:Nat)(C:List Int)(v:Int)(w:World)(h:IS w (.slice o C.length c) C)(hC:C.length<=1000) :
  Calls prog 58 #[.slice o C.length c,.int .i64 v] w fun e w'=>w'=w/\∃z:Int,e=.returned (.int .i64 z)/\((z=-1/\∀c∈C,¬c=v)\/∃(j:Nat) (hj:j<C.length),z=(j:Int)/\C[j]=v/\∀i (hi:i<j),¬C[i]=v):=by
 have HC:=ae h;clear h;go_enter func58,ntmps58;go_wp2;go_loopw [8] (fun vi wr=>∃i:Nat,vi=.int .i64 i/\i<=C.length/\(∀k (hk:k<C.length),k<i->¬C[k]=v)/\wr=w) (fun vi _=>C.length-(intOf vi).toNat)
 case atStart=>exact⟨0,rfl,Nat.zero_le _,fun k hk h=>by omega,rfl⟩
 case round =>
  obtain⟨i,rfl,hi,hpre,hw⟩:=hrel;have HP:=ae hpre;have hw:=hw.symm;subst hw
  by_cases hlt:i<C.length
  ·obtain⟨a,rfl,hc,hat⟩:=qE HC.o hlt;have e0:=hat i hlt;obtain⟨x,hx⟩:=zN (C[i]);have HX:=ae hx;rw[hx]at e0;have hic:i<c:=by omega
   clear hat hx hpre
   cases hq:(v == x) with
   | true =>
    go_wp2;go_ret;exact⟨rfl,_,rfl,Or.inr ⟨i,rfl,hlt,HX.o.trans (by simpa using(show v=x by simpa using hq).symm),fun k hk=>HP.o k (by omega) hk⟩⟩
   | false =>
    go_wp2;exact⟨⟨i+1,by go_num,by omega,fun k hk hki=>(by
     by_cases e:k=i
     ·subst e;rw[HX.o];intro e2;rw[e2]at hq;simp at hq
     ·exact HP.o k hk (by omega)),by trivial⟩,by simp[intOf];omega⟩
  ·clear hpre;go_wp2;go_ret;exact⟨rfl,_,rfl,Or.inl ⟨rfl,fun c hc=>by
    obtain⟨k,hk,rfl⟩:=List.getElem_of_mem hc;exact HP.o k hk (by omega)⟩⟩
theorem aav(bx:Nat)(name nm ve dg:ByteArray)(v:Value)(w:World)(h:w.cell? ⟨bx,0,none⟩=some (.string name)) :
  Calls prog 57 #[.agg #[.string nm,.string ve,.string dg,v],.pointer (some ⟨bx,0,none⟩)] w fun e w'=>e=.returned (.bool (nm.toList == name.toList))/\w.grownBy w' none:=by
 obtain⟨W,hW⟩:=zN (w.alloc (.cells #[.string nm,.string ve,.string dg,v] 62));have hg:w.grownBy W none:=by rw[<-hW];exact au (ak w none) _
 have hb:W.heap[w.heap.size]?=some (.cells #[.string nm,.string ve,.string dg,v] 62 (0,0)):=by rw[<-hW];exact heap_alloc_new w _
 have b0:W.cell? ⟨w.heap.size,0,none⟩=some (.string nm):=by rw[ag hb];rfl
 have h1:=hg.cell h (by simp);have HG:=ae hg;clear hb hg;go_enter func57,ntmps57;go_wp2;go_ret;exact⟨rfl,HG.o⟩
theorem aaw(o:Option Addr)(c bx:Nat)(O:List En)(name:ByteArray)(w:World)(h:EnS w (.slice o O.length c) O)(hO:O.length<=1048576)(hb:w.cell? ⟨bx,0,none⟩=some (.string name)) :
  Calls prog 56 #[.slice o O.length c,.func (.func 57) #[] #[.pointer (some ⟨bx,0,none⟩)]] w fun e w'=>w.grownBy w' none/\∃z:Int,e=.returned (.int .i64 z)/\((z=-1/\∀x∈O,¬x.nm=name)\/∃(j:Nat) (hj:j<O.length),z=(j:Int)/\O[j].nm=name/\∀i (hi:i<j),¬O[i].nm=name):=by
 have HC:=ae h;have CF:=ae (fun nm ve dg v w' (hg:w.grownBy w' none)=>aav bx name nm ve dg v w' (hg.cell hb (by simp)));clear h hb;go_enter func56,ntmps56;go_wp2;go_loopw [8] (fun vi wr=>∃i:Nat,vi=.int .i64 i/\i<=O.length/\(∀k (hk:k<O.length),k<i->¬O[k].nm=name)/\w.grownBy wr none) (fun vi _=>O.length-(intOf vi).toNat)
 case atStart=>exact⟨0,rfl,Nat.zero_le _,fun k hk h=>by omega,ak _ _⟩
 case round =>
  obtain⟨i,rfl,hi,hpre,hg⟩:=hrel;have HP:=ae hpre;have HG:=ae hg
  by_cases hlt:i<O.length
  ·obtain⟨a,rfl,hc,hat⟩:=EC (HC.o.grow hg) hlt;obtain⟨e0,e1,e2,sv,e3,-⟩:=hat i hlt;obtain⟨⟨nm,ve,dg,nd⟩,hx⟩:∃x,O[i]=x:=⟨_,rfl⟩;have HX:Hd (O[i].nm=nm):=by rw[hx];exact rfl
   rw[hx]at e0 e1 e2;simp only[]at e0 e1 e2;have hic:i<c:=by omega
   have C1:=ae (CF.o nm ve dg sv wr hg);clear hat hx hg hpre;go_wp2_with (first|(go_at_call 57;refine C1.o.mono ?_));rintro e w1 ⟨rfl,hg1⟩;obtain⟨b,hb⟩:=zN ((nm.toList == name.toList));have l9:=ae hb;rw[hb];have bI:=ae (ah HG.o hg1);clear hg1 hb
   cases b with
   | true =>
    go_wp2;go_ret;exact⟨bI.o,_,rfl,Or.inr ⟨i,hlt,rfl,by
     rw[HX.o];have:=l9.o;exact aat (by simpa using this),fun k hk=>HP.o k (by omega) hk⟩⟩
   | false =>
    go_wp2;exact⟨⟨i+1,by go_num,by omega,fun k hk hki=>(by
     by_cases e:k=i
     ·subst e;rw[HX.o];intro e2;have:=l9.o;rw[e2]at this;simp at this
     ·exact HP.o k hk (by omega)),bI.o⟩,by simp[intOf];omega⟩
  ·clear hg hpre;go_wp2;go_ret;exact⟨HG.o,_,rfl,Or.inl ⟨rfl,fun c hc=>by
    obtain⟨k,hk,rfl⟩:=List.getElem_of_mem hc;exact HP.o k hk (by omega)⟩⟩
open Go.RowKit Go.Maps Go.Joins
section
variable {B S M R0 p q k:Nat} {pv nv cm rv cv:Value} {f:Int} {A D A1 D1 A2 D2:Nat} {w wx wx':World} {ch:List Nat}
theorem aax{w:World}{a b:Nat}{x y:Array Value}{t u:TypeId}(h:w.heap[a]?=some (.cells x t (0,0)))(h':w.heap[b]?=some (.cells y u (0,0)))(e:¬t=u):¬a=b:=by
 rintro rfl;rw[h]at h';injection h' with h'
 injection h' with _ h'
 exact e h'
theorem row_ne{w:World}{a:Nat}{x:Array Value}{t u:TypeId}{v:Value}{n:Nat}{xs:List Value}(h:w.heap[a]?=some (.cells x t (0,0)))(h':w.ownsRow B u 1 v n xs)(e:¬t=u){b:Nat}(hb:v.ownBlock=some b):¬b=a:=by
 rcases h'.2 with⟨e1,-⟩|⟨g',c',cur,e1,-,h2,-⟩
 ·rw[e1]at hb;cases hb
 ·rw[e1]at hb;obtain rfl:g'=b:=Option.some.inj hb;exact fun h3=>aax h h2 e h3.symm
theorem pM{w:World}{u:TypeId}{v:Value}{n:Nat}{xs:List Value}(h':w.ownsRow B u 1 v n xs){b:Nat}(hb:v.ownBlock=some b):B<=b/\b<w.heap.size:=by
 rcases h'.2 with⟨e1,-⟩|⟨g',c',cur,e1,h1,h2,-⟩
 ·rw[e1]at hb;cases hb
 ·rw[e1]at hb;obtain rfl:g'=b:=Option.some.inj hb;exact⟨h1,(aA h2)⟩
theorem Cs.st(h:Cs B S M R0 p q k pv nv cm rv f A D A1 D1 cv w ch wx)(hSR:S<R0)(hp:R0+1<=p)(hq:R0+1<=q)(f2:Fx (fun b=>b=S) wx wx')(s:∀cv',Sb wx S pv nv cm rv (.map (some M)) cv' f A1 D1->Sb wx' S pv nv cm rv (.map (some M)) cv' f A2 D2):Cs B S M R0 p q k pv nv cm rv f A D A2 D2 cv w ch wx':=by
 obtain⟨g,cap,y1,y2,y3,y4,y5,y6,y7,y8⟩:=h;exact⟨g,cap,s _ y1,iY y2 f2 (fun b hb=>row_ne y1 y2 (by decide) hb),y3.trans (f2.mono fun b hb=>Or.inl hb),f2.cell y4 (by omega),f2.cell y5 (by omega),f2.cell y6 (by omega),Nat.le_trans y7 f2.size,y8⟩
end
def Xb(B S M b:Nat):Prop:=b=S\/b=M\/B<=b
def Xr(S M:Nat)(rv cv:Value)(b:Nat):Prop:=b=S\/b=M\/rv.ownBlock=some b\/cv.ownBlock=some b
def IR(B S M k:Nat)(pv nv cm rv cv:Value)(f:Int)(A D A' D':Nat)(row row':List ByteArray)(ch:List Nat)(w:World)(e:Ending)(w':World):Prop:=∃(b0 b1 b2 b3 bs bl g cc:Nat) (rv':Value),e=.returned (.func (.func 64) #[] #[.pointer (some ⟨b0,0,none⟩),.pointer (some ⟨b1,0,none⟩),.pointer (some ⟨b2,0,none⟩),.pointer (some ⟨b3,0,none⟩)]) ∧
 (w'.cell? ⟨b0,0,none⟩=some (.func (.func 61) #[] #[.pointer (some ⟨bs,0,none⟩),.pointer (some ⟨bl,0,none⟩)])/\w'.cell? ⟨b1,0,none⟩=some (.pointer (some ⟨S,0,none⟩))/\w'.cell? ⟨b2,0,none⟩=some (.int .u64 (A:Int))/\w'.cell? ⟨b3,0,none⟩=some (.int .u64 (D:Int))/\w'.cell? ⟨bs,0,none⟩=some (.pointer (some ⟨S,0,none⟩))/\w'.cell? ⟨bl,0,none⟩=some (.int .i64 (row.length:Int))) ∧
 (∀b,b=b0\/b=b1\/b=b2\/b=b3\/b=bs\/b=bl->w.heap.size<=b/\rv'.ownBlock≠some b/\g≠b) ∧
 Sb w' S pv nv cm rv' (.map (some M)) (.slice (some ⟨g,0,none⟩) (ch.length+1) cc) f A' D'/\w'.ownsRow B 9 1 rv' row'.length (row'.map .string)/\w'.ownsRow B 3 1 (.slice (some ⟨g,0,none⟩) (ch.length+1) cc) (ch.length+1) ((ch++[k]).map fun(j:Nat)=>Value.int .i64 (j:Int))/\InR w' M row'/\Fx (Xr S M rv cv) w w'/\(∀g',rv'.ownBlock=some g'->rv.ownBlock=some g'\/w.heap.size<=g')/\(cv.ownBlock=some g\/w.heap.size<=g)
def IU(B S M:Nat)(pv nv cm rv cv:Value)(f:Int)(A D:Nat)(row row':List ByteArray)(bs bl:Nat)(rv':Value)(w w':World):Prop:=(w.heap.size<=bs/\w.heap.size<=bl/\w'.cell? ⟨bs,0,none⟩=some (.pointer (some ⟨S,0,none⟩))/\w'.cell? ⟨bl,0,none⟩=some (.int .i64 (row.length:Int))/\rv'.ownBlock≠some bs/\rv'.ownBlock≠some bl)/\Sb w' S pv nv cm rv' (.map (some M)) cv f A D/\w'.ownsRow B 9 1 rv' row'.length (row'.map .string)/\InR w' M row'/\Fx (Lx S M rv) w w'/\(∀g,rv'.ownBlock=some g->rv.ownBlock=some g\/w.heap.size<=g)
theorem Qb{w:World}{B t u n m:Nat}{v v':Value}{xs ys:List Value}(h:w.ownsRow B t 1 v n xs)(h':w.ownsRow B u 1 v' m ys)(e:¬t=u){b:Nat}(hb:v.ownBlock=some b):¬v'.ownBlock=some b:=by
 rcases h.2 with⟨e1,-⟩|⟨g',c',cur,e1,-,h2,-⟩
 ·rw[e1]at hb;cases hb
 ·rw[e1]at hb;obtain rfl:g'=b:=Option.some.inj hb;exact fun h3=>row_ne h2 h' e h3 rfl
theorem IV{w:World}{B M u n:Nat}{row:List ByteArray}{v:Value}{xs:List Value}(h:InR w M row)(h':w.ownsRow B u 1 v n xs):¬v.ownBlock=some M:=by
 intro hb
 rcases h'.2 with⟨e1,-⟩|⟨g',c',cur,e1,-,h2,-⟩
 ·rw[e1]at hb;cases hb
 ·rw[e1]at hb;obtain rfl:g'=M:=Option.some.inj hb;obtain⟨D',⟨es,cl,h1,-⟩,-⟩:=h;rw[h1]at h2
  cases h2
theorem aay{B S M R0 p q k b0 bs bl:Nat}{pv nv cm rv cv rv':Value}{f:Int}{A D A' D':Nat}{row row':List ByteArray}{ch:List Nat}{w wc wz w5 w':World}{g cap:Nat}(hw:w.heap.size=R0)(hr:w.ownsRow B 9 1 rv row.length (row.map .string))(hin:InR w M row)(hcv:w.ownsRow B 3 1 cv ch.length (ch.map fun(j:Nat)=>Value.int .i64 (j:Int)))(hS:S<R0)
  (hp:R0+1<=p/\p<R0+3) (hq:R0+1<=q/\q<R0+3)
  (y1:Sb wc S pv nv cm rv (.map (some M)) (.slice (some ⟨g,0,none⟩) (ch.length+1) cap) f A' D') (hr':wc.ownsRow B 9 1 rv row.length (row.map .string)) (hin':InR wc M row) (y2:wc.ownsRow B 3 1 (.slice (some ⟨g,0,none⟩) (ch.length+1) cap) (ch.length+1) ((ch++[k]).map fun(j:Nat)=>Value.int .i64 (j:Int))) (y3:Fx (fun b=>b=S\/cv.ownBlock=some b) w wc) (y4:wc.cell? ⟨R0,0,none⟩=some (.pointer (some ⟨S,0,none⟩))) (y5:wc.cell? ⟨p,0,none⟩=some (.int .u64 (A:Int))) (y6:wc.cell? ⟨q,0,none⟩=some (.int .u64 (D:Int))) (y7:R0+3<=wc.heap.size) (y8:cv.ownBlock=some g\/R0+3<=g)
  (fz:Fx (fun _=>False) wc wz) (l:IU B S M pv nv cm rv (.slice (some ⟨g,0,none⟩) (ch.length+1) cap) f A' D' row row' bs bl rv' wz w5)
  (fw:Fx (fun b=>b=b0) w5 w') (hb0:w'.cell? ⟨b0,0,none⟩=some (.func (.func 61) #[] #[.pointer (some ⟨bs,0,none⟩),.pointer (some ⟨bl,0,none⟩)])) (h0:(wc.heap.size<=b0/\b0<wz.heap.size)\/b0=w5.heap.size) :
  IR B S M k pv nv cm rv cv f A D A' D' row row' ch w (.returned (.func (.func 64) #[] #[.pointer (some ⟨b0,0,none⟩),.pointer (some ⟨R0,0,none⟩),.pointer (some ⟨p,0,none⟩),.pointer (some ⟨q,0,none⟩)])) w':=by
 obtain⟨⟨l1,l2,l3,l4,l5,l6⟩,m1,m2,m3,m4,m5⟩:=l;have s1:=fz.size;have s2:=m4.size;have hM:M<R0:=by
  obtain⟨D',hD',-⟩:=hin;have:=hD'.lt;omega
 have hbs:bs<w5.heap.size:=rZ l3;have hbl:bl<w5.heap.size:=rZ l4;have hgl:=(pM (b:=g) y2 rfl).2;have hrl:=fun b (hb:rv.ownBlock=some b)=>hw ▸ (pM hr hb).2
 have hcl:=fun b (hb:cv.ownBlock=some b)=>hw ▸ (pM hcv hb).2
 have hgR:=y8.imp (hcl g) id;have hrr:∀b,rv'.ownBlock=some b->b<R0\/(wz.heap.size<=b/\b<w5.heap.size):=fun b hb=>(m5 b hb).imp (hrl b) (fun h=>⟨h,(pM m2 hb).2⟩)
 have kL:∀b,R0<=b->b<wz.heap.size->¬Lx S M rv b:=fun b h1 h2=>by
  rintro(rfl|rfl|h)
  ·omega
  ·omega
  ·have:=hrl b h;omega
 have c3:∀{b:Nat} {v:Value},R0<=b->b<R0+3->wc.cell? ⟨b,0,none⟩=some v->w'.cell? ⟨b,0,none⟩=some v:=fun {b v} h1 h2 hv=>fw.cell (m4.cell (fz.cell hv (fun h=>h)) (kL b h1 (by omega))) (by omega)
 have fgM:¬Lx S M rv g:=by
  rintro(h|h|h)
  ·exact row_ne y1 y2 (by decide) rfl h
  ·exact IV hin' y2 (congrArg some h)
  ·exact Qb hr' y2 (by decide) h rfl
 have aaz:¬g=b0:=by omega
 have Qc:∀b,rv'.ownBlock=some b->¬b=b0:=fun b hb=>by have:=hrr b hb;omega
 refine⟨b0,R0,p,q,bs,bl,g,cap,rv',rfl,⟨hb0,c3 (Nat.le_refl _) (by omega) y4,c3 (by omega) (by omega) y5,c3 (by omega) (by omega) y6,fw.cell l3 (by omega),fw.cell l4 (by omega)⟩,?_,m1.fx fw (by omega),iY m2 fw Qc,?_,m3.fx fw (by omega),?_,fun g' hg'=>(m5 g' hg').imp id (fun h=>by omega),y8.imp id (fun h=>by omega)⟩
 ·rintro b hb;refine⟨by omega,fun e=>?_,by omega⟩
  rcases hb with rfl|rfl|rfl|rfl|rfl|rfl
  ·exact Qc _ e rfl
  ·have:=hrr _ e;omega
  ·have:=hrr _ e;omega
  ·have:=hrr _ e;omega
  ·exact l5 e
  ·exact l6 e
 ·exact iY (iY (iY y2 fz (fun _ _ h=>h)) m4 (fun b hb=>by obtain rfl:g=b:=Option.some.inj hb;exact fgM)) fw (fun b hb=>by obtain rfl:g=b:=Option.some.inj hb;exact aaz)
 ·refine⟨(fw.os.trans (m4.os.trans fz.os)).trans y3.os,(fw.tape.trans (m4.tape.trans fz.tape)).trans y3.tape,(fw.output.trans (m4.output.trans fz.output)).trans y3.output,?_,fun b hb hn=>?_⟩
  ·have:=fw.size;have:=y3.size;omega
  ·have:=y3.size;rw[fw.block b (by omega) (by omega),m4.block b (by omega) (fun h=>hn (h.elim Or.inl fun h=>h.elim (fun e=>Or.inr (Or.inl e)) fun e=>Or.inr (Or.inr (Or.inl e)))),fz.block b (by omega) (fun h=>h),y3.block b hb (fun h=>hn (h.elim Or.inl fun e=>Or.inr (Or.inr (Or.inr e))))]
theorem aaA(B S M k ng nl ncc ncp:Nat)(po co:Option Addr)(na:Addr)(pc cc:Nat)(cm rv:Value)(f:Int)(A D:Nat)(P:List Pl)(row ns:List ByteArray)(ch:List Nat)(w:World)(h:Sb w S (.slice po P.length pc) (.slice (some na) nl ncp) cm rv (.map (some M)) (.slice co ch.length cc) f A D)
  (hro:∀w',Fx (Xb B S M) w w'->PlS w' (.slice po P.length pc) P/\w'.cell? (na.add k)=some (.slice (some ⟨ng,0,none⟩) ns.length ncc)/\∀i (hi:i<ns.length),w'.cell? ⟨ng,i,none⟩=some (.string ns[i])) (qO:¬Xb B S M ng) (hkn:k<nl) (hnl:nl<=ncp) (hncc:ns.length<=ncc) (hk:k<P.length) (hP:P.length<=64) (hA:A<18446744073709551616) (hD:D<18446744073709551616) (hb:P[k].bar<18446744073709551616) (hr:w.ownsRow B 9 1 rv row.length (row.map .string)) (hin:InR w M row) (hSM:¬S=M) (hc:w.ownsRow B 3 1 (.slice co ch.length cc) ch.length (ch.map fun(j:Nat)=>Value.int .i64 (j:Int))) (hcl:ch.length<=64) (hB:B<=w.heap.size) (hz:∀x∈ns,x.size<=maxLen) (hR:row.length+ns.length<=1048576) :
  Calls prog 37 #[.pointer (some ⟨S,0,none⟩),.int .i64 k] w (IR B S M k (.slice po P.length pc) (.slice (some na) nl ncp) cm rv (.slice co ch.length cc) f A D (A ||| 2 ^ k) (D ||| P[k].bar) row (di row ns) ch w):=by
 obtain⟨⟨c0,c1,-⟩,⟨c4,c5,c6⟩,c7,c8⟩:=h.cells;have z6:=h.fz 6;have z7:=h.fz 7;have z8:=h.fz 8;obtain⟨R0,hR0⟩:=zN w.heap.size;have HR0:=ae hR0;obtain⟨W1,hW1⟩:=zN (w.alloc (.cells #[.pointer (some ⟨S,0,none⟩)] 53));have hg1:w.grownBy W1 none:=by rw[<-hW1];exact au (ak w none) _
 have hs1:W1.heap.size=R0+1:=by rw[<-hW1,World.size_alloc,hR0]
 have hb1:W1.heap[R0]?=some (.cells #[.pointer (some ⟨S,0,none⟩)] 53 (0,0)):=by rw[<-hW1,<-hR0];exact heap_alloc_new w _
 have b0:W1.cell? ⟨R0,0,none⟩=some (.pointer (some ⟨S,0,none⟩)):=by rw[ag hb1];rfl
 have d7:=hg1.cell c7 (by simp);have d8:=hg1.cell c8 (by simp);have HS:=ae h;obtain⟨b,hb'⟩:=zN (P[k].bar);rw[hb']at hb ⊢;have l9:=ae hb';have zq:=ae hro;have HNG:=ae qO;have HRW:=ae (And.intro hr (And.intro hin hz));have EF:Hd (∀wx,Fx (fun b=>b=S\/(Value.slice co ch.length cc).ownBlock=some b) w wx->Fx (Xb B S M) w wx):=fun wx hx=>hx.mono fun b hb=>hb.elim Or.inl (fun e=>Or.inr (Or.inr (pM hc e).1))
 have hSR:S<R0:=by rw[<-hR0];exact(aA h)
 have TB:=ae (PY W1 hs1 (.int .u64 (A:Int)) (.int .u64 (D:Int)) 70);have TC:=ae (PY W1 hs1 (.int .u64 (D:Int)) (.int .u64 (A:Int)) 70);clear h hro qO hr hin hz hb';go_enter func37,ntmps37;go_wp2
 go_cut [5,6] from 8 (fun v5 v6 wx=>∃p q,v5=.pointer (some ⟨p,0,none⟩)/\v6=.pointer (some ⟨q,0,none⟩)/\¬p=q/\R0+1<=p/\R0+1<=q/\wx.cell? ⟨p,0,none⟩=some (.int .u64 (A:Int))/\wx.cell? ⟨q,0,none⟩=some (.int .u64 (D:Int))/\W1.grownBy wx none/\R0+3<=wx.heap.size/\p<R0+3/\q<R0+3)
 case first =>
  go_region_held3 (fun u=>u.cell? ⟨R0,0,none⟩=some (.pointer (some ⟨S,0,none⟩))/\u.cell? ⟨S,7,none⟩=some (.int .u64 (A:Int))/\u.cell? ⟨S,8,none⟩=some (.int .u64 (D:Int))) ((first|assumption|go_keep)) (fail)
  all_goals (go_wp2_with fail;go_meet;first|exact⟨R0+1,R0+1+1,rfl,rfl,by omega,by omega,by omega,TB.o.1,TB.o.2.1,mG TB.o.2.2.1,Nat.le_of_eq TB.o.2.2.2.symm,by omega,by omega⟩|exact⟨R0+1+1,R0+1,rfl,rfl,by omega,by omega,by omega,TC.o.2.1,TC.o.1,mG TC.o.2.2.1,Nat.le_of_eq TC.o.2.2.2.symm,by omega,by omega⟩)
 case rest =>
  obtain⟨p,q,rfl,rfl,hpq,hp1,hq1,m1,m2,hgc,hsc,hp3,hq3⟩:=hcut;have hgw:=ah hg1 hgc;have x0:=hgc.cell b0 (by simp);have x6:=hgw.cell c6 (by simp);obtain⟨i0,hi0,hii⟩:=Option.map_eq_some_iff.1 Ez;simp only[Prod.mk.injEq]at hii;obtain⟨hz0,hz1,hzb⟩:=hii;have hfc:Fx (fun _=>False) w wc:=(Fx.refl _ w).gb hgw (fun b e=>by cases e);have hrow:=iY hc hfc (fun _ _ h=>h);have uP:=ae (HS.o.fx hfc (fun h=>h));have bM:=ae hgw;have HGC:=ae hgc;have HM:=ae (And.intro m1 m2);have bW:∀b,(Value.slice co ch.length cc).ownBlock=some b->¬b=S/\b<R0:=fun b hb=>by
   rcases hc.2 with⟨e,-⟩|⟨g',c',cur,e,-,h2,-⟩
   ·rw[e]at hb;cases hb
   ·rw[e]at hb;obtain rfl:g'=b:=Option.some.inj hb;refine⟨fun e=>?_,by rw[<-HR0.o];exact(aA h2)⟩;have h3:w.heap[S]?=_:=HS.o;rw[e,h3]at h2;injection h2 with h2
    injection h2 with _ h2
    exact absurd h2 (by decide)
  have yV:Hd (some S≠(Value.slice co ch.length cc).ownBlock):=fun e=>(bW S e.symm).1 rfl
  have Ig:Hd (some R0≠(Value.slice co ch.length cc).ownBlock):=fun e=>by have:=(bW R0 e.symm).2;omega
  have lu:=ae bW;obtain⟨K,hK⟩:=zN (wc.heap.size);have Ih:Hd ((wc.drew.alloc (.cells #[.int .i64 (k:Int)] 3)).heap[K]?=some (.cells #[.int .i64 (k:Int)] 3 (0,0))):=by
   have:=heap_alloc_new wc.drew (.cells #[.int .i64 (k:Int)] 3);rw[show wc.drew.heap.size=K from hK]at this;exact this
  have Zb:B<=K:=by omega
  have hone:∀u∈([.int .i64 (k:Int)]:List Value),u.oneCell'=true:=by simp[Value.oneCell']
  have f6A:=(World.grownBy_alloc wc (.cells #[.int .i64 (k:Int)] 3) none).cell x6 (by simp);have f0A:=(World.grownBy_alloc wc (.cells #[.int .i64 (k:Int)] 3) none).cell x0 (by simp);obtain⟨ys,hys⟩:∃ys:List Value,(ch.map fun(j:Nat)=>Value.int .i64 (j:Int))=ys:=⟨_,rfl⟩;have Ii:=ae hys;rw[hys]at hrow;clear hys bW hfc m1 m2 hgc hgw c0 c1 c4 c5 c6 c7 c8 d7 d8;go_wp2
  go_cut [] from 8 (Cs B S M R0 p q k (.slice po P.length pc) (.slice (some na) nl ncp) cm rv f A D A D (.slice co ch.length cc) w ch)
  case first =>
   go_region_law (refine step_append_lies _ (by rfl) _ _ _ (by rfl) B 3 i0 _ 1 8 underlying25 hi0 hz0 hz1 hzb (by rfl) (by decide) (.slice co ch.length cc) ch.length ys (by rfl) (hrow.drew.alloc _) ⟨K,0,none⟩ 1 1 [.int .i64 (k:Int)] (by rfl) (by rfl) (World.news_of_block Ih.o) hone (by omega) (by unfold maxLen;omega) (by omega) (by simp;omega) _ rfl ?_;intro g cap w3 hown3 hgrow hat hlt3;have hc3:=hgrow.cell f6A yV.o;have hc0:=hgrow.cell f0A Ig.o;have Zc:=Lib.frozen_of_heap ((hgrow.block S (Nat.lt_of_lt_of_le (aA uP.o) (World.grownBy_alloc wc (.cells #[.int .i64 (k:Int)] 3) none).size) yV.o).trans (((World.grownBy_alloc wc (.cells #[.int .i64 (k:Int)] 3) none).block S (aA uP.o) (by simp)).trans uP.o)) 6)
   all_goals (go_wp2_with fail;go_meet;exact Z8 HR0.o uP.o bM.o x0 HM.o.1 HM.o.2 hp1 hq1 hsc hSR lu.o (by rw[Ii.o];exact hown3) hgrow hat)
  case rest =>
   have HC:=ae hcut;obtain⟨g,cap,y1,y2,y3,y4,y5,y6,y7,y8⟩:=hcut;obtain⟨-,-,c7,c8⟩:=y1.cells;have z7':=y1.fz 7;have CO:=ae (fun w=>Hw k (by omega) w);have hor:=bits_or_u64_nat A (2 ^ k) hA (oV (by omega));obtain⟨E2,hE2⟩:∃X:Int,((2 ^ k:Nat):Int)=X:=⟨_,rfl⟩;obtain⟨A2,hA2⟩:∃X:Int,((A ||| 2 ^ k:Nat):Int)=X:=⟨_,rfl⟩;rw[hE2]at CO hor;rw[hA2]at hor;have HA2:=ae hA2;clear y1 y2 y3 y5 y6 y7 y8 hE2 hA2 x0 x6 f6A f0A hrow;go_wp2
   go_cut [] from 8 (Cs B S M R0 p q k (.slice po P.length pc) (.slice (some na) nl ncp) cm rv f A D (A ||| 2 ^ k) D (.slice co ch.length cc) w ch)
   case first =>
    go_region_with (first|(go_at_call 63;refine(CO.o _).mono ?_;rintro e w' ⟨rfl,rfl⟩))
    all_goals (go_wp2_with fail;go_meet;rw[<-HA2.o];exact HC.o.st hSR hp1 hq1 ((Fx.refl (fun b=>b=S) _).set (Or.inl rfl) _ _).drew (fun _ s=>s.setA _))
   case rest =>
    have HC:=ae hcut;obtain⟨g,cap,y1,y2,y3,y4,y5,y6,y7,y8⟩:=hcut;obtain⟨⟨c0,-⟩,-,c7,c8⟩:=y1.cells;have z8':=y1.fz 8;obtain⟨a,rfl,hcap,hat⟩:=OG (zq.o _ (EF.o _ y3)).1 hk;obtain⟨e0,e1,-⟩:=hat k hk;rw[l9.o]at e1;have hor2:=bits_or_u64_nat D b hD hb;obtain⟨D2,hD2⟩:∃X:Int,((D ||| b:Nat):Int)=X:=⟨_,rfl⟩;rw[hD2]at hor2;have HD2:=ae hD2;have hkc:k<pc:=by omega
    clear y1 y2 y3 y5 y6 y7 y8 hD2 hat;go_wp2
    go_cut [] from 8 (Cs B S M R0 p q k (.slice (some a) P.length pc) (.slice (some na) nl ncp) cm rv f A D (A ||| 2 ^ k) (D ||| b) (.slice co ch.length cc) w ch)
    case first =>
     go_region_law (fail)
     all_goals (go_wp2_with fail;go_meet;rw[<-HD2.o];exact HC.o.st hSR hp1 hq1 ((Fx.refl (fun b=>b=S) _).set (Or.inl rfl) _ _).drew (fun _ s=>s.setD _))
    case rest =>
     obtain⟨g,cap,y1,y2,y3,y4,y5,y6,y7,y8⟩:=hcut;obtain⟨⟨-,c1,-⟩,-⟩:=y1.cells;obtain⟨hr,hin,hz⟩:=HRW.o;have FB:=EF.o _ y3;obtain⟨-,n0,n1⟩:=zq.o _ FB;have Bl:¬Lx S M rv ng:=fun hh=>HNG.o (hh.elim Or.inl fun hh=>hh.elim (fun e=>Or.inr (Or.inl e)) fun e=>Or.inr (Or.inr (pM hr e).1))
     have hr':=iY hr y3 (fun g' hg' hh=>hh.elim (row_ne HS.o hr (by decide) hg') (Qb hr hc (by decide) hg'));have hin':=hin.fx y3 (fun hh=>hh.elim (fun e=>hSM e.symm) (IV hin hc));have CL:Hd (∀wz,Fx (fun _=>False) wc wz->Calls prog 34 #[.pointer (some ⟨S,0,none⟩),.slice (some ⟨ng,0,none⟩) ns.length ncc] wz fun e w'=>∃bs bl rv',e=.returned (.func (.func 61) #[] #[.pointer (some ⟨bs,0,none⟩),.pointer (some ⟨bl,0,none⟩)])/\Hd (IU B S M (.slice (some a) P.length pc) (.slice (some na) nl ncp) cm rv (.slice (some ⟨g,0,none⟩) (ch.length+1) cap) f (A ||| 2 ^ k) (D ||| b) row (di row ns) bs bl rv' wz w')):=fun wz hx =>
      OU B S M ng ncc _ _ cm rv _ f _ _ row ns wz (y1.fx hx (fun h=>h)) (iY hr' hx (fun _ _ h=>h)) (hin'.fx hx (fun h=>h)) hSM (Nat.le_trans hB (Nat.le_trans y3.size hx.size)) (fun i hi=>hx.cell (n1 i hi) (fun h=>h)) Bl hncc hz hR
     obtain⟨K,hK⟩:=zN (wc.heap.size);have hmf:∀(fn:Fn) (first cap:Array Value) (w:World),(Instr.makeFunc fn first cap).run prog w=.ok (.func fn first cap) w:=fun _ _ _ _=>rfl
     have ae7:k<ncp:=by omega
     have HE:=ae (fun(wz w5 w':World) (bs bl b0:Nat) (rv':Value)=>aay (B:=B) (M:=M) (k:=k) (b0:=b0) (bs:=bs) (bl:=bl) (rv':=rv') (wz:=wz) (w5:=w5) (w':=w') (row':=di row ns) HR0.o hr hin hc hSR ⟨hp1,hp3⟩ ⟨hq1,hq3⟩ y1 hr' hin' y2 y3 y4 y5 y6 y7 y8);have hxa:Fx (fun _=>False) wc wc.drew:=(Fx.refl _ wc).drew;have hxb:Fx (fun _=>False) wc (wc.drew.alloc (.cells #[.nilFunc] 1)):=hxa.gb (au (ak _ none) _) (fun b e=>by cases e);have n0B:=(World.grownBy_alloc wc (.cells #[.nilFunc] 1) none).cell n0 (by simp);have c1B:=(World.grownBy_alloc wc (.cells #[.nilFunc] 1) none).cell c1 (by simp);have y4B:=(World.grownBy_alloc wc (.cells #[.nilFunc] 1) none).cell y4 (by simp);have jl:=ae hxa;have HXB:=ae hxb;have HKB:Hd (∀bs bl rv' w5,IU B S M (.slice (some a) P.length pc) (.slice (some na) nl ncp) cm rv (.slice (some ⟨g,0,none⟩) (ch.length+1) cap) f (A ||| 2 ^ k) (D ||| b) row (di row ns) bs bl rv' (wc.drew.alloc (.cells #[.nilFunc] 1)) w5->w5.heap[K]?=some (.cells #[.nilFunc] 1 (0,0))):=fun bs bl rv' w5 hl=>by
      have h1:=heap_alloc_new wc.drew (.cells #[.nilFunc] 1);rw[show wc.drew.heap.size=K from hK]at h1;obtain⟨-,-,-,-,m4,-⟩:=hl;refine(m4.block K (aA h1) ?_).trans h1;have H8:M<w.heap.size:=by
       obtain⟨D',hD',-⟩:=hin;exact hD'.lt
      have:=y3.size;rintro(h|h|h)
      ·omega
      ·omega
      ·have:=(pM hr h).2;omega
     clear y1 y2 y3 y5 y6 y7 y8 hr hin hz FB n1 Bl c0 c7 c8 hr' hin' hxa hxb;go_wp2;go_region_with (first|(go_at_call 34;refine(CL.o _ (by first|exact jl.o|exact HXB.o)).mono ?_;rintro e w5 ⟨bs,bl,rv',rfl,hl⟩;first|(have hkb:=HKB.o _ _ _ _ hl.o;have ae8:w5.cell? ⟨K,0,none⟩=some .nilFunc:=(by rw[ag hkb];rfl);have hkf:=Lib.frozen_of_heap hkb 0)|(have hnb:=heap_alloc_new w5 (.cells #[.nilFunc] 1);have hna:(w5.alloc (.cells #[.nilFunc] 1)).cell? ⟨w5.heap.size,0,none⟩=some .nilFunc:=(by rw[ag hnb];rfl);have hnf:=Lib.frozen_of_heap hnb 0)))
     all_goals (go_wp2;go_ret;first|exact HE.o wc.drew w5 _ bs bl w5.heap.size rv' jl.o hl.o ((Fx.refl _ w5).gb (au (ak w5 none) _) (fun b e=>by cases e)) (by rw[ag (heap_alloc_new w5 _)];rfl) (Or.inr rfl)|exact HE.o (wc.drew.alloc (.cells #[.nilFunc] 1)) w5 _ bs bl K rv' HXB.o hl.o ((Fx.refl (fun b=>b=K) w5).set (Or.inl rfl) _ _) (by rw[ag (block_setCell hkb _)];rfl) (Or.inl ⟨Nat.le_of_eq hK,by rw[World.size_alloc];exact Nat.lt_succ_of_le (Nat.le_of_eq hK.symm)⟩))
end Go.Proofs.YtapodndfpecglaaGreatDoor
