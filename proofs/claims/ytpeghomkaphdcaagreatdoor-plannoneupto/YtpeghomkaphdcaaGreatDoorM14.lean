import Derived.Test.YtpeghomkaphdcaaGreatDoorM13
import Derived.RangeFuncKeeps
import Derived.Shelf.SlIter.Collect
import Derived.Test.YtpeghomkaphdcaaGreatDoorM02
import Derived.Test.YtpeghomkaphdcaaGreatDoorM11
import Derived.WalkLawsBesides
namespace Go.Proofs.YtpeghomkaphdcaaGreatDoor
open Go.RowKit Go.Maps Go.Sort Go.Shelf
set_option linter.unusedVariables false
attribute [local go_sem] Oper.semAt_some
theorem range_in {P:Program} {n:Nat} {g:Operand} {ps:Array Tmp} {assign body:Code} {Q:Exit->Act->World->Prop} {a:Act} {w:World} {gf:Nat} {lb:Array Value}
  (hg:a.eval g=.func (.func gf) #[] lb) (eg:∀args w,(callFunc gf args).run P w=.ok (.enter gf args) w)
  (h:∀(r:Loop) (W4:World),r.state=.ready->r.pending=none->r.params=ps->r.assign=assign->r.body=body->r.tmps=a.tmps->(w.alloc (.deferred (some []))).alloc (.loop r)=W4 →
   CallsIn Fence.wide (n - 1) P gf (#[.func (.yield (w.heap.size+1)) #[] #[]]++lb) W4 (rangePost Fence.wide n P (w.heap.size+1) Q { a with defers:=[{ target:=.collected w.heap.size,args:=#[] }]++a.defers })) :
  (Code.rangeFunc g ps assign body).wpIn Fence.wide n P Q a w:=by
 refine wpIn_rangeFunc ?_
 intro fn hfn
 obtain ⟨r,hr⟩:∃r:Loop,r={ state:=.ready,pending:=none,fn:=fn,tmps:=a.tmps,params:=ps,assign:=assign,body:=body,defers:=w.heap.size }:=⟨_,rfl⟩
 obtain ⟨W1,hW1⟩:∃W1,(w.alloc (.deferred (some []))).alloc (.loop r)=W1:=⟨_,rfl⟩
 have hc:=h r W1 (by rw [hr]) (by rw [hr]) (by rw [hr]) (by rw [hr]) (by rw [hr]) (by rw [hr]) hW1
 have e1:(Instr.enterLoop fn a.tmps ps assign body Fence.wide.round).run P w=.ok (w.heap.size+1,[{ target:=.collected w.heap.size,args:=#[] }]) W1:=by
  rw [<-hW1,hr,show Fence.wide.round=none from rfl]
  exact run_enterLoop_outer _ _ _ _ _
 have e2:(resolve a.eval (rangeCall g (w.heap.size+1)) 0).run P W1=.ok { target:=.fn (.func gf) lb,args:=#[.func (.yield (w.heap.size+1)) #[] #[]] } W1:=by
  simp only [resolve,hg]
  simp [go_sem]
 have e3:(invoke (.fn (.func gf) lb) #[.func (.yield (w.heap.size+1)) #[] #[]]).run P W1=.ok (.enter gf (#[.func (.yield (w.heap.size+1)) #[] #[]]++lb)) W1:=by
  simp [invoke,go_sem,eg]
 have e4:Fence.wide.depth.isSome=true->1<=n:=by
  intro hd
  simp [Fence.wide] at hd
 clear h hr
 refine ⟨w.heap.size+1,[{ target:=.collected w.heap.size,args:=#[] }],W1,{ target:=.fn (.func gf) lb,args:=#[.func (.yield (w.heap.size+1)) #[] #[]] },W1,gf,#[.func (.yield (w.heap.size+1)) #[] #[]]++lb,W1,e1,?_⟩
 refine ⟨e2,?_⟩
 refine ⟨fun _ _=>trivial,?_⟩
 refine ⟨e3,?_⟩
 refine ⟨e4,?_⟩
 exact hc
theorem loop_back (r:Loop) (h1:r.state=.ready) (h2:r.pending=none):({ ({ r with state:=.busy }:Loop) with state:=if (none:Option Code).isNone then .ready else .done,pending:=none }:Loop)=r:=by
 cases r
 simp at h1 h2
 simp [h1,h2]
theorem yield_in {P:Program} {n l:Nat} {r:Loop} {args:Array Value} {W1:World} {R:Ending->World->Prop} (hl:W1.heap[l]?=some (.loop r)) (hps:args.size=r.params.size)
  (h:r.assign.wpIn (Fence.wide.inRound l) n P (Exit.then (fun a₁ w₁=>∃w₂,(Instr.beginRound l).run P w₁=.ok () w₂/\r.body.wpIn (Fence.wide.inRound l) n P (roundPost P l R) a₁ w₂) (fun _ _ _=>False))
   { tmps:=(r.params.zip args).foldl (fun tmps (t,a)=>tmps.setIfInBounds t a) r.tmps,defers:=[] } W1) :
  YieldAt Fence.wide n P l args W1 R:=⟨_,_,_,_,run_yield hl hps,roundIn_of_wpIn trivial h⟩
theorem valS_any (o:Option Addr) (n c:Nat) (w:World):Calls Tryz.prog 60 #[.slice o n c] w fun e w'=>e=.returned (.func (.func 82) #[] #[.pointer (some ⟨w.heap.size,0,none⟩)])/\w'=w.alloc (.cells #[.slice o n c] 40):=by
 go_enter Tryz.func60,Tryz.ntmps60
 go_wp2
 go_ret
 exact ⟨rfl,rfl⟩
set_option maxRecDepth 100000 in
set_option maxHeartbeats 3200000 in
theorem iterS (n l bm:Nat) (hn:1<=n) (o:Option Addr) (c:Nat) (L:List ByteArray) (hL:L.length<=1048576) (J:List ByteArray->World->Prop)
  (hc:∀pre W,J pre W->W.cell? ⟨bm,0,none⟩=some (.slice o L.length c)/\TxS W (.slice o L.length c) L)
  (hY:∀pre x W,J pre W->pre.length < L.length->YieldAt Fence.wide (n - 1) Tryz.prog l #[.string x] W fun e W'=>e=.returned (.bool true)/\J (pre++[x]) W') (W:World) (h0:J [] W) :
  CallsIn Fence.wide n Tryz.prog 82 #[.func (.yield l) #[] #[],.pointer (some ⟨bm,0,none⟩)] W fun e W'=>(∃v,e=.returned v)/\J L W':=by
 refine callsIn_of_wp Tryz.func82 rfl trivial ?_ rfl
 simp only [Tryz.ntmps82,List.size_toArray,List.length_cons,List.length_nil,Nat.reduceAdd,Nat.reduceSub,Array.replicate_succ,Array.replicate_zero,List.push_toArray,List.append_toArray,List.nil_append,List.cons_append]
 obtain ⟨m0,-⟩:=hc [] W h0
 gi_wp2
 clear m0
 gi_loopw [7] (fun vi wr=>∃i:Nat,vi=.int .i64 i/\i<=L.length/\J (L.take i) wr) (fun vi _=>L.length - (intOf vi).toNat)
 case atStart=>exact ⟨0,rfl,Nat.zero_le _,h0⟩
 case round =>
  obtain ⟨i,rfl,hi,hJ⟩:=hrel
  have HJ:Hid (J (L.take i) wr):=hJ
  by_cases hlt:i < L.length
  ·obtain ⟨m1,m2⟩:=hc _ _ hJ
   obtain ⟨a,rfl,hcv,hat⟩:=txs_at m2 hlt
   have e0:=hat i hlt
   obtain ⟨x,hx⟩:∃x,L[i]=x:=⟨_,rfl⟩
   rw [hx] at e0
   obtain ⟨fn,tmps,assign,body,hy,hR⟩:=hY (L.take i) x wr hJ (by simp;omega)
   have HTK:Hid (L.take i++[x]=L.take (i+1)):=by
    show _=_
    rw [List.take_succ_eq_append_getElem hlt,hx]
   clear m1 m2 hat hx hJ
   gi_wp2
   refine hR.mono ?_
   rintro e W3 ⟨rfl,hJ3⟩
   have HJ3:Hid (J (L.take (i+1)) W3):=by show J _ _;rw [<-HTK.out];exact hJ3
   clear hJ3
   gi_wp2
   exact ⟨⟨i+1,by go_num,by omega,HJ3.out⟩,by simp [intOf];omega⟩
  ·have hil:i=L.length:=by omega
   have HJ3:Hid (J L wr):=by
    rw [hil,List.take_length] at hJ
    exact hJ
   clear hJ hil hi
   gi_wp2
   go_end0
   exact ⟨⟨_,rfl⟩,HJ3.out⟩
theorem gb_put (W:World) (l:Nat) (o:Obj):W.grownBy (W.putObj l o) (some l) :=
 ⟨rfl,rfl,rfl,by simp,fun k _ hk=>World.putObj_heap_other (fun e=>hk (by rw [e]))⟩
set_option maxRecDepth 100000 in
set_option maxHeartbeats 6400000 in
theorem appS (bm:Nat) (o:Option Addr) (c:Nat) (L:List ByteArray) (hL:L.length<=1048576) (w:World) (hbm:w.heap[bm]?=some (.cells #[.slice o L.length c] 40 (0,0))) (htx:TxS w (.slice o L.length c) L) :
  CallsIn Fence.wide 4 Tryz.prog 66 #[.slice none 0 0,.func (.func 82) #[] #[.pointer (some ⟨bm,0,none⟩)]] w fun e w'=>∃v,e=.returned v/\w'.ownsRow w.heap.size 9 1 v L.length (L.map Value.string)/\Below w.heap.size w w':=by
 have hinfo2:=infoTx
 obtain ⟨j0,hj0,hjj⟩:=Option.map_eq_some_iff.1 hinfo2
 simp only [Prod.mk.injEq] at hjj
 obtain ⟨hy0,hy1,hyb⟩:=hjj
 clear hinfo2
 have HBM:Hid (w.heap[bm]?=some (.cells #[.slice o L.length c] 40 (0,0))/\TxS w (.slice o L.length c) L):=⟨hbm,htx⟩
 have hbl:bm < w.heap.size:=(Array.getElem?_eq_some_iff.1 hbm).1
 clear hbm htx
 refine callsIn_of_wp_marks Tryz.func66 rfl trivial ?_ rfl
 simp only [Tryz.ntmps66,List.size_toArray,List.length_cons,List.length_nil,Nat.reduceAdd,Nat.reduceSub,Array.replicate_succ,Array.replicate_zero,List.push_toArray,List.append_toArray,List.nil_append,List.cons_append]
 gi_wp2
 refine range_in (gf:=82) (lb:=#[.pointer (some ⟨bm,0,none⟩)]) rfl (enters_of Tryz.func82 (by kernel_rfl) rfl) ?_
 intro r W4 hr1 hr2 hr3 hr4 hr5 hr6 hW4
 obtain ⟨B,hB⟩:∃B,w.heap.size=B:=⟨_,rfl⟩
 have hs1:(w.alloc (.cells #[.slice none 0 0] 40)).heap.size=B+1:=by rw [World.size_alloc,hB]
 rw [hs1]
 have q0:W4.heap[B]?=some (.cells #[.slice none 0 0] 40 (0,0)):=by
  rw [<-hW4,Below.heap_alloc _ _ _ (by simp;omega),Below.heap_alloc _ _ _ (by simp;omega),<-hB]
  exact heap_alloc_new w _
 have qd:W4.heap[B+1]?=some (.deferred (some [])):=by
  rw [<-hW4,Below.heap_alloc _ _ _ (by simp;omega),<-hs1]
  exact heap_alloc_new _ _
 have ql:W4.heap[B+2]?=some (.loop r):=by
  rw [<-hW4]
  have:=heap_alloc_new ((w.alloc (.cells #[.slice none 0 0] 40)).alloc (.deferred (some []))) (.loop r)
  rw [World.size_alloc,hs1] at this
  exact this
 have b4:Below w.heap.size w W4:=by
  rw [<-hW4]
  exact (((Below.refl _ _).alloc (Nat.le_refl _) _).alloc (by simp) _).alloc (by simp;omega) _
 have HB:Hid (w.heap.size=B):=hB
 clear hW4 hs1
 have hbB:bm < B:=by omega
 have hcl:∀W,Below w.heap.size w W->W.cell? ⟨bm,0,none⟩=some (.slice o L.length c)/\TxS W (.slice o L.length c) L:=fun W hb=>by
  refine ⟨?_,HBM.out.2.grow (bel_gb hb)⟩
  rw [Lib.cell_of_heap ((hb.block bm hbl).trans HBM.out.1)]
  rfl
 refine (iterS 3 (B+2) bm (by omega) o c L hL (fun pre W=>(∃v,W.heap[B]?=some (.cells #[v] 40 (0,0))/\W.ownsRow w.heap.size 9 1 v pre.length (pre.map Value.string))/\W.heap[B+2]?=some (.loop r)/\W.heap[B+1]?=some (.deferred (some []))/\Below w.heap.size w W)
  (fun pre W h=>hcl W h.2.2.2) ?yl W4 ⟨⟨_,q0,World.ownsRow_nil _ _ _ _⟩,ql,qd,b4⟩).mono ?fin
 case fin =>
  rintro e W5 ⟨⟨v,rfl⟩,⟨v5,qv,qr⟩,q2,q3,q4⟩
  obtain ⟨W6,hW6⟩:∃W6,W5.putObj (B+2) (Obj.loop { r with state:=.exhausted })=W6:=⟨_,rfl⟩
  have hel:=run_endLoop (P:=Tryz.prog) q2 (by rw [hr1];simp)
  rw [hW6,hr2] at hel
  refine ⟨none,W6,hel,?_⟩
  clear hel
  have p1:W6.heap[B]?=some (.cells #[v5] 40 (0,0)):=by rw [<-hW6];exact (World.putObj_heap_other (by omega)).trans qv
  have p3:W6.heap[B+1]?=some (.deferred (some [])):=by rw [<-hW6];exact (World.putObj_heap_other (by omega)).trans q3
  have pg:W5.grownBy W6 (some (B+2)):=by rw [<-hW6];exact gb_put _ _ _
  have pr:W6.ownsRow w.heap.size 9 1 v5 L.length (L.map Value.string):=qr.kept pg (ownsRow_ne_a qr q2 (fun cur e=>by cases e))
  have p4:Below w.heap.size w W6:=q4.grown pg q4.size (fun k e=>by cases e;omega)
  obtain ⟨pc,pf⟩:=cell_of_box_a p1
  have HPR:Hid (W6.ownsRow w.heap.size 9 1 v5 L.length (L.map Value.string)):=pr
  have hpb:=HB.out
  clear hW6 qv qr q2 q3 q4 hr4 hr5 hr6 q0 qd ql b4 pg pr
  try rw [hpb]
  simp only [List.cons_append,List.nil_append]
  gi_wp2
  refine ⟨by simp,.inl ⟨_,_,rfl,run_takeDeferred p3,?_⟩⟩
  refine ⟨_,results_tmp rfl _ _ _,?_⟩
  exact ⟨v5,rfl,HPR.out.kept (gb_put _ _ _) (ownsRow_ne_a HPR.out p3 (fun cur e=>by cases e)),p4.grown (gb_put _ _ _) p4.size (fun k e=>by cases e;omega)⟩
 case yl =>
  rintro pre x W5 ⟨⟨v5,qv,qr⟩,q2,q3,q4⟩ hlen
  refine yield_in q2 (by rw [hr3];rfl) ?_
  rw [hr3,hr4,hr5,hr6]
  obtain ⟨W6,hW6⟩:∃W6,W5.putObj (B+2) (Obj.loop { r with state:=.busy })=W6:=⟨_,rfl⟩
  have hbr:=run_beginRound (P:=Tryz.prog) q2 hr1
  rw [hW6] at hbr
  have l2:B+2 < W5.heap.size:=(Array.getElem?_eq_some_iff.1 q2).1
  have pg:W5.grownBy W6 (some (B+2)):=by rw [<-hW6];exact gb_put _ _ _
  have p1:W6.heap[B]?=some (.cells #[v5] 40 (0,0)):=by rw [<-hW6];exact (World.putObj_heap_other (by omega)).trans qv
  have p2:W6.heap[B+2]?=some (.loop { r with state:=.busy }):=by rw [<-hW6];exact World.putObj_heap_same l2
  have p3:W6.heap[B+1]?=some (.deferred (some [])):=by rw [<-hW6];exact (World.putObj_heap_other (by omega)).trans q3
  have pr:W6.ownsRow w.heap.size 9 1 v5 pre.length (pre.map Value.string):=qr.kept pg (ownsRow_ne_a qr q2 (fun cur e=>by cases e))
  have p4:Below w.heap.size w W6:=q4.grown pg q4.size (fun k e=>by cases e;omega)
  obtain ⟨pc,pf⟩:=cell_of_box_a p1
  have hz6:=p4.size
  have hB6:B < W6.heap.size:=(Array.getElem?_eq_some_iff.1 p1).1
  have hD6:B+1 < W6.heap.size:=(Array.getElem?_eq_some_iff.1 p3).1
  have hl6:B+2 < W6.heap.size:=(Array.getElem?_eq_some_iff.1 p2).1
  have ne_of:∀{j:Nat} {ob:Obj},W6.heap[j]?=some ob->(∀cur,ob ≠ .cells cur 9 (0,0))->some j ≠ v5.ownBlock:=fun hj hno=>by
   rcases ownsRow_ne_a pr hj hno with e | e
   ·rw [e];simp
   ·exact fun e'=>e e'.symm
  have nB:=ne_of p1 (fun cur e=>by simp at e)
  have nl:=ne_of p2 (fun cur e=>by cases e)
  have nD:=ne_of p3 (fun cur e=>by cases e)
  have hpb:=HB.out
  rw [hpb] at hr6
  clear hW6 qv qr q3 q4 q0 qd ql b4 pg
  rw [hpb]
  clear q2
  gi_wp2_with (first
   | (gi_at_builtin;refine wpListIn_append_own _ rfl _ _ 40 rfl w.heap.size 9 j0 (.string ⟨#[]⟩) 1 16 Tryz.underlying40 hj0 hy0 hy1 hyb rfl (by decide) _ _ _ rfl (pr.alloc _) ⟨W6.heap.size,0,none⟩ 1 1 [.string x] rfl rfl (cell_one_new _ _ _) (by simp [Value.oneCell']) (by unfold maxLen;omega) (by omega) (by simp;omega) ?_;intro v' w3 hown' hg3 hnil3
      have hv3:w3.heap[B]?=some (.cells #[v5] 40 (0,0)):=(hg3.block B (by simp;omega) nB).trans ((Below.heap_alloc _ _ B hB6).trans p1)
      obtain ⟨hc3,hf3⟩:=cell_of_box_a hv3
      obtain ⟨g',cap',cur',rfl,hbase',hgb',hr1',hr2',hr3',hr4'⟩:∃g' cap' cur',v'=.slice (some ⟨g',0,none⟩) (pre.length+1) cap'/\w.heap.size<=g'/\w3.heap[g']?=some (.cells cur' 9 (0,0))/\pre.length+1<=cap'/\cap'<=maxLen/\cur'.size=cap' * 1/\cur'.toList.take ((pre.length+1) * 1)=pre.map Value.string++[.string x]:=by
       rcases hown'.2 with ⟨_,h0⟩ | h'
       ·exact absurd h0 (by omega)
       ·exact h'
      go_frame)
   | gi_in)
  have hg3':(W6.alloc (.cells #[.string x] 9)).grownBy w3 v5.ownBlock:=hg3
  have hL3:w3.heap[B+2]?=some (.loop { r with state:=.busy }):=(hg3'.block (B+2) (by simp;omega) nl).trans ((Below.heap_alloc _ _ _ hl6).trans p2)
  have hK3:w3.heap[B+1]?=some (.deferred (some [])):=(hg3'.block (B+1) (by simp;omega) nD).trans ((Below.heap_alloc _ _ _ hD6).trans p3)
  obtain ⟨w4,hw4⟩:∃w4,w3.setCell ⟨B,0,none⟩ (.slice (some ⟨g',0,none⟩) (pre.length+1) cap')=w4:=⟨_,rfl⟩
  rw [hw4]
  have hg4:w3.grownBy w4 (some B):=by rw [<-hw4];exact grownBy_setCell0_a _ _ _
  have hv4:w4.heap[B]?=some (.cells #[.slice (some ⟨g',0,none⟩) (pre.length+1) cap'] 40 (0,0)):=by rw [<-hw4];exact heap_setCell_box_a _ hv3
  have hL4:w4.heap[B+2]?=some (.loop { r with state:=.busy }):=(hg4.block (B+2) (Array.getElem?_eq_some_iff.1 hL3).1 (by simp)).trans hL3
  have hK4:w4.heap[B+1]?=some (.deferred (some [])):=(hg4.block (B+1) (Array.getElem?_eq_some_iff.1 hK3).1 (by simp)).trans hK3
  have hrow4:=hown'.kept hg4 (ownsRow_ne_a hown' hv3 (fun cur e=>by simp at e))
  have hl4:B+2 < w4.heap.size:=(Array.getElem?_eq_some_iff.1 hL4).1
  have hb3:Below w.heap.size w w3:=(p4.alloc p4.size _).grown hg3' (by simp;omega) (fun k e=>(pr.lt k e).1)
  have hb4:Below w.heap.size w w4:=hb3.grown hg4 hb3.size (fun k e=>by cases e;omega)
  clear hw4
  have hsz4:=hb4.size
  rw [hpb] at hb4 hrow4
  refine ⟨_,_,run_endRound none hL4,rfl,⟨_,(World.putObj_heap_other (by omega)).trans hv4,?_⟩,by rw [World.putObj_heap_same hl4,loop_back r hr1 hr2],(World.putObj_heap_other (by omega)).trans hK4,hb4.grown (gb_put _ _ _) (by omega) (fun k e=>by cases e;omega)⟩
  have:=hrow4.kept (gb_put w4 (B+2) (.loop { { r with state:=.busy } with state:=if (none:Option Code).isNone then .ready else .done,pending:=none })) (ownsRow_ne_a hrow4 hL4 (fun cur e=>by cases e))
  simpa using this
open Go.RowKit
set_option linter.unusedVariables false
def EntI (L:List En) (n:ByteArray) (c:Int):Prop:=(c=-1/\hasNm L n=false)\/∃j,∃hj:j < L.length,c=(j:Int)/\L[j].nm=n/\hasNm (L.take j) n=false
theorem EntI.neg {L:List En} {n:ByteArray} {c:Int} (h:EntI L n c):c < 0 ↔ hasNm L n=false:=by
 rcases h with ⟨rfl,h⟩ | ⟨j,hj,rfl,h1,h2⟩
 ·exact ⟨fun _=>h,fun _=>by omega⟩
 ·refine ⟨fun h=>by omega,fun h=>?_⟩
  have:=nm_at L n L.length j hj hj h1
  rw [List.take_length,h] at this
  cases this
theorem EntI.lt {L:List En} {i:Nat} (hi:i < L.length) {c:Int} (h:EntI L L[i].nm c):c < (i:Int) ↔ hasNm (L.take i) L[i].nm=true:=by
 rcases h with ⟨rfl,h⟩ | ⟨j,hj,rfl,h1,h2⟩
 ·have:=nm_at L L[i].nm L.length i hi hi rfl
  rw [List.take_length,h] at this
  cases this
 ·refine ⟨fun h=>nm_at L _ i j hj (by omega) h1,fun h=>?_⟩
  apply Classical.byContradiction
  intro hn
  rw [nm_up L _ i j (by omega) h] at h2
  cases h2
theorem ens_at {w:World} {o:Option Addr} {c:Nat} {L:List En} (h:EnS w (.slice o L.length c) L) {i:Nat} (hi:i < L.length):∃a,o=some a/\L.length<=c/\∀j (hj:j < L.length),EnAt w (a.add (j * 4)) L[j]:=by
 rcases h with ⟨h1,h2⟩ | ⟨a,cap,h1,h2,h3⟩
 ·rw [h2] at hi;simp at hi
 ·cases h1
  exact ⟨a,rfl,h2,h3⟩
set_option maxRecDepth 100000 in
set_option maxHeartbeats 800000 in
theorem entryOf_any (v:Value) (L:List En) (n:ByteArray) (w:World) (h:EnS w v L) (hL:L.length<=1048576) :
  Calls Tryz.prog 29 #[v,.string n] w fun e w'=>∃c:Int,e=.returned (.int .i64 c)/\EntI L n c/\w.grownBy w' none:=by
 have H1:Hid (EnS w v L):=h
 obtain ⟨o,c,rfl⟩:=ens_slice h
 clear h
 go_enter Tryz.func29,Tryz.ntmps29
 go_wp2
 go_loopw [5] (fun vi wr=>∃i:Nat,vi=.int .i64 i/\i<=L.length/\hasNm (L.take i) n=false/\w.grownBy wr none) (fun vi _=>L.length - (intOf vi).toNat)
 case atStart=>exact ⟨0,rfl,Nat.zero_le _,rfl,gb_refl _ _⟩
 case round =>
  obtain ⟨i,rfl,hi,hf,hg⟩:=hrel
  have HF:Hid (hasNm (L.take i) n=false):=hf
  have HG:Hid (w.grownBy wr none):=hg
  by_cases hlt:i < L.length
  ·obtain ⟨a,rfl,hcv,hat⟩:=ens_at (H1.out.grow hg) hlt
   have e0:=(hat i hlt).1
   obtain ⟨y,hy⟩:∃y,L[i].nm=y:=⟨_,rfl⟩
   rw [hy] at e0
   have HY:Hid (L[i].nm=y):=hy
   clear hf hg hat hy
   by_cases hxy:y=n
   ·have q:=txt_eq hxy
    have HT:Hid (EntI L n (i:Int)):=Or.inr ⟨i,hlt,rfl,HY.out.trans hxy,HF.out⟩
    clear hxy
    go_wp2
    go_ret
    exact ⟨(i:Int),rfl,HT.out,HG.out⟩
   ·have q:=txt_ne hxy
    have HT:Hid (hasNm (L.take (i+1)) n=false):=by
     show _=_
     rw [nm_next L n i hlt,HF.out,HY.out]
     simp [hxy]
    clear hxy
    go_wp2
    exact ⟨⟨i+1,by go_num,by omega,HT.out,HG.out⟩,by simp [intOf];omega⟩
  ·have hil:i=L.length:=by omega
   have HT:Hid (EntI L n (-1)):=Or.inl ⟨rfl,by rw [hil,List.take_length] at hf;exact hf⟩
   clear hf hg hil hi
   go_wp2
   go_ret
   exact ⟨-1,rfl,HT.out,HG.out⟩
theorem fe_many {L:List En} {i:Nat} {x:En} (h:50<=i\/20 < x.nd.length):faultE L i x=4:=by unfold faultE;rw [if_pos h]
theorem fe_text {L:List En} {i:Nat} {x:En} (h:¬ (50<=i\/20 < x.nd.length)) (h2:goodE x=false):faultE L i x=2:=by unfold faultE;rw [if_neg h,if_pos h2]
theorem fe_rest {L:List En} {i:Nat} {x:En} (h:¬ (50<=i\/20 < x.nd.length)) (h2:goodE x=true):faultE L i x=if hasNm (L.take i) x.nm=true\/twS x.nd x.nd.length=true then 5 else if x.nd.all (hasNm L)=true then 0 else 6:=by
 unfold faultE;rw [if_neg h,if_neg (by rw [h2];simp)]
def ErrSo (L:List En) (N:List ByteArray) (k:Nat) (d:Bool) (e:Int):Prop:=(e=0\/e=5\/e=6)/\(twS N k=false->d=false->e=if (N.take k).all (hasNm L)=true then 0 else 6)
theorem all_snoc (L:List En) (N:List ByteArray) (k:Nat) (hk:k < N.length):(N.take (k+1)).all (hasNm L)=((N.take k).all (hasNm L) && hasNm L N[k]):=by
 rw [List.take_succ_eq_append_getElem hk,List.all_append];simp
theorem any_snocT (N:List ByteArray) (y:ByteArray) (k:Nat) (hk:k < N.length):(N.take (k+1)).any (fun z=>decide (z=y))=((N.take k).any (fun z=>decide (z=y)) || decide (N[k]=y)):=by
 rw [List.take_succ_eq_append_getElem hk,List.any_append];simp
theorem ErrSo.next0 {L:List En} {N:List ByteArray} {k:Nat} (hk:k < N.length) {c:Int} (h:ErrSo L N k ((N.take k).any (fun z=>decide (z=N[k]))) 0) (hc:EntI L N[k] c):ErrSo L N (k+1) false (if c < 0 then 6 else 0):=by
 refine ⟨by split <;> simp,fun ht _=>?_⟩
 rw [tws_step N k hk] at ht
 obtain ⟨h1,h2⟩:=Bool.or_eq_false_iff.1 ht
 have h3:=h.2 h1 h2
 have h4:(N.take k).all (hasNm L)=true:=by
  apply Classical.byContradiction
  intro hn
  rw [if_neg hn] at h3
  cases h3
 rw [all_snoc L N k hk,h4,Bool.true_and]
 by_cases hn:c < 0
 ·rw [if_pos hn,if_neg (by rw [hc.neg.1 hn];simp)]
 ·rw [if_neg hn,if_pos]
  cases hh:hasNm L N[k] with
  | true=>rfl
  | false=>exact absurd (hc.neg.2 hh) hn
theorem ErrSo.next1 {L:List En} {N:List ByteArray} {k:Nat} (hk:k < N.length) {e:Int} (he:¬ e=0) (h:ErrSo L N k ((N.take k).any (fun z=>decide (z=N[k]))) e):ErrSo L N (k+1) false e:=by
 refine ⟨h.1,fun ht _=>?_⟩
 rw [tws_step N k hk] at ht
 obtain ⟨h1,h2⟩:=Bool.or_eq_false_iff.1 ht
 have h3:=h.2 h1 h2
 have h4:(N.take k).all (hasNm L)=false:=by
  cases hh:(N.take k).all (hasNm L) with
  | false=>rfl
  | true=>rw [hh,if_pos rfl] at h3;exact absurd h3 he
 rw [all_snoc L N k hk,h4]
 rw [h4] at h3
 exact h3
open Go.RowKit
set_option linter.unusedVariables false
set_option maxRecDepth 100000 in
set_option maxHeartbeats 12800000 in
theorem wrongEntry_at (a:Addr) (cap:Nat) (L:List En) (i:Nat) (w:World) (hi:i < L.length) (hcap:L.length<=cap) (h:∀j (hj:j < L.length),EnAt w (a.add (j * 4)) L[j]) (hL:L.length<=1048576) (hV:∀x ∈ L,x.nm.size < 2 ^ 60/\x.ve.size < 2 ^ 60/\x.dg.size < 2 ^ 46) (hN:∀x ∈ L,x.nd.length<=1048576) (hS:∀x ∈ L,∀y ∈ x.nd,y.size < 2 ^ 60) :
  Calls Tryz.prog 20 #[.slice (some a) L.length cap,.int .i64 i] w fun e w'=>e=.returned (.int .i64 (errE L i))/\w.grownBy w' none:=by
 rw [errE_at L i hi]
 have HEN:Hid (∀w',w.grownBy w' none->EnS w' (.slice (some a) L.length cap) L):=fun w' hg=>Or.inr ⟨a,cap,rfl,hcap,fun j hj=>(h j hj).grow hg⟩
 have CE:Hid (∀n w',w.grownBy w' none->Calls Tryz.prog 29 #[.slice (some a) L.length cap,.string n] w' fun e w''=>∃c:Int,e=.returned (.int .i64 c)/\EntI L n c/\w'.grownBy w'' none):=fun n w' hg=>entryOf_any _ L n w' (HEN.out w' hg) hL
 obtain ⟨x,hx⟩:∃x,L[i]=x:=⟨_,rfl⟩
 have hmem:x ∈ L:=by rw [<-hx];exact List.getElem_mem _
 obtain ⟨e0,e1,e2,sv,e3,hsv⟩:EnAt w (a.add (i * 4)) x:=by rw [<-hx];exact h i hi
 have HLT:Hid (∀c,EntI L x.nm c->(c < (i:Int) ↔ hasNm (L.take i) x.nm=true)):=fun c hc=>by
  rw [<-hx] at hc ⊢
  exact EntI.lt hi hc
 rw [hx]
 have H1:Hid (TxS w sv x.nd):=hsv
 obtain ⟨so,sc,rfl⟩:=txs_slice hsv
 have CM:Hid (∀w,Calls Tryz.prog 41 #[.string x.nm] w fun e w'=>e=.returned (.bool (nameB x.nm))/\w'=w):=fun w=>rname_any x.nm w (by have:=(hV x hmem).1;omega)
 have CV:Hid (∀w,Calls Tryz.prog 42 #[.string x.ve] w fun e w'=>e=.returned (.bool (okV x.ve))/\w.grownBy w' none):=fun w=>isVersion_any x.ve w (by have:=(hV x hmem).2.1;omega)
 have CD:Hid (∀w,Calls Tryz.prog 43 #[.string x.dg] w fun e w'=>e=.returned (.bool (digB x.dg))/\w'=w):=fun w=>isDigest_any x.dg w (by have:=(hV x hmem).2.2;unfold maxLen;omega)
 have CN:Hid (∀y ∈ x.nd,∀w,Calls Tryz.prog 41 #[.string y] w fun e w'=>e=.returned (.bool (nameB y))/\w'=w):=fun y hy w=>rname_any y w (by have:=hS x hmem y hy;omega)
 have hnl:=hN x hmem
 have hil:i<=1048576:=by omega
 have HG0:Hid (∀k (hk:k < x.nd.length),nameB x.nd[k]=false->goodE x=false):=fun k hk h=>by
  show goodE x=false
  unfold goodE
  rw [Bool.and_eq_false_iff]
  right
  rw [List.all_eq_false]
  exact ⟨x.nd[k],List.getElem_mem _,by rw [h];simp⟩
 have HG1:Hid (x.nd.all nameB=true->goodE x=(nameB x.nm && okV x.ve && digB x.dg)):=fun h=>by
  show goodE x=_
  unfold goodE
  rw [h,Bool.and_true]
 have HG2:Hid ((nameB x.nm && okV x.ve && digB x.dg)=false->goodE x=false):=fun h=>by
  show goodE x=false
  unfold goodE
  rw [h,Bool.false_and]
 clear h hV hN hS hmem hx hsv
 obtain ⟨R,hR⟩:∃R,faultE L i x=R:=⟨_,rfl⟩
 rw [hR]
 by_cases hm:50<=i
 ·have HR:Hid (R=4):=hR.symm.trans (fe_many (Or.inl hm))
  clear hR
  go_enter Tryz.func20,Tryz.ntmps20
  go_wp2
  go_ret
  exact ⟨ret_int HR.out.symm,gb_alloc (gb_refl w none) _⟩
 by_cases hn:20 < x.nd.length
 ·have HR:Hid (R=4):=hR.symm.trans (fe_many (Or.inr hn))
  clear hR
  go_enter Tryz.func20,Tryz.ntmps20
  go_wp2
  go_ret
  exact ⟨ret_int HR.out.symm,gb_alloc (gb_refl w none) _⟩
 have hmany:¬ (50<=i\/20 < x.nd.length):=by omega
 have HT:Hid (goodE x=false->R=2):=fun h=>hR.symm.trans (fe_text hmany h)
 have HQ:Hid (goodE x=true->R=if hasNm (L.take i) x.nm=true\/twS x.nd x.nd.length=true then 5 else if x.nd.all (hasNm L)=true then 0 else 6):=fun h=>hR.symm.trans (fe_rest hmany h)
 obtain ⟨gd,hgd⟩:∃g,goodE x=g:=⟨_,rfl⟩
 rw [hgd] at HT HQ HG0 HG1 HG2
 obtain ⟨q1,hq1⟩:∃q,nameB x.nm=q:=⟨_,rfl⟩
 obtain ⟨q2,hq2⟩:∃q,okV x.ve=q:=⟨_,rfl⟩
 obtain ⟨q3,hq3⟩:∃q,digB x.dg=q:=⟨_,rfl⟩
 rw [hq1] at CM HG1 HG2
 rw [hq2] at CV HG1 HG2
 rw [hq3] at CD HG1 HG2
 obtain ⟨xn,xv,xd,N⟩:=x
 simp only [] at CM CV CD CN H1 HG0 HG1 HG2 HQ HLT e0 e1 e2 e3 hn hnl
 clear hR hmany hgd hq1 hq2 hq3
 obtain ⟨A,hA⟩:∃A,w.heap.size=A:=⟨_,rfl⟩
 go_enter Tryz.func20,Tryz.ntmps20
 go_wp2_with (first | (go_at_call 41;refine (CM.out _).mono ?_;rintro e w' ⟨rfl,rfl⟩) | (go_at_call 42;refine (CV.out _).mono ?_))
 rintro e w1 ⟨rfl,hg1⟩
 obtain ⟨c0,c1,c2,c3⟩:=en_block ((hg1.block w.heap.size (by simp) (by simp)).trans (heap_alloc_new w _))
 have HG:Hid (w.grownBy w1 none):=gb_trans (gb_alloc (gb_refl w none) _) hg1
 try rw [hA]
 rw [hA] at c0 c1 c2 c3
 clear hg1 e0 e1 e2 e3 hA
 have HC:Hid (w1.cell? ⟨A,0,none⟩=some (.string xn)/\w1.cell? ⟨A,3,none⟩=some (.slice so N.length sc)):=⟨c0,c3⟩
 go_wp2_with (first | (go_at_call 43;refine (CD.out _).mono ?_))
 rintro e w' ⟨rfl,rfl⟩
 clear c0 c1 c2 c3
 cases q1 with
 | false =>
  go_wp2
  go_ret
  exact ⟨ret_int (HT.out (HG2.out (by trivial))).symm,HG.out⟩
 | true =>
 cases q2 with
 | false =>
  go_wp2
  go_ret
  exact ⟨ret_int (HT.out (HG2.out (by trivial))).symm,HG.out⟩
 | true =>
 cases q3 with
 | false =>
  go_wp2
  go_ret
  exact ⟨ret_int (HT.out (HG2.out (by trivial))).symm,HG.out⟩
 | true =>
 go_wp2
 go_loopw [9,10] (fun ve vk wr=>∃(k:Nat) (e:Int),vk=.int .i64 k/\ve=.int .i64 e/\k<=N.length/\ErrSo L N k false e/\(N.take k).all nameB=true/\w'.grownBy wr none) (fun _ vk _=>N.length - (intOf vk).toNat)
 case atStart=>exact ⟨0,0,rfl,rfl,Nat.zero_le _,⟨Or.inl rfl,fun _ _=>by simp⟩,rfl,gb_refl _ _⟩
 case round =>
  obtain ⟨k,e,rfl,rfl,hk,herr,hall,hg⟩:=hrel
  have HERR:Hid (ErrSo L N k false e):=herr
  have HALL:Hid ((N.take k).all nameB=true):=hall
  have HGW:Hid (w'.grownBy wr none):=hg
  have HG1':Hid (w.grownBy wr none):=gb_trans HG.out hg
  have f0:=hg.cell HC.out.1 (by simp)
  have f3:=hg.cell HC.out.2 (by simp)
  by_cases hlt:k < N.length
  ·obtain ⟨b,rfl,hcv,hat⟩:=txs_at (H1.out.grow HG.out) hlt
   have g0:=hg.cell (hat k hlt) (by simp)
   obtain ⟨y,hy⟩:∃y,N[k]=y:=⟨_,rfl⟩
   rw [hy] at g0
   have HY:Hid (N[k]=y):=hy
   have CY:Hid (∀w,Calls Tryz.prog 41 #[.string y] w fun e w'=>e=.returned (.bool (nameB y))/\w'=w):=fun w=>CN.out y (by rw [<-hy];exact List.getElem_mem _) w
   have HF:Hid (nameB y=false->R=2):=fun h=>HT.out (HG0.out k hlt (by rw [hy];exact h))
   have HNX:Hid (nameB y=true->(N.take (k+1)).all nameB=true):=fun h=>by
    rw [List.take_succ_eq_append_getElem hlt,List.all_append,HALL.out,hy]
    simp [h]
   obtain ⟨q,hq⟩:∃q,nameB y=q:=⟨_,rfl⟩
   rw [hq] at CY HF HNX
   have HCELL:Hid (∀wz,w'.grownBy wz none->wz.cell? ⟨A,3,none⟩=some (.slice (some b) N.length sc)/\∀j (hj:j < N.length),wz.cell? (b.add j)=some (.string N[j])):=fun wz hz=>⟨hz.cell HC.out.2 (by simp),fun j hj=>hz.cell (hat j hj) (by simp)⟩
   clear herr hall hg hat hy hq
   cases q with
   | false =>
    go_wp2_with (first | (go_at_call 41;refine (CY.out _).mono ?_;rintro e w' ⟨rfl,rfl⟩))
    go_ret
    exact ⟨ret_int (HF.out (by trivial)).symm,HG1'.out⟩
   | true =>
    go_wp2_with (first | (go_at_call 41;refine (CY.out _).mono ?_;rintro e w'' ⟨rfl,rfl⟩))
    clear f0 f3 g0
    go_loopw [9,12] (fun ve vj wj=>∃(j:Nat) (e:Int),vj=.int .i64 j/\ve=.int .i64 e/\j<=k/\ErrSo L N k ((N.take j).any (fun z=>decide (z=y))) e/\w'.grownBy wj none) (fun _ vj _=>k - (intOf vj).toNat)
    case atStart=>exact ⟨0,e,rfl,rfl,Nat.zero_le _,HERR.out,HGW.out⟩
    case round =>
     obtain ⟨j,e2,rfl,rfl,hj,herr2,hgj⟩:=hrel
     have HE2:Hid (ErrSo L N k ((N.take j).any (fun z=>decide (z=y))) e2):=herr2
     have HGJ:Hid (w'.grownBy wr none):=hgj
     have HGJ2:Hid (w.grownBy wr none):=gb_trans HG.out hgj
     obtain ⟨p3,pall⟩:=HCELL.out wr hgj
     have p1:=pall k hlt
     rw [HY.out] at p1
     by_cases hjk:j < k
     ·have hjl:j < N.length:=by omega
      obtain ⟨z,hz⟩:∃z,N[j]=z:=⟨_,rfl⟩
      have p0:=pall j hjl
      rw [hz] at p0
      have HAN:Hid ((N.take (j+1)).any (fun z=>decide (z=y))=((N.take j).any (fun z=>decide (z=y)) || decide (z=y))):=by
       show _=_
       rw [any_snocT N y j hjl,hz]
      clear herr2 hgj pall hz
      by_cases hzy:z=y
      ·have q:=txt_eq hzy
       have HV:Hid (ErrSo L N k ((N.take (j+1)).any (fun z=>decide (z=y))) 5):=⟨Or.inr (Or.inl rfl),fun _ h=>by rw [HAN.out] at h;simp [hzy] at h⟩
       clear hzy
       go_wp2
       go_quiet (fail)
       go_wp2
       go_roundw
       case rel=>exact ⟨j+1,5,by go_num,rfl,by omega,HV.out,gb_drew HGJ.out _⟩
       case measure=>simp [intOf];omega
      ·have q:=txt_ne hzy
       have HV:Hid (ErrSo L N k ((N.take (j+1)).any (fun z=>decide (z=y))) e2):=by
        show ErrSo _ _ _ _ _
        rw [HAN.out,decide_eq_false hzy,Bool.or_false]
        exact HE2.out
       clear hzy
       go_wp2
       go_quiet (fail)
       go_wp2
       go_roundw
       case rel=>exact ⟨j+1,e2,by go_num,rfl,by omega,HV.out,gb_drew HGJ.out _⟩
       case measure=>simp [intOf];omega
     ·have hje:j=k:=by omega
      subst hje
      have HE3:Hid (ErrSo L N j ((N.take j).any (fun z=>decide (z=N[j]))) e2):=by
       show ErrSo _ _ _ _ _
       rw [HY.out]
       exact HE2.out
      clear herr2 hgj hj pall
      by_cases he:e2=0
      ·subst he
       go_wp2_with (first | (go_at_call 29;refine (CE.out _ _ HGJ2.out).mono ?_))
       rintro e w4 ⟨c,rfl,hc,hg4⟩
       have HV:Hid (ErrSo L N (j+1) false (if c < 0 then 6 else 0)):=ErrSo.next0 hlt HE3.out (by rw [HY.out];exact hc)
       have HG4:Hid (w'.grownBy w4 none):=gb_trans HGJ.out hg4
       clear hc hg4
       by_cases hc0:c < 0
       ·have HV2:Hid (ErrSo L N (j+1) false 6):=by have:=HV.out;rwa [if_pos hc0] at this
        go_wp2
        go_roundw
        case rel=>exact ⟨j+1,6,by go_num,rfl,by omega,HV2.out,HNX.out (by trivial),HG4.out⟩
        case measure=>simp [intOf];omega
       ·have HV2:Hid (ErrSo L N (j+1) false 0):=by have:=HV.out;rwa [if_neg hc0] at this
        go_wp2
        go_roundw
        case rel=>exact ⟨j+1,0,by go_num,rfl,by omega,HV2.out,HNX.out (by trivial),HG4.out⟩
        case measure=>simp [intOf];omega
      ·have he1:(e2 == 0)=false:=by simp [he]
       have HV:Hid (ErrSo L N (j+1) false e2):=ErrSo.next1 hlt he HE3.out
       clear he
       go_wp2
       go_roundw
       case rel=>exact ⟨j+1,e2,by go_num,rfl,by omega,HV.out,HNX.out (by trivial),HGJ.out⟩
       case measure=>simp [intOf];omega
  ·have hke:k=N.length:=by omega
   have HRR:Hid (R=if hasNm (L.take i) xn=true\/twS N N.length=true then 5 else if N.all (hasNm L)=true then 0 else 6):=HQ.out (by
    rw [hke,List.take_length] at hall
    rw [HG1.out hall];rfl)
   have HER:Hid (twS N N.length=false->e=if N.all (hasNm L)=true then 0 else 6):=fun h=>by
    have:=herr.2
    rw [hke,List.take_length] at this
    exact this h rfl
   have HEC:Hid (e=0\/e=5\/e=6):=herr.1
   clear herr hall hg hke hk
   go_wp2_with (first | (go_at_call 29;refine (CE.out _ _ HG1'.out).mono ?_))
   rintro e' w4 ⟨c,rfl,hc,hg4⟩
   have HG4:Hid (w'.grownBy w4 none):=gb_trans HGW.out hg4
   obtain ⟨t0,ht0⟩:∃t,decide (c < (i:Int))=t:=⟨_,rfl⟩
   have HT0:Hid (hasNm (L.take i) xn=t0):=by
    show _=_
    rw [<-ht0,Bool.eq_iff_iff,<-HLT.out c hc]
    simp
   clear hc hg4 f0 f3
   go_wp2
   try rw [ht0]
   go_loopw [13,14] (fun vt vk wr=>∃k:Nat,vk=.int .i64 k/\vt=.bool (t0 || twS N k)/\k<=N.length/\w'.grownBy wr none) (fun _ vk _=>N.length - (intOf vk).toNat)
   case atStart=>exact ⟨0,rfl,by simp [twS],Nat.zero_le _,HG4.out⟩
   case round =>
    obtain ⟨k,rfl,rfl,hk,hg⟩:=hrel
    have HGW2:Hid (w'.grownBy wr none):=hg
    have HGW3:Hid (w.grownBy wr none):=gb_trans HG.out hg
    have f3:=hg.cell HC.out.2 (by simp)
    clear ht0
    by_cases hlt:k < N.length
    ·obtain ⟨b,rfl,hcv,hat⟩:=txs_at (H1.out.grow HG.out) hlt
     obtain ⟨y,hy⟩:∃y,N[k]=y:=⟨_,rfl⟩
     have HY:Hid (N[k]=y):=hy
     have HCELL:Hid (∀wz,w'.grownBy wz none->wz.cell? ⟨A,3,none⟩=some (.slice (some b) N.length sc)/\∀j (hj:j < N.length),wz.cell? (b.add j)=some (.string N[j])):=fun wz hz=>⟨hz.cell HC.out.2 (by simp),fun j hj=>hz.cell (hat j hj) (by simp)⟩
     obtain ⟨t1,ht1⟩:∃t,(t0 || twS N k)=t:=⟨_,rfl⟩
     have HTS:Hid ((t0 || twS N (k+1))=(t1 || (N.take k).any (fun z=>decide (z=y)))):=by
      show _=_
      rw [tws_step N k hlt,<-Bool.or_assoc,ht1,hy]
     try rw [ht1]
     clear hg hat hy ht1
     go_wp2
     clear f3
     go_loopw [13,15] (fun vt vj wj=>∃j:Nat,vj=.int .i64 j/\vt=.bool (t1 || (N.take j).any (fun z=>decide (z=y)))/\j<=k/\w'.grownBy wj none) (fun _ vj _=>k - (intOf vj).toNat)
     case atStart=>exact ⟨0,rfl,by simp,Nat.zero_le _,HGW2.out⟩
     case round =>
      obtain ⟨j,rfl,rfl,hj,hgj⟩:=hrel
      have HGJ:Hid (w'.grownBy wr none):=hgj
      obtain ⟨p3,pall⟩:=HCELL.out wr hgj
      have p1:=pall k hlt
      rw [HY.out] at p1
      by_cases hjk:j < k
      ·have hjl:j < N.length:=by omega
       obtain ⟨z,hz⟩:∃z,N[j]=z:=⟨_,rfl⟩
       have p0:=pall j hjl
       rw [hz] at p0
       obtain ⟨t2,ht2⟩:∃t,(t1 || (N.take j).any (fun z=>decide (z=y)))=t:=⟨_,rfl⟩
       have HNX2:Hid ((t1 || (N.take (j+1)).any (fun z=>decide (z=y)))=(t2 || decide (z=y))):=by
        show _=_
        rw [any_snocT N y j hjl,<-Bool.or_assoc,ht2,hz]
       try rw [ht2]
       clear hgj pall hz ht2
       cases t2 with
       | true =>
        go_wp2
        go_quiet (fail)
        go_wp2
        go_roundw
        case rel=>exact ⟨j+1,by go_num,by rw [HNX2.out];rfl,by omega,gb_drew HGJ.out _⟩
        case measure=>simp [intOf];omega
       | false =>
        by_cases hzy:z=y
        ·have q:=txt_eq hzy
         have HV:Hid ((t1 || (N.take (j+1)).any (fun z=>decide (z=y)))=true):=by
          show _=_
          rw [HNX2.out];simp [hzy]
         clear hzy
         go_wp2
         go_quiet (fail)
         go_wp2
         go_roundw
         case rel=>exact ⟨j+1,by go_num,by rw [HV.out],by omega,gb_drew HGJ.out _⟩
         case measure=>simp [intOf];omega
        ·have q:=txt_ne hzy
         have HV:Hid ((t1 || (N.take (j+1)).any (fun z=>decide (z=y)))=false):=by
          show _=_
          rw [HNX2.out];simp [hzy]
         clear hzy
         go_wp2
         go_quiet (fail)
         go_wp2
         go_roundw
         case rel=>exact ⟨j+1,by go_num,by rw [HV.out],by omega,gb_drew HGJ.out _⟩
         case measure=>simp [intOf];omega
      ·have hje:j=k:=by omega
       subst hje
       clear hgj hj pall
       go_wp2
       go_roundw
       case rel=>exact ⟨j+1,by go_num,by rw [HTS.out],by omega,HGJ.out⟩
       case measure=>simp [intOf];omega
    ·have hke:k=N.length:=by omega
     subst hke
     have HT0':=HT0.out
     rw [HT0'] at HRR
     obtain ⟨t3,ht3⟩:∃t,(t0 || twS N N.length)=t:=⟨_,rfl⟩
     have HTW:Hid ((t0 || twS N N.length)=t3):=ht3
     try rw [ht3]
     clear hg hk HT0' ht3
     cases t3 with
     | true =>
      have HR:Hid (R=5):=HRR.out.trans (if_pos (by
       rcases Bool.or_eq_true_iff.1 HTW.out with h | h
       ·exact Or.inl h
       ·exact Or.inr h))
      go_wp2
      go_ret
      exact ⟨ret_int HR.out.symm,HGW3.out⟩
     | false =>
      have HR:Hid (R=e):=by
       obtain ⟨h1,h2⟩:=Bool.or_eq_false_iff.1 HTW.out
       show R=e
       rw [HRR.out,HER.out h2,if_neg (by rw [h1,h2];simp)]
      go_wp2
      go_ret
      exact ⟨ret_int HR.out.symm,HGW3.out⟩
open Go.RowKit
set_option linter.unusedVariables false
def cT (a b:ByteArray):Int:=Lib.compareBytes a.data.toList b.data.toList
theorem good_T:Good cT:=good_pull good_bytes (fun a:ByteArray=>a.data.toList)
theorem cT_eq {a b:ByteArray} (h:cT a b=0):a=b:=by
 unfold cT at h
 cases h1:Op.bytesLess a.data.toList b.data.toList with
 | true=>rw [(less_cmp _ _).1 h1] at h;cases h
 | false =>
  cases h2:(a.data.toList == b.data.toList) with
  | true=>exact ByteArray.ext (Array.ext' (by simpa using h2))
  | false=>rw [(less_cmp _ _).2.1 h1 h2] at h;cases h
theorem cT_less {a b:ByteArray} (h:cT a b < 0):Op.bytesLess a.toList b.toList=true:=by
 rw [Lib.toList_data,Lib.toList_data]
 cases h1:Op.bytesLess a.data.toList b.data.toList with
 | true=>rfl
 | false =>
  exfalso
  unfold cT at h
  cases h2:(a.data.toList == b.data.toList) with
  | true=>rw [(less_cmp _ _).2.2 h2] at h;cases h
  | false=>rw [(less_cmp _ _).2.1 h1 h2] at h;cases h
theorem cT_not {a b:ByteArray} (h:¬ cT a b < 0):Op.bytesLess a.toList b.toList=false:=by
 cases h1:Op.bytesLess a.toList b.toList with
 | false=>rfl
 | true=>exact absurd (show cT a b < 0 by unfold cT;rw [less_m1 h1];decide) h
theorem cT_flip {a b:ByteArray} (h:¬ cT a b < 0):cT b a<=0:=by
 have:=good_T.anti a b
 omega
theorem cT_trans {a b c:ByteArray} (h1:cT a b<=0) (h2:cT b c<=0):cT a c<=0:=(good_T.trans a b c h1 h2).1
def RiseT (S:List ByteArray):Prop:=S.Pairwise (fun a b=>cT a b<=0)
theorem perm_one {α:Type} (r:α->α->Prop):∀(A B:List α),A.Perm B->A.Pairwise r->B.Pairwise r->(∀a ∈ A,∀b ∈ A,r a b->r b a->a=b)->A=B
 | [],B,hp,_,_,_=>(List.Perm.nil_eq hp)
 | a :: A,[],hp,_,_,_=>by have:=hp.length_eq;simp at this
 | a :: A,b :: B,hp,hA,hB,hu=>by
  have hab:a=b:=by
   have h1:a ∈ b :: B:=hp.subset (by simp)
   have h2:b ∈ a :: A:=hp.symm.subset (by simp)
   rcases List.mem_cons.1 h1 with e | h1
   ·exact e
   ·rcases List.mem_cons.1 h2 with e | h2
    ·exact e.symm
    ·exact hu a (by simp) b (by simp [h2]) ((List.pairwise_cons.1 hA).1 b h2) ((List.pairwise_cons.1 hB).1 a h1)
  subst hab
  have hp':A.Perm B:=(List.perm_cons a).1 hp
  rw [perm_one r A B hp' (List.pairwise_cons.1 hA).2 (List.pairwise_cons.1 hB).2 (fun x hx y hy=>hu x (by simp [hx]) y (by simp [hy]))]
theorem rise_one {S T:List ByteArray} (hp:S.Perm T) (h1:RiseT S) (h2:RiseT T):S=T :=
 perm_one _ S T hp h1 h2 (fun a _ b _ r1 r2=>cT_eq (by have:=good_T.anti a b;omega))
theorem rise_mid {A B:List ByteArray} {x:ByteArray} (h:RiseT (A++B)) (hb:∀b ∈ B,cT x b < 0) (hl:∀A0 y,A=A0++[y]->cT y x<=0):RiseT (A++x :: B):=by
 unfold RiseT at *
 rw [List.pairwise_append] at h ⊢
 obtain ⟨h1,h2,h3⟩:=h
 have hax:∀a ∈ A,cT a x<=0:=by
  rcases List.eq_nil_or_concat A with rfl | ⟨A0,y,rfl⟩
  ·intro a ha;cases ha
  ·rw [List.concat_eq_append] at *
   have hy:=hl A0 y rfl
   intro a ha
   rcases List.mem_append.1 ha with ha | ha
   ·rw [List.pairwise_append] at h1
    exact cT_trans (h1.2.2 a ha y (by simp)) hy
   ·simp at ha;rw [ha];exact hy
 refine ⟨h1,List.pairwise_cons.2 ⟨fun b hb2=>Int.le_of_lt (hb b hb2),h2⟩,fun a ha b hb2=>?_⟩
 rcases List.mem_cons.1 hb2 with rfl | hb2
 ·exact hax a ha
 ·exact h3 a ha b hb2
def SrtPost (L:List ByteArray) (w:World) (e:Ending) (w':World):Prop:=∃(v:Value) (S:List ByteArray),e=.returned v/\w'.ownsRow w.heap.size 9 1 v S.length (S.map Value.string)/\S.Perm L/\RiseT S/\Below w.heap.size w w'
end Go.Proofs.YtpeghomkaphdcaaGreatDoor
