import Derived.Test.YtbbmbnpebiakbaaGreatDoorB14
import Derived.Shelf.SlSortCmp.NoneTotal
import Derived.Test.YtbbmbnpebiakbaaGreatDoorProg
import Derived.Test.YtbbmbnpebiakbaaGreatDoorB12
import Derived.Shelf.Strings.OnBuilder
import Derived.Shelf.Sort.Plain
import Derived.Shelf.Slices.In.SortNone
namespace Go.Proofs.YtbbmbnpebiakbaaGreatDoor
open Go.RowKit Go.Maps Go.Sort Go.Shelf
set_option linter.unusedVariables false
attribute [local go_sem] Oper.semAt_some
set_option maxRecDepth 100000 in
set_option maxHeartbeats 6400000 in
theorem appE (bm:Nat) (o:Option Addr) (c:Nat) (L:List Ec) (hL:L.length<=1048576) (w:World) (hbm:w.heap[bm]?=some (.cells #[.slice o L.length c] 23 (0,0))) (htx:EcS w (.slice o L.length c) L) :
  CallsIn Fence.wide 4 Tryz.prog 79 #[.slice none 0 0,.func (.func 57) #[] #[.pointer (some ⟨bm,0,none⟩)]] w fun e w'=>∃v,e=.returned v/\w'.ownsRow w.heap.size 43 4 v L.length (L.flatMap ecC)/\Below w.heap.size w w':=by
 have hinfo2:=infoEn
 obtain ⟨j0,hj0,hjj⟩:=Option.map_eq_some_iff.1 hinfo2
 simp only [Prod.mk.injEq] at hjj
 obtain ⟨hy0,hy1,hyb⟩:=hjj
 clear hinfo2
 have HBM:Hid (w.heap[bm]?=some (.cells #[.slice o L.length c] 23 (0,0))/\EcS w (.slice o L.length c) L):=⟨hbm,htx⟩
 have hbl:bm < w.heap.size:=(Array.getElem?_eq_some_iff.1 hbm).1
 clear hbm htx
 refine callsIn_of_wp_marks Tryz.func79 rfl trivial ?_ rfl
 simp only [Tryz.ntmps79,List.size_toArray,List.length_cons,List.length_nil,Nat.reduceAdd,Nat.reduceSub,Array.replicate_succ,Array.replicate_zero,List.push_toArray,List.append_toArray,List.nil_append,List.cons_append]
 gi_wp2
 refine range_in (gf:=57) (lb:=#[.pointer (some ⟨bm,0,none⟩)]) rfl (enters_of Tryz.func57 (by kernel_rfl) rfl) ?_
 intro r W4 hr1 hr2 hr3 hr4 hr5 hr6 hW4
 obtain ⟨B,hB⟩:∃B,w.heap.size=B:=⟨_,rfl⟩
 have hs1:(w.alloc (.cells #[.slice none 0 0] 23)).heap.size=B+1:=by rw [World.size_alloc,hB]
 rw [hs1]
 have q0:W4.heap[B]?=some (.cells #[.slice none 0 0] 23 (0,0)):=by
  rw [<-hW4,Below.heap_alloc _ _ _ (by simp;omega),Below.heap_alloc _ _ _ (by simp;omega),<-hB]
  exact heap_alloc_new w _
 have qd:W4.heap[B+1]?=some (.deferred (some [])):=by
  rw [<-hW4,Below.heap_alloc _ _ _ (by simp;omega),<-hs1]
  exact heap_alloc_new _ _
 have ql:W4.heap[B+2]?=some (.loop r):=by
  rw [<-hW4]
  have:=heap_alloc_new ((w.alloc (.cells #[.slice none 0 0] 23)).alloc (.deferred (some []))) (.loop r)
  rw [World.size_alloc,hs1] at this
  exact this
 have b4:Below w.heap.size w W4:=by
  rw [<-hW4]
  exact (((Below.refl _ _).alloc (Nat.le_refl _) _).alloc (by simp) _).alloc (by simp;omega) _
 have HB:Hid (w.heap.size=B):=hB
 clear hW4 hs1
 have hbB:bm < B:=by omega
 have hcl:∀W,Below w.heap.size w W->W.cell? ⟨bm,0,none⟩=some (.slice o L.length c)/\EcS W (.slice o L.length c) L:=fun W hb=>by
  refine ⟨?_,HBM.out.2.grow (bel_gb hb)⟩
  rw [Lib.cell_of_heap ((hb.block bm hbl).trans HBM.out.1)]
  rfl
 refine (iterE 3 (B+2) bm (by omega) o c L hL (fun pre W=>(∃v,W.heap[B]?=some (.cells #[v] 23 (0,0))/\W.ownsRow w.heap.size 43 4 v pre.length (pre.flatMap ecC))/\W.heap[B+2]?=some (.loop r)/\W.heap[B+1]?=some (.deferred (some []))/\Below w.heap.size w W)
  ?al (fun pre W h=>hcl W h.2.2.2) ?yl W4 ⟨⟨_,q0,World.ownsRow_nil _ _ _ _⟩,ql,qd,b4⟩).mono ?fin
 case al =>
  rintro pre W ob ⟨⟨v,k1,k2⟩,k3,k4,k5⟩
  have z1:=(Array.getElem?_eq_some_iff.1 k1).1
  have z3:=(Array.getElem?_eq_some_iff.1 k3).1
  have z4:=(Array.getElem?_eq_some_iff.1 k4).1
  exact ⟨⟨v,(Below.heap_alloc _ _ _ z1).trans k1,k2.alloc _⟩,(Below.heap_alloc _ _ _ z3).trans k3,(Below.heap_alloc _ _ _ z4).trans k4,k5.alloc k5.size _⟩
 case fin =>
  rintro e W5 ⟨⟨v,rfl⟩,⟨v5,qv,qr⟩,q2,q3,q4⟩
  obtain ⟨W6,hW6⟩:∃W6,W5.putObj (B+2) (Obj.loop { r with state:=.exhausted })=W6:=⟨_,rfl⟩
  have hel:=run_endLoop (P:=Tryz.prog) q2 (by rw [hr1];simp)
  rw [hW6,hr2] at hel
  refine ⟨none,W6,hel,?_⟩
  clear hel
  have p1:W6.heap[B]?=some (.cells #[v5] 23 (0,0)):=by rw [<-hW6];exact (World.putObj_heap_other (by omega)).trans qv
  have p3:W6.heap[B+1]?=some (.deferred (some [])):=by rw [<-hW6];exact (World.putObj_heap_other (by omega)).trans q3
  have pg:W5.grownBy W6 (some (B+2)):=by rw [<-hW6];exact gb_put _ _ _
  have pr:W6.ownsRow w.heap.size 43 4 v5 L.length (L.flatMap ecC):=qr.kept pg (ownsRow_ne_a qr q2 (fun cur e=>by cases e))
  have p4:Below w.heap.size w W6:=q4.grown pg q4.size (fun k e=>by cases e;omega)
  obtain ⟨pc,pf⟩:=cell_of_box_a p1
  have HPR:Hid (W6.ownsRow w.heap.size 43 4 v5 L.length (L.flatMap ecC)):=pr
  have hpb:=HB.out
  clear hW6 qv qr q2 q3 q4 hr4 hr5 hr6 q0 qd ql b4 pg pr
  try rw [hpb]
  simp only [List.cons_append,List.nil_append]
  gi_wp2
  refine ⟨by simp,.inl ⟨_,_,rfl,run_takeDeferred p3,?_⟩⟩
  refine ⟨_,results_tmp rfl _ _ _,?_⟩
  exact ⟨v5,rfl,HPR.out.kept (gb_put _ _ _) (ownsRow_ne_a HPR.out p3 (fun cur e=>by cases e)),p4.grown (gb_put _ _ _) p4.size (fun k e=>by cases e;omega)⟩
 case yl =>
  rintro pre x W5 ⟨⟨v5,qv,qr⟩,q2,q3,q4⟩ hlen
  refine yield_in q2 (by rw [hr3];rfl) ?_
  rw [hr3,hr4,hr5,hr6]
  have z1:=(Array.getElem?_eq_some_iff.1 qv).1
  have z2:=(Array.getElem?_eq_some_iff.1 q2).1
  have z3:=(Array.getElem?_eq_some_iff.1 q3).1
  have a1:(W5.alloc (.cells #[.string x.nm,.string x.ve,.string x.dg,.slice x.o x.n x.c] 43)).heap[B]?=_:=(Below.heap_alloc _ _ _ z1).trans qv
  have a2:(W5.alloc (.cells #[.string x.nm,.string x.ve,.string x.dg,.slice x.o x.n x.c] 43)).heap[B+2]?=_:=(Below.heap_alloc _ _ _ z2).trans q2
  have a3:(W5.alloc (.cells #[.string x.nm,.string x.ve,.string x.dg,.slice x.o x.n x.c] 43)).heap[B+1]?=_:=(Below.heap_alloc _ _ _ z3).trans q3
  have a4:=q4.alloc q4.size (.cells #[.string x.nm,.string x.ve,.string x.dg,.slice x.o x.n x.c] 43)
  have ar:=qr.alloc (.cells #[.string x.nm,.string x.ve,.string x.dg,.slice x.o x.n x.c] 43)
  have a5:=heap_alloc_new W5 (.cells #[.string x.nm,.string x.ve,.string x.dg,.slice x.o x.n x.c] 43)
  obtain ⟨W6,hW6⟩:∃W6,(W5.alloc (.cells #[.string x.nm,.string x.ve,.string x.dg,.slice x.o x.n x.c] 43)).putObj (B+2) (Obj.loop { r with state:=.busy })=W6:=⟨_,rfl⟩
  have hbr:=run_beginRound (P:=Tryz.prog) a2 hr1
  rw [hW6] at hbr
  have l2:B+2 < (W5.alloc (.cells #[.string x.nm,.string x.ve,.string x.dg,.slice x.o x.n x.c] 43)).heap.size:=(Array.getElem?_eq_some_iff.1 a2).1
  have pg:(W5.alloc (.cells #[.string x.nm,.string x.ve,.string x.dg,.slice x.o x.n x.c] 43)).grownBy W6 (some (B+2)):=by rw [<-hW6];exact gb_put _ _ _
  have p1:W6.heap[B]?=some (.cells #[v5] 23 (0,0)):=by rw [<-hW6];exact (World.putObj_heap_other (by omega)).trans a1
  have p2:W6.heap[B+2]?=some (.loop { r with state:=.busy }):=by rw [<-hW6];exact World.putObj_heap_same l2
  have p3:W6.heap[B+1]?=some (.deferred (some [])):=by rw [<-hW6];exact (World.putObj_heap_other (by omega)).trans a3
  obtain ⟨g0,g1,g2,g3⟩:=en_block (show W6.heap[W5.heap.size]?=_ by rw [<-hW6];exact (World.putObj_heap_other (by omega)).trans a5)
  have pr:W6.ownsRow w.heap.size 43 4 v5 pre.length (pre.flatMap ecC):=ar.kept pg (ownsRow_ne_a ar a2 (fun cur e=>by cases e))
  have p4:Below w.heap.size w W6:=a4.grown pg a4.size (fun k e=>by cases e;omega)
  obtain ⟨pc,pf⟩:=cell_of_box_a p1
  have hz6:=p4.size
  have hB6:B < W6.heap.size:=(Array.getElem?_eq_some_iff.1 p1).1
  have hD6:B+1 < W6.heap.size:=(Array.getElem?_eq_some_iff.1 p3).1
  have hl6:B+2 < W6.heap.size:=(Array.getElem?_eq_some_iff.1 p2).1
  have ne_of:∀{j:Nat} {ob:Obj},W6.heap[j]?=some ob->(∀cur,ob ≠ .cells cur 43 (0,0))->some j ≠ v5.ownBlock:=fun hj hno=>by
   rcases ownsRow_ne_a pr hj hno with e | e
   ·rw [e];simp
   ·exact fun e'=>e e'.symm
  have nB:=ne_of p1 (fun cur e=>by simp at e)
  have nl:=ne_of p2 (fun cur e=>by cases e)
  have nD:=ne_of p3 (fun cur e=>by cases e)
  have hpb:=HB.out
  have hlen2:pre.length < 1048576:=by omega
  clear hW6 qv qr q3 q4 q0 qd ql b4 pg a1 a2 a3 a4 ar a5 z1 z2 z3 l2
  rw [hpb]
  clear q2
  unfold ecA
  gi_wp2_with (first
   | (gi_at_builtin;refine wpListIn_append_own _ rfl _ _ 23 rfl w.heap.size 43 j0 _ 4 72 Tryz.underlying23 hj0 hy0 hy1 hyb rfl (by decide) _ _ _ rfl (pr.alloc _) ⟨W6.heap.size,0,none⟩ 1 1 (ecC x) rfl rfl (World.news_of_block (heap_alloc_new _ _)) (ecc_one x) (by unfold maxLen;omega) (by omega) (by simp;omega) ?_;intro v' w3 hown' hg3 hnil3
      have hv3:w3.heap[B]?=some (.cells #[v5] 23 (0,0)):=(hg3.block B (by simp;omega) nB).trans ((Below.heap_alloc _ _ B hB6).trans p1)
      obtain ⟨hc3,hf3⟩:=cell_of_box_a hv3
      obtain ⟨g',cap',cur',rfl,hbase',hgb',hr1',hr2',hr3',hr4'⟩:∃g' cap' cur',v'=.slice (some ⟨g',0,none⟩) (pre.length+1) cap'/\w.heap.size<=g'/\w3.heap[g']?=some (.cells cur' 43 (0,0))/\pre.length+1<=cap'/\cap'<=maxLen/\cur'.size=cap' * 4/\cur'.toList.take ((pre.length+1) * 4)=pre.flatMap ecC++ecC x:=by
       rcases hown'.2 with ⟨_,h0⟩ | h'
       ·exact absurd h0 (by omega)
       ·exact h'
      go_frame)
   | gi_in)
  have hg3':(W6.alloc (.cells #[.string x.nm,.string x.ve,.string x.dg,.slice x.o x.n x.c] 43)).grownBy w3 v5.ownBlock:=hg3
  have hL3:w3.heap[B+2]?=some (.loop { r with state:=.busy }):=(hg3'.block (B+2) (by simp;omega) nl).trans ((Below.heap_alloc _ _ _ hl6).trans p2)
  have hK3:w3.heap[B+1]?=some (.deferred (some [])):=(hg3'.block (B+1) (by simp;omega) nD).trans ((Below.heap_alloc _ _ _ hD6).trans p3)
  obtain ⟨w4,hw4⟩:∃w4,w3.setCell ⟨B,0,none⟩ (.slice (some ⟨g',0,none⟩) (pre.length+1) cap')=w4:=⟨_,rfl⟩
  rw [hw4]
  have hg4:w3.grownBy w4 (some B):=by rw [<-hw4];exact grownBy_setCell0_a _ _ _
  have hv4:w4.heap[B]?=some (.cells #[.slice (some ⟨g',0,none⟩) (pre.length+1) cap'] 23 (0,0)):=by rw [<-hw4];exact heap_setCell_box_a _ hv3
  have hL4:w4.heap[B+2]?=some (.loop { r with state:=.busy }):=(hg4.block (B+2) (Array.getElem?_eq_some_iff.1 hL3).1 (by simp)).trans hL3
  have hK4:w4.heap[B+1]?=some (.deferred (some [])):=(hg4.block (B+1) (Array.getElem?_eq_some_iff.1 hK3).1 (by simp)).trans hK3
  have hrow4:=hown'.kept hg4 (ownsRow_ne_a hown' hv3 (fun cur e=>by simp at e))
  have hl4:B+2 < w4.heap.size:=(Array.getElem?_eq_some_iff.1 hL4).1
  have hb3:Below w.heap.size w w3:=(p4.alloc p4.size _).grown hg3' (by simp;omega) (fun k e=>(pr.lt k e).1)
  have hb4:Below w.heap.size w w4:=hb3.grown hg4 hb3.size (fun k e=>by cases e;omega)
  clear hw4
  have hsz4:=hb4.size
  rw [hpb] at hb4 hrow4
  refine ⟨_,_,run_endRound none hL4,rfl,⟨_,(World.putObj_heap_other (by omega)).trans hv4,?_⟩,by rw [World.putObj_heap_same hl4,loop_back r hr1 hr2],(World.putObj_heap_other (by omega)).trans hK4,hb4.grown (gb_put _ _ _) (by omega) (fun k e=>by cases e;omega)⟩
  have:=hrow4.kept (gb_put w4 (B+2) (.loop { { r with state:=.busy } with state:=if (none:Option Code).isNone then .ready else .done,pending:=none })) (ownsRow_ne_a hrow4 hL4 (fun cur e=>by cases e))
  exact this
end Go.Proofs.YtbbmbnpebiakbaaGreatDoor
namespace Go.Proofs
open Go.Shelf
def Tryz.laysSort_ren:Go.Shelf.Ren:=⟨fun | 6=>56 | 14=>80 | 15=>68 | 20=>107 | 21=>108 | 22=>109 | 23=>110 | 24=>111 | 25=>112 | 26=>113 | 27=>114 | 28=>97 | 29=>98 | 46=>136 | 47=>122 | 48=>123 | 49=>137 | 50=>138 | 57=>152 | n=>n,fun | 22=>23 | 23=>92 | 24=>43 | 25=>80 | 27=>165 | 29=>109 | 37=>114 | 38=>101 | 39=>102 | 40=>73 | 42=>166 | 44=>144 | 45=>126 | 46=>127 | 47=>145 | 48=>146 | 49=>147 | 50=>72 | 51=>148 | 52=>133 | 53=>134 | 54=>135 | 55=>136 | 66=>154 | 67=>155 | 68=>156 | 69=>173 | 70=>158 | 71=>174 | 76=>180 | 77=>181 | 78=>192 | 81=>68 | 82=>216 | 83=>217 | 84=>218 | 85=>219 | 86=>220 | 87=>120 | 88=>221 | 89=>222 | 90=>223 | 91=>85 | 92=>224 | 93=>225 | 94=>226 | 95=>227 | 96=>103 | n=>n,fun n=>n⟩
set_option maxRecDepth 100000 in
theorem Tryz.laysSort:Go.Proofs.SlLaysF0.n6 Tryz.prog Tryz.laysSort_ren:={
 mixed:=by kernel_rfl
 f6:=⟨ "slices.SortFunc[[]pantry/api.Entry,pantry/api.Entry]",by decide,Tryz.func56.trans (congrArg some (by kernel_rfl))⟩
 f14:=⟨ "slices.pdqsortCmpFunc[pantry/api.Entry]",by decide,Tryz.func80.trans (congrArg some (by kernel_rfl))⟩
 f15:=Tryz.func68.trans (congrArg some (by kernel_rfl))
 f20:=⟨ "slices.insertionSortCmpFunc[pantry/api.Entry]",by decide,Tryz.func107.trans (congrArg some (by kernel_rfl))⟩
 f21:=⟨ "slices.heapSortCmpFunc[pantry/api.Entry]",by decide,Tryz.func108.trans (congrArg some (by kernel_rfl))⟩
 f22:=⟨ "slices.breakPatternsCmpFunc[pantry/api.Entry]",by decide,Tryz.func109.trans (congrArg some (by kernel_rfl))⟩
 f23:=⟨ "slices.choosePivotCmpFunc[pantry/api.Entry]",by decide,Tryz.func110.trans (congrArg some (by kernel_rfl))⟩
 f24:=⟨ "slices.reverseRangeCmpFunc[pantry/api.Entry]",by decide,Tryz.func111.trans (congrArg some (by kernel_rfl))⟩
 f25:=⟨ "slices.partialInsertionSortCmpFunc[pantry/api.Entry]",by decide,Tryz.func112.trans (congrArg some (by kernel_rfl))⟩
 f26:=⟨ "slices.partitionEqualCmpFunc[pantry/api.Entry]",by decide,Tryz.func113.trans (congrArg some (by kernel_rfl))⟩
 f27:=⟨ "slices.partitionCmpFunc[pantry/api.Entry]",by decide,Tryz.func114.trans (congrArg some (by kernel_rfl))⟩
 f28:=Tryz.func97.trans (congrArg some (by kernel_rfl))
 f29:=Tryz.func98.trans (congrArg some (by kernel_rfl))
 f46:=⟨ "slices.siftDownCmpFunc[pantry/api.Entry]",by decide,Tryz.func136.trans (congrArg some (by kernel_rfl))⟩
 f47:=Tryz.func122.trans (congrArg some (by kernel_rfl))
 f48:=Tryz.func123.trans (congrArg some (by kernel_rfl))
 f49:=⟨ "slices.medianAdjacentCmpFunc[pantry/api.Entry]",by decide,Tryz.func137.trans (congrArg some (by kernel_rfl))⟩
 f50:=⟨ "slices.medianCmpFunc[pantry/api.Entry]",by decide,Tryz.func138.trans (congrArg some (by kernel_rfl))⟩
 f57:=⟨ "slices.order2CmpFunc[pantry/api.Entry]",by decide,Tryz.func152.trans (congrArg some (by kernel_rfl))⟩
 t0:=Tryz.underlying0
 a0:=Tryz.isAgg0
 z0:=Tryz.sizeOf0
 v0:=Tryz.zeroValue0
 t3:=Tryz.underlying3
 a3:=Tryz.isAgg3
 z3:=Tryz.sizeOf3
 v3:=Tryz.zeroValue3
 t4:=Tryz.underlying4
 a4:=Tryz.isAgg4
 z4:=Tryz.sizeOf4
 v4:=Tryz.zeroValue4
 t5:=Tryz.underlying5
 a5:=Tryz.isAgg5
 z5:=Tryz.sizeOf5
 v5:=Tryz.zeroValue5
 t9:=Tryz.underlying9
 a9:=Tryz.isAgg9
 z9:=Tryz.sizeOf9
 v9:=Tryz.zeroValue9
 t22:=Tryz.underlying23
 a22:=Tryz.isAgg23
 z22:=Tryz.sizeOf23
 v22:=Tryz.zeroValue23
 t25:=Tryz.underlying80
 a25:=Tryz.isAgg80
 z25:=Tryz.sizeOf80
 v25:=Tryz.zeroValue80
 t39:=Tryz.underlying102
 a39:=Tryz.isAgg102
 z39:=Tryz.sizeOf102
 v39:=Tryz.zeroValue102
 t45:=Tryz.underlying126
 a45:=Tryz.isAgg126
 z45:=Tryz.sizeOf126
 v45:=Tryz.zeroValue126
 t46:=Tryz.underlying127
 a46:=Tryz.isAgg127
 z46:=Tryz.sizeOf127
 v46:=Tryz.zeroValue127
 t50:=Tryz.underlying72
 a50:=Tryz.isAgg72
 z50:=Tryz.sizeOf72
 v50:=Tryz.zeroValue72
 t53:=Tryz.underlying134
 a53:=Tryz.isAgg134
 z53:=Tryz.sizeOf134
 v53:=Tryz.zeroValue134
 t55:=Tryz.underlying136
 a55:=Tryz.isAgg136
 z55:=Tryz.sizeOf136
 v55:=Tryz.zeroValue136
 t66:=Tryz.underlying154
 a66:=Tryz.isAgg154
 z66:=Tryz.sizeOf154
 v66:=Tryz.zeroValue154
 t70:=Tryz.underlying158
 a70:=Tryz.isAgg158
 z70:=Tryz.sizeOf158
 v70:=Tryz.zeroValue158
 t76:=Tryz.underlying180
 a76:=Tryz.isAgg180
 z76:=Tryz.sizeOf180
 v76:=Tryz.zeroValue180
 t77:=Tryz.underlying181
 a77:=Tryz.isAgg181
 z77:=Tryz.sizeOf181
 v77:=Tryz.zeroValue181 }
end Go.Proofs
namespace Go.Proofs.YtbbmbnpebiakbaaGreatDoor
open Go.RowKit Go.Shelf Go.Sort
set_option linter.unusedVariables false
set_option maxHeartbeats 400000 in
theorem nanS_any (s:ByteArray) (w:World):Calls Tryz.prog 58 #[.string s] w fun e w'=>e=.returned (.bool false)/\w'=w:=by
 go_enter Tryz.func58,Tryz.ntmps58
 go_wp2
 go_ret
 exact ⟨rfl,rfl⟩
set_option maxHeartbeats 400000 in
theorem cmpS_any (a b:ByteArray) (w:World):Calls Tryz.prog 37 #[.string a,.string b] w fun e w'=>e=.returned (.int .i64 (cT a b))/\w'=w:=by
 unfold cT
 cases h1:Op.bytesLess a.toList b.toList with
 | true =>
  rw [less_m1 h1]
  go_enter Tryz.func37,Tryz.ntmps37
  go_wp2_with (go_at_call 58;refine (nanS_any _ _).mono ?_;rintro e w' ⟨rfl,rfl⟩)
  go_ret
  exact ⟨rfl,rfl⟩
 | false =>
  cases h2:(!a.toList == b.toList) with
  | true =>
   rw [less_p1 h1 h2]
   go_enter Tryz.func37,Tryz.ntmps37
   go_wp2_with (go_at_call 58;refine (nanS_any _ _).mono ?_;rintro e w' ⟨rfl,rfl⟩)
   go_ret
   exact ⟨rfl,rfl⟩
  | false =>
   rw [less_0 h2]
   go_enter Tryz.func37,Tryz.ntmps37
   go_wp2_with (go_at_call 58;refine (nanS_any _ _).mono ?_;rintro e w' ⟨rfl,rfl⟩)
   go_ret
   exact ⟨rfl,rfl⟩
theorem gr_grow2 {w w':World} (hg:w.grownBy w' none) (hd:w.drawn<=w'.drawn):∃q os,w'=grow (w.drewN q) os:=by
 refine ⟨w'.drawn - w.drawn,w'.heap.extract w.heap.size w'.heap.size,?_⟩
 have hh:w'.heap=w.heap++w'.heap.extract w.heap.size w'.heap.size:=by
  apply Array.ext_getElem?
  intro k
  by_cases hk:k < w.heap.size
  ·rw [Array.getElem?_append_left hk];exact hg.block k hk (by simp)
  ·rw [Array.getElem?_append_right (by omega),Array.getElem?_extract]
   by_cases hk2:k < w'.heap.size
   ·rw [if_pos (by omega)];congr 1;omega
   ·rw [if_neg (by omega),Array.getElem?_eq_none (by omega)]
 have h1:=hg.os
 have h2:=hg.tape
 have h3:=hg.output
 cases w';cases w
 simp only [grow,World.drewN,World.mk.injEq] at *
 exact ⟨hh,h2,by omega,h1,h3⟩
theorem cmpE_any (x y:Ec) (w:World):Calls Tryz.prog 36 #[ecA x,ecA y] w fun e w'=>e=.returned (.int .i64 (cT x.nm y.nm))/\∃q os,w'=grow (w.drewN q) os:=by
 have CC:Hid (∀w,Calls Tryz.prog 37 #[.string x.nm,.string y.nm] w fun e w'=>e=.returned (.int .i64 (cT x.nm y.nm))/\w'=w):=fun w=>cmpS_any _ _ w
 unfold ecA
 go_enter Tryz.func36,Tryz.ntmps36
 go_wp2_with (first | (go_at_call 37;refine (CC.out _).mono ?_;rintro e w' ⟨rfl,rfl⟩))
 go_ret
 exact ⟨rfl,gr_grow2 (gb_alloc (gb_alloc (gb_refl w none) _) _) (Nat.le_refl _)⟩
instance:Inhabited Ec:=⟨⟨⟨#[]⟩,⟨#[]⟩,⟨#[]⟩,none,0,0⟩⟩
def cfE (x y:Ec):Int:=cT x.nm y.nm
theorem swoE:SWO (ltOf cfE) where
 irrefl x:=by
  unfold ltOf cfE
  apply decide_eq_false
  rw [good_T.self];omega
 trans x y z h1 h2:=by
  unfold ltOf cfE at *
  have a1:=of_decide_eq_true h1
  have a2:=of_decide_eq_true h2
  refine decide_eq_true ?_
  have t:=good_T.trans x.nm y.nm z.nm (by omega) (by omega)
  have r:=good_T.rng x.nm z.nm
  by_cases h0:cT x.nm z.nm=0
  ·have:=t.2.2 h0;omega
  ·have:=t.1;omega
 ntrans x y z h1 h2:=by
  unfold ltOf cfE at *
  have a1:=of_decide_eq_false h1
  have a2:=of_decide_eq_false h2
  apply decide_eq_false
  have t:=good_T.trans z.nm y.nm x.nm (by have:=good_T.anti y.nm z.nm;omega) (by have:=good_T.anti x.nm y.nm;omega)
  have:=good_T.anti x.nm z.nm
  omega
theorem ec_get (l:List Ec):∀(i:Nat) (hi:i < l.length) (k:Nat) (u:Value),(ecC l[i])[k]?=some u->(l.flatMap ecC)[i * 4+k]?=some u:=by
 induction l with
 | nil=>intro i hi;simp at hi
 | cons t l ih =>
  intro i hi k u h
  rw [List.flatMap_cons]
  have hl:(ecC t).length=4:=rfl
  cases i with
  | zero =>
   simp only [List.getElem_cons_zero] at h
   have hk:k < (ecC t).length:=(List.getElem?_eq_some_iff.1 h).1
   rw [Nat.zero_mul,Nat.zero_add,List.getElem?_append_left hk]
   exact h
  | succ i =>
   simp only [List.getElem_cons_succ] at h
   rw [List.getElem?_append_right (by rw [hl];omega),hl,show (i+1) * 4+k - 4=i * 4+k by omega]
   exact ih i (by simpa using hi) k u h
theorem cmpE (w:World) (blk off size:Nat):CmpLays Tryz.prog 36 #[] ecC 4 cfE blk off size w:=by
 intro m os dk hdk x y
 exact cmpE_any x y _
theorem encLenE (x:Ec):(ecC x).length=4:=rfl
theorem flatE (d:Array Ec):(flatK ecC 4 d).toList=d.toList.flatMap ecC:=by
 apply List.ext_getElem?
 intro j
 have hl:(d.toList.flatMap ecC).length=d.size * 4:=by
  have:∀L:List Ec,(L.flatMap ecC).length=L.length * 4:=by
   intro L
   induction L with
   | nil=>rfl
   | cons e L ih=>rw [List.flatMap_cons,List.length_append,ih,List.length_cons];show 4+_=_;omega
  rw [this];simp
 by_cases hj:j < d.size * 4
 ·have hi:j / 4 < d.size:=by omega
  have h1:(flatK ecC 4 d).toList[j]?=some ((ecC d[j / 4]!)[j % 4]!):=by
   rw [Array.getElem?_toList,Array.getElem?_eq_getElem (by simpa using hj)]
   have:=get_flatK ecC 4 d j hj
   rw [getElem!_pos _ j (by simpa using hj)] at this
   rw [this]
  have h2:=ec_get d.toList (j / 4) (by simpa using hi) (j % 4) ((ecC d[j / 4]!)[j % 4]!) (by
   rw [getElem!_pos d (j / 4) hi]
   have hk:j % 4 < (ecC d[j / 4]).length:=by rw [encLenE];omega
   rw [getElem!_pos _ (j % 4) hk]
   rw [Array.getElem_toList]
   exact List.getElem?_eq_getElem hk)
  rw [show j / 4 * 4+j % 4=j by omega] at h2
  rw [h1,h2]
 ·rw [List.getElem?_eq_none (by simp;omega),List.getElem?_eq_none (by rw [hl];omega)]
theorem egE:∀args w,(callFunc 36 args).run Tryz.prog w=.ok (.enter 36 args) w:=enters_of Tryz.func36 (by kernel_rfl) rfl
def RiseC (E:List Ec):Prop:=E.Pairwise (fun a b=>cT a.nm b.nm<=0)
set_option maxRecDepth 100000 in
theorem sortEnt (ve:Value) (E:List Ec) (base:Nat) (w:World) (hown:w.ownsRow base 43 4 ve E.length (E.flatMap ecC)) (hlen:E.length<=8388608) :
  Calls Tryz.prog 56 #[ve,.func (.func 36) #[] #[]] w fun e w'=>e=.returned (.tuple #[])/\∃E':List Ec,E'.Perm E/\RiseC E'/\w'.ownsRow base 43 4 ve E'.length (E'.flatMap ecC)/\w.grownBy w' ve.ownBlock:=by
 obtain ⟨D,hD⟩:∃D:Array Ec,D.toList=E:=⟨E.toArray,by simp⟩
 have hDs:D.size=E.length:=by rw [<-hD];simp
 have hown':=hown
 rcases hown.2 with ⟨rfl,h0⟩ | ⟨g,cap,cur,rfl,hb,hg,hn,hm,hs,ht⟩
 ·refine (AnyF.slices_SortFunc_none Tryz.laysSort none 0 (.func (.func 36) #[] #[]) w).mono ?_
  rintro e w' ⟨rfl,rfl⟩
  have hE:E=[]:=List.eq_nil_of_length_eq_zero h0
  subst hE
  exact ⟨rfl,[],List.Perm.refl _,List.Pairwise.nil,hown',⟨rfl,rfl,rfl,Nat.le_refl _,fun _ _ _=>rfl⟩⟩
 ·have hH:HoldsK ecC 4 w g 0 D:=by
   intro j hj
   have hj':j < (E.flatMap ecC).length:=by rw [hown.1,<-hDs];simpa using hj
   refine ⟨?_,Lib.frozen_of_heap hg _⟩
   have h1:(flatK ecC 4 D).toList[j]?=(E.flatMap ecC)[j]?:=by rw [flatE,hD]
   rw [Array.getElem?_toList,Array.getElem?_eq_getElem hj] at h1
   rw [Nat.zero_add,Lib.cell_of_heap hg]
   rw [getElem!_pos _ j hj]
   show cur[j]?=some (id _)
   rw [id,h1,<-ht,List.getElem?_take_of_lt (by rw [hown.1] at hj';exact hj')]
   simp
  rw [<-hDs]
  refine (AnyQ.slices_SortFunc Tryz.laysSort 4 Tryz.isAgg43 Tryz.sizeOf43 ecC encLenE ecc_one cfE swoE 36 #[] g 0 cap D w egE (cmpE w g 0 D.size) hH (Array.getElem?_eq_some_iff.1 hg).1 (by omega)).mono ?_
  rintro e w' ⟨rfl,d',m,os,hperm,hsort,hw'⟩
  have hds:d'.size=D.size:=hperm.1
  have hgl:g < w.heap.size:=(Array.getElem?_eq_some_iff.1 hg).1
  have hheap:w'.heap=(w.heap.modify g (onCells (putCells id 0 (flatK ecC 4 d'))))++os:=by rw [hw'];rfl
  have hg':w'.heap[g]?=some (.cells (putCells id 0 (flatK ecC 4 d') cur) 43):=by
   rw [hheap,Array.getElem?_append_left (by simpa using hgl),Array.getElem?_modify,if_pos rfl,hg];rfl
  have hFs:(flatK ecC 4 d').size=D.size * 4:=by simp [hds]
  have hcs:D.size * 4<=cur.size:=by rw [hs,hDs];omega
  have hlen2:(d'.toList.flatMap ecC).length=D.size * 4:=by rw [<-flatE,Array.length_toList,hFs]
  refine ⟨rfl,d'.toList,?_,?_,⟨?_,.inr ⟨g,cap,_,?_,hb,hg',?_,hm,?_,?_⟩⟩,?_⟩
  ·rw [<-hD]
   have:=hperm.2.2
   rw [Array.extract_size] at this
   rw [show d'.extract 0 D.size=d' by rw [<-hds,Array.extract_size]] at this
   exact this
  ·unfold RiseC
   rw [List.pairwise_iff_getElem]
   intro i j hi hj hij
   simp only [Array.length_toList] at hi hj
   have:=hsort i j (Nat.zero_le _) hij (by omega)
   rw [getElem!_pos d' j hj,getElem!_pos d' i hi] at this
   have h3:=of_decide_eq_false this
   simp only [Array.getElem_toList]
   exact cT_flip h3
  ·rw [hlen2];simp [hds]
  ·simp [hds]
  ·simp [hds];omega
  ·simp [putCells,hs]
  ·rw [show d'.toList.length=D.size by simp [hds],<-flatE]
   apply List.ext_getElem?
   intro j
   by_cases hj:j < D.size * 4
   ·rw [List.getElem?_take_of_lt hj,Array.getElem?_toList,Array.getElem?_toList]
    rw [putCells,Array.getElem?_mapIdx,Array.getElem?_eq_getElem (show j < cur.size by omega)]
    rw [Option.map_some,if_pos ⟨Nat.zero_le _,by omega⟩,Nat.sub_zero,id,getElem!_pos _ j (by omega)]
    exact (Array.getElem?_eq_getElem _).symm
   ·rw [List.getElem?_eq_none (by simp;omega),List.getElem?_eq_none (by rw [Array.length_toList];omega)]
  ·refine ⟨by rw [hw'];rfl,by rw [hw'];rfl,by rw [hw'];rfl,?_,?_⟩
   ·rw [hheap];simp
   ·intro k hk hne
    have hkg:g ≠ k:=by
     intro h;subst h;exact hne rfl
    rw [hheap,Array.getElem?_append_left (by simpa using hk),Array.getElem?_modify,if_neg hkg]
theorem cAppE (bm:Nat) (o:Option Addr) (c:Nat) (L:List Ec) (hL:L.length<=1048576) (w:World) (hbm:w.heap[bm]?=some (.cells #[.slice o L.length c] 23 (0,0))) (htx:EcS w (.slice o L.length c) L) :
  Calls Tryz.prog 79 #[.slice none 0 0,.func (.func 57) #[] #[.pointer (some ⟨bm,0,none⟩)]] w fun e w'=>∃v,e=.returned v/\w'.ownsRow w.heap.size 43 4 v L.length (L.flatMap ecC)/\Below w.heap.size w w':=callsIn_wide.1 (appE bm o c L hL w hbm htx)
theorem own_sl {w:World} {base:Nat} {e:TypeId} {sz:Nat} {v:Value} {n:Nat} {xs:List Value} (h:w.ownsRow base e sz v n xs):∃o c,v=.slice o n c:=by
 rcases h.2 with ⟨rfl,h0⟩ | ⟨g,cap,cur,rfl,_⟩
 ·exact ⟨none,0,by rw [h0]⟩
 ·exact ⟨_,_,rfl⟩
set_option maxHeartbeats 800000 in
theorem collE (bm:Nat) (o:Option Addr) (c:Nat) (L:List Ec) (hL:L.length<=1048576) (w:World) (hbm:w.heap[bm]?=some (.cells #[.slice o L.length c] 23 (0,0))) (htx:EcS w (.slice o L.length c) L) :
  Calls Tryz.prog 55 #[.func (.func 57) #[] #[.pointer (some ⟨bm,0,none⟩)]] w fun e w'=>∃o c,e=.returned (.slice o L.length c)/\w'.ownsRow w.heap.size 43 4 (.slice o L.length c) L.length (L.flatMap ecC)/\Below w.heap.size w w':=by
 have CA:Hid (Calls Tryz.prog 79 #[.slice none 0 0,.func (.func 57) #[] #[.pointer (some ⟨bm,0,none⟩)]] w fun e w'=>∃o c,e=.returned (.slice o L.length c)/\w'.ownsRow w.heap.size 43 4 (.slice o L.length c) L.length (L.flatMap ecC)/\Below w.heap.size w w'):=(cAppE bm o c L hL w hbm htx).mono fun e w' ⟨v,h1,h2,h3⟩=>by
  obtain ⟨o,c,rfl⟩:=own_sl h2
  exact ⟨o,c,h1,h2,h3⟩
 clear hbm htx
 go_enter Tryz.func55,Tryz.ntmps55
 go_wp2_with (first | (go_at_call 79;refine CA.out.mono ?_))
 rintro e w1 ⟨o1,c1,rfl,h2,h3⟩
 go_wp2
 go_ret
 exact ⟨o1,c1,rfl,h2,h3⟩
set_option maxHeartbeats 800000 in
theorem sfuncE (bm:Nat) (o:Option Addr) (c:Nat) (L:List Ec) (hL:L.length<=1048576) (w:World) (hbm:w.heap[bm]?=some (.cells #[.slice o L.length c] 23 (0,0))) (htx:EcS w (.slice o L.length c) L) :
  Calls Tryz.prog 34 #[.func (.func 57) #[] #[.pointer (some ⟨bm,0,none⟩)],.func (.func 36) #[] #[]] w fun e w'=>∃(E:List Ec) (o:Option Addr) (c:Nat),e=.returned (.slice o E.length c)/\E.Perm L/\RiseC E/\w'.ownsRow w.heap.size 43 4 (.slice o E.length c) E.length (E.flatMap ecC)/\w.grownBy w' none:=by
 have CC:=collE bm o c L hL w hbm htx
 have HC:Hid (Calls Tryz.prog 55 #[.func (.func 57) #[] #[.pointer (some ⟨bm,0,none⟩)]] w fun e w'=>∃o c,e=.returned (.slice o L.length c)/\w'.ownsRow w.heap.size 43 4 (.slice o L.length c) L.length (L.flatMap ecC)/\Below w.heap.size w w'):=CC
 clear hbm htx CC
 go_enter Tryz.func34,Tryz.ntmps34
 go_wp2_with (first | (go_at_call 55;refine HC.out.mono ?_))
 rintro e w1 ⟨o1,c1,rfl,hown,hb⟩
 have CS:Hid (Calls Tryz.prog 56 #[.slice o1 L.length c1,.func (.func 36) #[] #[]] w1 fun e w'=>e=.returned (.tuple #[])/\∃E':List Ec,E'.Perm L/\RiseC E'/\w'.ownsRow w.heap.size 43 4 (.slice o1 L.length c1) E'.length (E'.flatMap ecC)/\w1.grownBy w' (Value.slice o1 L.length c1).ownBlock):=sortEnt _ L w.heap.size w1 hown (by omega)
 have HB:Hid (w.grownBy w1 none):=bel_gb hb
 have HLT:Hid (∀q,(Value.slice o1 L.length c1).ownBlock=some q->w.heap.size<=q):=fun q hq=>(hown.lt q hq).1
 clear hown hb
 go_wp2_with (first | (go_at_call 56;refine CS.out.mono ?_))
 rintro e w2 ⟨rfl,E',hp,hr,hown2,hg2⟩
 go_wp2
 refine bodyPost_ret (results_tmp (t:=4) rfl _ _ _) rfl ⟨E',o1,c1,by rw [hp.length_eq];rfl,hp,hr,by rw [hp.length_eq] at hown2 ⊢;exact hown2,?_⟩
 exact ⟨hg2.os.trans HB.out.os,hg2.tape.trans HB.out.tape,hg2.output.trans HB.out.output,Nat.le_trans HB.out.size hg2.size,fun k hk hn=>(hg2.block k (Nat.lt_of_lt_of_le hk HB.out.size) (fun e=>by have:=HLT.out k e.symm;omega)).trans (HB.out.block k hk hn)⟩
end Go.Proofs.YtbbmbnpebiakbaaGreatDoor
namespace Go.Proofs
open Go.Shelf
def Tryz.lays156_ren:Go.Shelf.Ren:=⟨fun | 156=>61 | 165=>83 | 166=>26 | 169=>28 | 240=>47 | 241=>119 | 276=>69 | 277=>143 | n=>n,fun | 22=>130 | 23=>190 | 24=>110 | 25=>111 | 27=>79 | 28=>165 | 31=>40 | 32=>112 | 33=>90 | 37=>53 | 40=>215 | 41=>95 | 42=>153 | 43=>109 | 46=>102 | 47=>101 | 48=>98 | 51=>134 | 52=>133 | 53=>136 | 54=>135 | 55=>204 | 59=>167 | 60=>168 | 63=>207 | 64=>210 | 67=>94 | 68=>143 | 69=>67 | 70=>52 | 71=>54 | 72=>55 | 73=>116 | 74=>63 | 75=>64 | 76=>65 | 77=>66 | 80=>68 | 81=>120 | 83=>81 | 84=>115 | 100=>84 | 101=>49 | 102=>70 | 103=>39 | 104=>83 | 105=>205 | 106=>206 | 111=>166 | 114=>175 | 115=>196 | 116=>197 | 117=>198 | 118=>199 | 119=>211 | 122=>195 | 123=>200 | 124=>201 | 127=>85 | 131=>72 | 135=>100 | 137=>212 | 138=>213 | 139=>214 | 146=>208 | 151=>209 | 164=>103 | 165=>104 | 166=>179 | 171=>149 | 172=>150 | 173=>151 | 174=>152 | 182=>126 | 183=>127 | 188=>125 | 189=>128 | 190=>129 | 191=>131 | 192=>132 | 211=>176 | 212=>177 | 213=>178 | 218=>154 | 219=>155 | 220=>156 | 222=>158 | 224=>157 | 225=>159 | 228=>180 | 229=>181 | 231=>182 | 232=>202 | 233=>203 | 238=>216 | 239=>217 | 240=>218 | 241=>219 | 242=>220 | 243=>221 | 244=>222 | 245=>223 | 246=>224 | 247=>225 | 248=>226 | 249=>227 | n=>n,fun | 3=>4 | 4=>5 | 17=>0 | 18=>2 | 19=>3 | n=>n⟩
set_option maxRecDepth 100000 in
theorem Tryz.lays156:Go.Proofs.Lays.n156 Tryz.prog Tryz.lays156_ren:={
 mixed:=by kernel_rfl
 f156:=Tryz.func61.trans (congrArg some (by kernel_rfl))
 f165:=Tryz.func83.trans (congrArg some (by kernel_rfl))
 f166:=Tryz.func26.trans (congrArg some (by kernel_rfl))
 f169:=Tryz.func28.trans (congrArg some (by kernel_rfl))
 f240:=Tryz.func47.trans (congrArg some (by kernel_rfl))
 f241:=Tryz.func119.trans (congrArg some (by kernel_rfl))
 f276:=Tryz.func69.trans (congrArg some (by kernel_rfl))
 f277:=Tryz.func143.trans (congrArg some (by kernel_rfl))
 t0:=Tryz.underlying0
 a0:=Tryz.isAgg0
 z0:=Tryz.sizeOf0
 v0:=Tryz.zeroValue0
 t3:=Tryz.underlying3
 a3:=Tryz.isAgg3
 z3:=Tryz.sizeOf3
 v3:=Tryz.zeroValue3
 t4:=Tryz.underlying4
 a4:=Tryz.isAgg4
 z4:=Tryz.sizeOf4
 v4:=Tryz.zeroValue4
 t9:=Tryz.underlying9
 a9:=Tryz.isAgg9
 z9:=Tryz.sizeOf9
 v9:=Tryz.zeroValue9
 t20:=Tryz.underlying20
 a20:=Tryz.isAgg20
 z20:=Tryz.sizeOf20
 v20:=Tryz.zeroValue20
 t31:=Tryz.underlying40
 a31:=Tryz.isAgg40
 z31:=Tryz.sizeOf40
 v31:=Tryz.zeroValue40
 t37:=Tryz.underlying53
 a37:=Tryz.isAgg53
 z37:=Tryz.sizeOf53
 v37:=Tryz.zeroValue53
 t70:=Tryz.underlying52
 a70:=Tryz.isAgg52
 z70:=Tryz.sizeOf52
 v70:=Tryz.zeroValue52
 t72:=Tryz.underlying55
 a72:=Tryz.isAgg55
 z72:=Tryz.sizeOf55
 v72:=Tryz.zeroValue55
 t75:=Tryz.underlying64
 a75:=Tryz.isAgg64
 z75:=Tryz.sizeOf64
 v75:=Tryz.zeroValue64
 t76:=Tryz.underlying65
 a76:=Tryz.isAgg65
 z76:=Tryz.sizeOf65
 v76:=Tryz.zeroValue65
 t127:=Tryz.underlying85
 a127:=Tryz.isAgg85
 z127:=Tryz.sizeOf85
 v127:=Tryz.zeroValue85
 t164:=Tryz.underlying103
 a164:=Tryz.isAgg103
 z164:=Tryz.sizeOf103
 v164:=Tryz.zeroValue103 }
theorem Tryz.Builder_Extra_156:Builder.Extra Tryz.prog Tryz.lays156_ren:={
 sizeBuilder:=by kernel_rfl
 liesBuilder:=by kernel_rfl
 t5:=Tryz.underlying5
 a5:=Tryz.isAgg5
 z5:=Tryz.sizeOf5
 v5:=Tryz.zeroValue5
 infoByte:=by kernel_rfl
 cellsByte:=by kernel_rfl
 sizeByte:=by kernel_rfl
 neB5:=by decide }
end Go.Proofs
namespace Go.Proofs
open Go.Shelf
def Tryz.lays190_ren:Go.Shelf.Ren:=⟨fun | 125=>68 | 128=>97 | 129=>98 | 190=>45 | 258=>67 | 302=>88 | 303=>89 | 304=>90 | 305=>91 | 306=>92 | 307=>93 | 308=>94 | 309=>95 | 310=>96 | 329=>122 | 330=>123 | 333=>121 | 334=>124 | 335=>125 | 336=>58 | 344=>145 | n=>n,fun | 22=>130 | 23=>190 | 24=>110 | 25=>111 | 27=>79 | 28=>165 | 31=>40 | 32=>112 | 33=>90 | 37=>53 | 40=>215 | 41=>95 | 42=>153 | 43=>109 | 46=>102 | 47=>101 | 48=>98 | 51=>134 | 52=>133 | 53=>136 | 54=>135 | 55=>204 | 59=>167 | 60=>168 | 63=>207 | 64=>210 | 67=>94 | 68=>143 | 69=>67 | 70=>52 | 71=>54 | 72=>55 | 73=>116 | 74=>63 | 75=>64 | 76=>65 | 77=>66 | 80=>68 | 81=>120 | 83=>81 | 84=>115 | 100=>84 | 101=>49 | 102=>70 | 103=>39 | 104=>83 | 105=>205 | 106=>206 | 111=>166 | 114=>175 | 115=>196 | 116=>197 | 117=>198 | 118=>199 | 119=>211 | 122=>195 | 123=>200 | 124=>201 | 127=>85 | 131=>72 | 135=>100 | 137=>212 | 138=>213 | 139=>214 | 146=>208 | 151=>209 | 164=>103 | 165=>104 | 166=>179 | 171=>149 | 172=>150 | 173=>151 | 174=>152 | 182=>126 | 183=>127 | 188=>125 | 189=>128 | 190=>129 | 191=>131 | 192=>132 | 211=>176 | 212=>177 | 213=>178 | 218=>154 | 219=>155 | 220=>156 | 222=>158 | 224=>157 | 225=>159 | 228=>180 | 229=>181 | 231=>182 | 232=>202 | 233=>203 | 238=>216 | 239=>217 | 240=>218 | 241=>219 | 242=>220 | 243=>221 | 244=>222 | 245=>223 | 246=>224 | 247=>225 | 248=>226 | 249=>227 | n=>n,fun | 3=>4 | 4=>5 | 17=>0 | 18=>2 | 19=>3 | n=>n⟩
set_option maxRecDepth 100000 in
theorem Tryz.lays190:Go.Proofs.Lays.n190 Tryz.prog Tryz.lays190_ren:={
 mixed:=by kernel_rfl
 f125:=Tryz.func68.trans (congrArg some (by kernel_rfl))
 f128:=Tryz.func97.trans (congrArg some (by kernel_rfl))
 f129:=Tryz.func98.trans (congrArg some (by kernel_rfl))
 f190:=Tryz.func45.trans (congrArg some (by kernel_rfl))
 f258:=Tryz.func67.trans (congrArg some (by kernel_rfl))
 f302:=Tryz.func88.trans (congrArg some (by kernel_rfl))
 f303:=Tryz.func89.trans (congrArg some (by kernel_rfl))
 f304:=Tryz.func90.trans (congrArg some (by kernel_rfl))
 f305:=Tryz.func91.trans (congrArg some (by kernel_rfl))
 f306:=Tryz.func92.trans (congrArg some (by kernel_rfl))
 f307:=Tryz.func93.trans (congrArg some (by kernel_rfl))
 f308:=Tryz.func94.trans (congrArg some (by kernel_rfl))
 f309:=Tryz.func95.trans (congrArg some (by kernel_rfl))
 f310:=Tryz.func96.trans (congrArg some (by kernel_rfl))
 f329:=Tryz.func122.trans (congrArg some (by kernel_rfl))
 f330:=Tryz.func123.trans (congrArg some (by kernel_rfl))
 f333:=Tryz.func121.trans (congrArg some (by kernel_rfl))
 f334:=Tryz.func124.trans (congrArg some (by kernel_rfl))
 f335:=Tryz.func125.trans (congrArg some (by kernel_rfl))
 f336:=Tryz.func58.trans (congrArg some (by kernel_rfl))
 f344:=Tryz.func145.trans (congrArg some (by kernel_rfl))
 t0:=Tryz.underlying0
 a0:=Tryz.isAgg0
 z0:=Tryz.sizeOf0
 v0:=Tryz.zeroValue0
 t3:=Tryz.underlying3
 a3:=Tryz.isAgg3
 z3:=Tryz.sizeOf3
 v3:=Tryz.zeroValue3
 t4:=Tryz.underlying4
 a4:=Tryz.isAgg4
 z4:=Tryz.sizeOf4
 v4:=Tryz.zeroValue4
 t5:=Tryz.underlying5
 a5:=Tryz.isAgg5
 z5:=Tryz.sizeOf5
 v5:=Tryz.zeroValue5
 t9:=Tryz.underlying9
 a9:=Tryz.isAgg9
 z9:=Tryz.sizeOf9
 v9:=Tryz.zeroValue9
 t31:=Tryz.underlying40
 a31:=Tryz.isAgg40
 z31:=Tryz.sizeOf40
 v31:=Tryz.zeroValue40
 t46:=Tryz.underlying102
 a46:=Tryz.isAgg102
 z46:=Tryz.sizeOf102
 v46:=Tryz.zeroValue102
 t51:=Tryz.underlying134
 a51:=Tryz.isAgg134
 z51:=Tryz.sizeOf134
 v51:=Tryz.zeroValue134
 t53:=Tryz.underlying136
 a53:=Tryz.isAgg136
 z53:=Tryz.sizeOf136
 v53:=Tryz.zeroValue136
 t131:=Tryz.underlying72
 a131:=Tryz.isAgg72
 z131:=Tryz.sizeOf72
 v131:=Tryz.zeroValue72
 t182:=Tryz.underlying126
 a182:=Tryz.isAgg126
 z182:=Tryz.sizeOf126
 v182:=Tryz.zeroValue126
 t183:=Tryz.underlying127
 a183:=Tryz.isAgg127
 z183:=Tryz.sizeOf127
 v183:=Tryz.zeroValue127
 t218:=Tryz.underlying154
 a218:=Tryz.isAgg154
 z218:=Tryz.sizeOf154
 v218:=Tryz.zeroValue154
 t222:=Tryz.underlying158
 a222:=Tryz.isAgg158
 z222:=Tryz.sizeOf158
 v222:=Tryz.zeroValue158
 t228:=Tryz.underlying180
 a228:=Tryz.isAgg180
 z228:=Tryz.sizeOf180
 v228:=Tryz.zeroValue180
 t229:=Tryz.underlying181
 a229:=Tryz.isAgg181
 z229:=Tryz.sizeOf181
 v229:=Tryz.zeroValue181 }
end Go.Proofs
