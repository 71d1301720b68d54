import Derived.Shelf.SlSortCmp.NoneTotal
import Derived.Test.YtaeonidcngjeiaaDoorProg
import Derived.Test.YtaeonidcngjeiaaDoorM12
import Derived.Test.YtaeonidcngjeiaaDoorM11
namespace Go.Proofs
open Go.Shelf
def Tryd.laysSort_ren:Go.Shelf.Ren:=⟨fun | 6=>11 | 14=>22 | 15=>23 | 20=>30 | 21=>31 | 22=>32 | 23=>33 | 24=>34 | 25=>35 | 26=>36 | 27=>37 | 28=>38 | 29=>39 | 46=>51 | 47=>52 | 48=>53 | 49=>54 | 50=>55 | 57=>67 | n=>n,fun | 22=>35 | 23=>37 | 24=>41 | 25=>45 | 27=>23 | 29=>44 | 37=>58 | 38=>59 | 39=>60 | 42=>62 | 44=>73 | 45=>74 | 46=>75 | 47=>76 | 48=>77 | 49=>78 | 50=>79 | 51=>80 | 52=>81 | 53=>82 | 54=>83 | 55=>84 | 66=>106 | 67=>107 | 68=>108 | 69=>109 | 70=>110 | 71=>111 | 76=>124 | 77=>125 | 78=>126 | 81=>151 | 82=>152 | 83=>153 | 84=>154 | 85=>155 | 86=>156 | 87=>99 | 88=>157 | 89=>158 | 90=>159 | 91=>145 | 92=>160 | 93=>161 | 94=>162 | 95=>163 | 96=>170 | n=>n,fun n=>n⟩
set_option maxRecDepth 100000 in
theorem Tryd.laysSort:Go.Proofs.SlLaysF0.n6 Tryd.prog Tryd.laysSort_ren:={
 mixed:=by kernel_rfl
 f6:=⟨ "slices.SortFunc[[]pantry/shelf.item,pantry/shelf.item]",by decide,Tryd.func11.trans (congrArg some (by kernel_rfl))⟩
 f14:=⟨ "slices.pdqsortCmpFunc[pantry/shelf.item]",by decide,Tryd.func22.trans (congrArg some (by kernel_rfl))⟩
 f15:=Tryd.func23.trans (congrArg some (by kernel_rfl))
 f20:=⟨ "slices.insertionSortCmpFunc[pantry/shelf.item]",by decide,Tryd.func30.trans (congrArg some (by kernel_rfl))⟩
 f21:=⟨ "slices.heapSortCmpFunc[pantry/shelf.item]",by decide,Tryd.func31.trans (congrArg some (by kernel_rfl))⟩
 f22:=⟨ "slices.breakPatternsCmpFunc[pantry/shelf.item]",by decide,Tryd.func32.trans (congrArg some (by kernel_rfl))⟩
 f23:=⟨ "slices.choosePivotCmpFunc[pantry/shelf.item]",by decide,Tryd.func33.trans (congrArg some (by kernel_rfl))⟩
 f24:=⟨ "slices.reverseRangeCmpFunc[pantry/shelf.item]",by decide,Tryd.func34.trans (congrArg some (by kernel_rfl))⟩
 f25:=⟨ "slices.partialInsertionSortCmpFunc[pantry/shelf.item]",by decide,Tryd.func35.trans (congrArg some (by kernel_rfl))⟩
 f26:=⟨ "slices.partitionEqualCmpFunc[pantry/shelf.item]",by decide,Tryd.func36.trans (congrArg some (by kernel_rfl))⟩
 f27:=⟨ "slices.partitionCmpFunc[pantry/shelf.item]",by decide,Tryd.func37.trans (congrArg some (by kernel_rfl))⟩
 f28:=Tryd.func38.trans (congrArg some (by kernel_rfl))
 f29:=Tryd.func39.trans (congrArg some (by kernel_rfl))
 f46:=⟨ "slices.siftDownCmpFunc[pantry/shelf.item]",by decide,Tryd.func51.trans (congrArg some (by kernel_rfl))⟩
 f47:=Tryd.func52.trans (congrArg some (by kernel_rfl))
 f48:=Tryd.func53.trans (congrArg some (by kernel_rfl))
 f49:=⟨ "slices.medianAdjacentCmpFunc[pantry/shelf.item]",by decide,Tryd.func54.trans (congrArg some (by kernel_rfl))⟩
 f50:=⟨ "slices.medianCmpFunc[pantry/shelf.item]",by decide,Tryd.func55.trans (congrArg some (by kernel_rfl))⟩
 f57:=⟨ "slices.order2CmpFunc[pantry/shelf.item]",by decide,Tryd.func67.trans (congrArg some (by kernel_rfl))⟩
 t0:=Tryd.underlying0
 a0:=Tryd.isAgg0
 z0:=Tryd.sizeOf0
 v0:=Tryd.zeroValue0
 t3:=Tryd.underlying3
 a3:=Tryd.isAgg3
 z3:=Tryd.sizeOf3
 v3:=Tryd.zeroValue3
 t4:=Tryd.underlying4
 a4:=Tryd.isAgg4
 z4:=Tryd.sizeOf4
 v4:=Tryd.zeroValue4
 t5:=Tryd.underlying5
 a5:=Tryd.isAgg5
 z5:=Tryd.sizeOf5
 v5:=Tryd.zeroValue5
 t9:=Tryd.underlying9
 a9:=Tryd.isAgg9
 z9:=Tryd.sizeOf9
 v9:=Tryd.zeroValue9
 t22:=Tryd.underlying35
 a22:=Tryd.isAgg35
 z22:=Tryd.sizeOf35
 v22:=Tryd.zeroValue35
 t25:=Tryd.underlying45
 a25:=Tryd.isAgg45
 z25:=Tryd.sizeOf45
 v25:=Tryd.zeroValue45
 t39:=Tryd.underlying60
 a39:=Tryd.isAgg60
 z39:=Tryd.sizeOf60
 v39:=Tryd.zeroValue60
 t45:=Tryd.underlying74
 a45:=Tryd.isAgg74
 z45:=Tryd.sizeOf74
 v45:=Tryd.zeroValue74
 t46:=Tryd.underlying75
 a46:=Tryd.isAgg75
 z46:=Tryd.sizeOf75
 v46:=Tryd.zeroValue75
 t50:=Tryd.underlying79
 a50:=Tryd.isAgg79
 z50:=Tryd.sizeOf79
 v50:=Tryd.zeroValue79
 t53:=Tryd.underlying82
 a53:=Tryd.isAgg82
 z53:=Tryd.sizeOf82
 v53:=Tryd.zeroValue82
 t55:=Tryd.underlying84
 a55:=Tryd.isAgg84
 z55:=Tryd.sizeOf84
 v55:=Tryd.zeroValue84
 t66:=Tryd.underlying106
 a66:=Tryd.isAgg106
 z66:=Tryd.sizeOf106
 v66:=Tryd.zeroValue106
 t70:=Tryd.underlying110
 a70:=Tryd.isAgg110
 z70:=Tryd.sizeOf110
 v70:=Tryd.zeroValue110
 t76:=Tryd.underlying124
 a76:=Tryd.isAgg124
 z76:=Tryd.sizeOf124
 v76:=Tryd.zeroValue124
 t77:=Tryd.underlying125
 a77:=Tryd.isAgg125
 z77:=Tryd.sizeOf125
 v77:=Tryd.zeroValue125 }
end Go.Proofs
namespace Go.Proofs.YtaeonidcngjeiaaDoor
open Go.RowKit Go.Shelf Go.Sort
set_option linter.unusedVariables false
def SortItems:Prop:=∀(ve:Value) (E:List It) (base:Nat) (w:World),w.ownsRow base 41 6 ve E.length (E.flatMap itC)->E.length<=8388608->(∀e ∈ E,e.v.pre.length<=100) →
 Calls Tryd.prog 11 #[ve,.func (.func 12) #[] #[]] w fun e w'=>e=.returned (.tuple #[])/\∃E':List It,E'.Perm E/\E'.Pairwise (fun a b=>0<=cmpIt b a)/\w'.ownsRow base 41 6 ve E'.length (E'.flatMap itC)/\w.grownBy w' ve.ownBlock
abbrev Ib:={e:It // e.v.pre.length<=100}
instance:Inhabited Ib:=⟨⟨⟨0,zeroV⟩,by show (0:Nat)<=_;omega⟩⟩
def encI (x:Ib):List Value:=itC x.1
def cfI (x y:Ib):Int:=cmpIt x.1 y.1
theorem cint_lt {a b:Int}:Lib.compareInt a b < 0 ↔ a < b:=by
 unfold Lib.compareInt
 repeat' split
 all_goals omega
theorem cmpIt_lt (x y:It):cmpIt x y < 0 ↔ verC (cutV y.v) (cutV x.v) < 0\/(verC (cutV y.v) (cutV x.v)=0/\x.k < y.k):=by
 unfold cmpIt or2
 split
 ·rename_i h
  rw [cint_lt]
  omega
 ·rename_i h
  omega
theorem swoI:SWO (ltOf cfI) where
 irrefl x:=by
  unfold ltOf cfI
  apply decide_eq_false
  rw [cmpIt_lt,v_self]
  omega
 trans x y z h1 h2:=by
  unfold ltOf cfI at *
  have a1:=(cmpIt_lt _ _).1 (of_decide_eq_true h1)
  have a2:=(cmpIt_lt _ _).1 (of_decide_eq_true h2)
  refine decide_eq_true ((cmpIt_lt _ _).2 ?_)
  rcases a1 with a1 | ⟨a1,b1⟩
  ·rcases a2 with a2 | ⟨a2,b2⟩
   ·exact Or.inl (v_lt_trans a2 a1)
   ·exact Or.inl (v_le_lt (by omega) a1)
  ·rcases a2 with a2 | ⟨a2,b2⟩
   ·exact Or.inl (v_lt_le a2 (by omega))
   ·refine Or.inr ⟨?_,by omega⟩
    have c1:=v_le_trans (show verC (cutV z.1.v) (cutV y.1.v)<=0 by omega) (show verC (cutV y.1.v) (cutV x.1.v)<=0 by omega)
    have c2:=v_le_trans (show verC (cutV x.1.v) (cutV y.1.v)<=0 by have:=v_anti (cutV x.1.v) (cutV y.1.v);omega) (show verC (cutV y.1.v) (cutV z.1.v)<=0 by have:=v_anti (cutV y.1.v) (cutV z.1.v);omega)
    have c3:=v_anti (cutV x.1.v) (cutV z.1.v)
    omega
 ntrans x y z h1 h2:=by
  unfold ltOf cfI at *
  have a1:=of_decide_eq_false h1
  have a2:=of_decide_eq_false h2
  rw [cmpIt_lt] at a1 a2
  apply decide_eq_false
  rw [cmpIt_lt]
  have d1:=v_anti (cutV x.1.v) (cutV y.1.v)
  have d2:=v_anti (cutV y.1.v) (cutV z.1.v)
  have d3:=v_anti (cutV x.1.v) (cutV z.1.v)
  have e1:=v_le_trans (show verC (cutV x.1.v) (cutV y.1.v)<=0 by omega) (show verC (cutV y.1.v) (cutV z.1.v)<=0 by omega)
  by_cases h0:verC (cutV x.1.v) (cutV z.1.v)=0
  ·have f1:verC (cutV x.1.v) (cutV y.1.v)=0:=by
    by_cases hh:verC (cutV x.1.v) (cutV y.1.v) < 0
    ·have:=v_lt_le hh (show verC (cutV y.1.v) (cutV z.1.v)<=0 by omega)
     omega
    ·omega
   have f2:verC (cutV y.1.v) (cutV z.1.v)=0:=by
    by_cases hh:verC (cutV y.1.v) (cutV z.1.v) < 0
    ·have:=v_le_lt (show verC (cutV x.1.v) (cutV y.1.v)<=0 by omega) hh
     omega
    ·omega
   omega
  ·omega
theorem gr_grow {w w':World} (h:Gr w w'):∃q os,w'=grow (w.drewN q) os:=by
 refine ⟨w'.drawn - w.drawn,w'.heap.extract w.heap.size w'.heap.size,?_⟩
 obtain ⟨hg,hd⟩:=h
 have hh:w'.heap=w.heap++w'.heap.extract w.heap.size w'.heap.size:=by
  apply Array.ext_getElem?
  intro k
  by_cases hk:k < w.heap.size
  ·rw [Array.getElem?_append_left hk];exact hg.block k hk (by simp)
  ·rw [Array.getElem?_append_right (by omega),Array.getElem?_extract]
   by_cases hk2:k < w'.heap.size
   ·rw [if_pos (by omega)];congr 1;omega
   ·rw [if_neg (by omega),Array.getElem?_eq_none (by omega)]
 have h1:=hg.os
 have h2:=hg.tape
 have h3:=hg.output
 cases w';cases w
 simp only [grow,World.drewN,World.mk.injEq] at *
 exact ⟨hh,h2,by omega,h1,h3⟩
theorem cmpI (w:World) (blk off size:Nat):CmpLays Tryd.prog 12 #[] encI 6 cfI blk off size w:=by
 intro m os dk hdk x y
 refine (cmpIt_any x.1 y.1 _ x.2 y.2).mono ?_
 rintro e w' ⟨rfl,hg⟩
 exact ⟨rfl,gr_grow hg⟩
theorem encLenI (x:Ib):(encI x).length=6:=rfl
theorem encOneI (x:Ib):∀v ∈ encI x,v.oneCell'=true:=itc_one x.1
theorem flatI (d:Array Ib):(flatK encI 6 d).toList=(d.toList.map (·.1)).flatMap itC:=by
 apply List.ext_getElem?
 intro j
 have hl:((d.toList.map (·.1)).flatMap itC).length=d.size * 6:=by
  have:∀L:List It,(L.flatMap itC).length=L.length * 6:=by
   intro L
   induction L with
   | nil=>rfl
   | cons e L ih=>rw [List.flatMap_cons,List.length_append,ih,List.length_cons];show 6+_=_;omega
  rw [this];simp
 by_cases hj:j < d.size * 6
 ·have hi:j / 6 < d.size:=by omega
  have h1:(flatK encI 6 d).toList[j]?=some ((encI d[j / 6]!)[j % 6]!):=by
   rw [Array.getElem?_toList,Array.getElem?_eq_getElem (by simpa using hj)]
   have:=get_flatK encI 6 d j hj
   rw [getElem!_pos _ j (by simpa using hj)] at this
   rw [this]
  have h2:=it_get (d.toList.map (·.1)) (j / 6) (by simpa using hi) (j % 6) ((encI d[j / 6]!)[j % 6]!) (by
   rw [getElem!_pos d (j / 6) hi]
   have hk:j % 6 < (encI d[j / 6]).length:=by rw [encLenI];omega
   rw [getElem!_pos _ (j % 6) hk]
   rw [List.getElem_map,Array.getElem_toList]
   exact List.getElem?_eq_getElem hk)
  rw [show j / 6 * 6+j % 6=j by omega] at h2
  rw [h1,h2]
 ·rw [List.getElem?_eq_none (by simp;omega),List.getElem?_eq_none (by rw [hl];omega)]
theorem egI:∀args w,(callFunc 12 args).run Tryd.prog w=.ok (.enter 12 args) w:=enters_of Tryd.func12 (by kernel_rfl) rfl
set_option maxRecDepth 100000 in
theorem sortItems:SortItems:=by
 intro ve E base w hown hlen hsmall
 obtain ⟨D,hD⟩:∃D:Array Ib,D.toList.map (·.1)=E:=⟨(E.attach.map fun e=>(⟨e.1,hsmall e.1 e.2⟩:Ib)).toArray,by simp⟩
 have hDs:D.size=E.length:=by rw [<-hD];simp
 have hown':=hown
 rcases hown.2 with ⟨rfl,h0⟩ | ⟨g,cap,cur,rfl,hb,hg,hn,hm,hs,ht⟩
 ·refine (AnyF.slices_SortFunc_none Tryd.laysSort none 0 (.func (.func 12) #[] #[]) w).mono ?_
  rintro e w' ⟨rfl,rfl⟩
  have hE:E=[]:=List.eq_nil_of_length_eq_zero h0
  subst hE
  exact ⟨rfl,[],List.Perm.refl _,List.Pairwise.nil,hown',⟨rfl,rfl,rfl,Nat.le_refl _,fun _ _ _=>rfl⟩⟩
 ·have hH:HoldsK encI 6 w g 0 D:=by
   intro j hj
   have hj':j < (E.flatMap itC).length:=by rw [hown.1,<-hDs];simpa using hj
   refine ⟨?_,Lib.frozen_of_heap hg _⟩
   have h1:(flatK encI 6 D).toList[j]?=(E.flatMap itC)[j]?:=by rw [flatI,hD]
   rw [Array.getElem?_toList,Array.getElem?_eq_getElem hj] at h1
   rw [Nat.zero_add,Lib.cell_of_heap hg]
   rw [getElem!_pos _ j hj]
   show cur[j]?=some (id _)
   rw [id,h1,<-ht,List.getElem?_take_of_lt (by rw [hown.1] at hj';exact hj')]
   simp
  rw [<-hDs]
  refine (AnyQ.slices_SortFunc Tryd.laysSort 6 Tryd.isAgg41 Tryd.sizeOf41 encI encLenI encOneI cfI swoI 12 #[] g 0 cap D w egI (cmpI w g 0 D.size) hH (Array.getElem?_eq_some_iff.1 hg).1 (by omega)).mono ?_
  rintro e w' ⟨rfl,d',m,os,hperm,hsort,hw'⟩
  have hds:d'.size=D.size:=hperm.1
  have hgl:g < w.heap.size:=(Array.getElem?_eq_some_iff.1 hg).1
  have hheap:w'.heap=(w.heap.modify g (onCells (putCells id 0 (flatK encI 6 d'))))++os:=by rw [hw'];rfl
  have hg':w'.heap[g]?=some (.cells (putCells id 0 (flatK encI 6 d') cur) 41):=by
   rw [hheap,Array.getElem?_append_left (by simpa using hgl),Array.getElem?_modify,if_pos rfl,hg];rfl
  have hFs:(flatK encI 6 d').size=D.size * 6:=by simp [hds]
  have hcs:D.size * 6<=cur.size:=by rw [hs,hDs];omega
  have hlen2:((d'.toList.map (·.1)).flatMap itC).length=D.size * 6:=by rw [<-flatI,Array.length_toList,hFs]
  refine ⟨rfl,d'.toList.map (·.1),?_,?_,⟨?_,.inr ⟨g,cap,_,?_,hb,hg',?_,hm,?_,?_⟩⟩,?_⟩
  ·rw [<-hD]
   apply List.Perm.map
   have:=hperm.2.2
   rw [Array.extract_size] at this
   rw [show d'.extract 0 D.size=d' by rw [<-hds,Array.extract_size]] at this
   exact this
  ·rw [List.pairwise_iff_getElem]
   intro i j hi hj hij
   simp only [List.length_map,Array.length_toList] at hi hj
   have:=hsort i j (Nat.zero_le _) hij (by omega)
   rw [getElem!_pos d' j hj,getElem!_pos d' i hi] at this
   have h3:=of_decide_eq_false this
   simp only [List.getElem_map,Array.getElem_toList]
   exact Int.not_lt.1 h3
  ·rw [hlen2];simp [hds]
  ·simp [hds]
  ·simp [hds];omega
  ·simp [putCells,hs]
  ·rw [show (d'.toList.map (·.1)).length=D.size by simp [hds],<-flatI]
   apply List.ext_getElem?
   intro j
   by_cases hj:j < D.size * 6
   ·rw [List.getElem?_take_of_lt hj,Array.getElem?_toList,Array.getElem?_toList]
    rw [putCells,Array.getElem?_mapIdx,Array.getElem?_eq_getElem (show j < cur.size by omega)]
    rw [Option.map_some,if_pos ⟨Nat.zero_le _,by omega⟩,Nat.sub_zero,id,getElem!_pos _ j (by omega)]
    exact (Array.getElem?_eq_getElem _).symm
   ·rw [List.getElem?_eq_none (by simp;omega),List.getElem?_eq_none (by rw [Array.length_toList];omega)]
  ·refine ⟨by rw [hw'];rfl,by rw [hw'];rfl,by rw [hw'];rfl,?_,?_⟩
   ·rw [hheap];simp
   ·intro k hk hne
    have hkg:g ≠ k:=by
     intro h;subst h;exact hne rfl
    rw [hheap,Array.getElem?_append_left (by simpa using hk),Array.getElem?_modify,if_neg hkg]
open Go.RowKit
set_option linter.unusedVariables false
theorem its_slice {w:World} {v:Value} {M:List It} (h:ItS w v M):∃o c,v=.slice o M.length c/\(∀i,i < M.length->∃a,o=some a/\M.length<=c):=by
 rcases h with ⟨rfl,rfl⟩ | ⟨a,cap,rfl,h2,-⟩
 ·exact ⟨_,_,rfl,fun i hi=>by simp at hi⟩
 ·exact ⟨_,_,rfl,fun _ _=>⟨a,rfl,h2⟩⟩
theorem it_block {w:World} {N:Nat} {k:Nat} {y1 y2 y3:Int} {y4 y5:List UInt8} {t:TypeId} (h:w.heap[N]?=some (.cells #[.int .i64 (k:Int),.int .i64 y1,.int .i64 y2,.int .i64 y3,.string ⟨y4.toArray⟩,.string ⟨y5.toArray⟩] t (0,0))):ItAt w ⟨N,0,none⟩ ⟨k,⟨y1,y2,y3,y4,y5⟩⟩ :=
 ⟨by rw [Lib.cell_of_heap h];rfl,by rw [Lib.cell_of_heap h];rfl,by rw [Lib.cell_of_heap h];rfl,by rw [Lib.cell_of_heap h];rfl,by rw [Lib.cell_of_heap h];rfl,by rw [Lib.cell_of_heap h];rfl⟩
set_option maxRecDepth 100000 in
set_option maxHeartbeats 3200000 in
theorem find_any (sl:Value) (L:List Re) (name v:ByteArray) (w:World) (h:ReS w sl L) (hL:L.length<=1048576) (hV:∀x ∈ L,x.ve.size < 2 ^ 62) (hv:v.size < 2 ^ 62) :
  Calls Tryd.prog 6 #[sl,.string name,.string v] w fun e w'=>e=.returned (.int .i64 (findI name v L 0))/\w.grownBy w' none:=by
 have HS:Hid (ReS w sl L):=h
 have CP:Hid (∀w,Calls Tryd.prog 17 #[.string v] w fun e w'=>(∃k:Int,e=.returned (.tuple #[valV (verO v),.int .i64 (parseV v.data.toList).1,.int .i64 k]))/\w.grownBy w' none):=fun w=>(parse_any v w hv).mono fun e w' ⟨h1,h2⟩=>⟨⟨_,h1⟩,h2⟩
 have CI:Hid (∀w,ReS w sl L->Calls Tryd.prog 10 #[sl,.string name] w (ItemsPost (itemsL name L 0) w)):=fun w h=>cItems sl L name w h hL hV
 have p1:=pre_100 v
 have HFN:Hid (okV v=false->findI name v L 0=-1):=fun h=>find_none name v h L 0
 have HFI:Hid (okV v=true->findM (cutV (verO v)) (itemsL name L 0)=findI name v L 0):=fun h=>find_items name v h L 0
 have HSH:Hid (∀x ∈ itemsL name L 0,x.v.pre.length<=100):=fun x hx=>(items_short name L 0 x hx).1
 have HML:Hid ((itemsL name L 0).length<=1048576):=Nat.le_trans (items_len name L 0) hL
 obtain ⟨o0,n0,c0,rfl⟩:∃o n c,sl=.slice o n c:=by
  rcases h with ⟨rfl,-⟩ | ⟨a,cap,rfl,-⟩
  ·exact ⟨_,_,_,rfl⟩
  ·exact ⟨_,_,_,rfl⟩
 unfold valV at CP
 obtain ⟨E,hE⟩:∃E,(parseV v.data.toList).1=E:=⟨_,rfl⟩
 obtain ⟨y,hy⟩:∃y,verO v=y:=⟨_,rfl⟩
 have hok:okV v=decide (E=0):=by unfold okV;rw [hE]
 rw [hE,hy] at CP
 rw [hok] at HFN HFI
 rw [hy] at HFI p1
 obtain ⟨y1,y2,y3,y4,y5⟩:=y
 simp only [] at CP p1
 obtain ⟨R,hR⟩:∃R,findI name v L 0=R:=⟨_,rfl⟩
 obtain ⟨M,hM⟩:∃M,itemsL name L 0=M:=⟨_,rfl⟩
 rw [hR] at HFN HFI ⊢
 rw [hM] at HFI HSH HML CI
 have CC:Hid (∀(x:It) w,x.v.pre.length<=100->Calls Tryd.prog 14 #[.agg #[.int .i64 x.v.major,.int .i64 x.v.minor,.int .i64 x.v.patch,.string ⟨x.v.pre.toArray⟩,.string ⟨x.v.build.toArray⟩],.agg #[.int .i64 y1,.int .i64 y2,.int .i64 y3,.string ⟨y4.toArray⟩,.string ⟨y5.toArray⟩]] w fun e w'=>e=.returned (.int .i64 (verC (cutV x.v) ⟨y1,y2,y3,y4⟩))/\w.grownBy w' none):=fun x w hx=>by
  refine (compare_any _ _ _ _ _ _ _ _ _ _ w (by show x.v.pre.toArray.size < _;simp;omega) (by show y4.toArray.size < _;simp;omega)).mono ?_
  rintro e w' ⟨rfl,hg⟩
  refine ⟨?_,hg⟩
  simp [cutV]
 clear h hE hy hok hR hM p1 hV hv
 go_enter Tryd.func6,Tryd.ntmps6
 go_wp2_with (first | (go_at_call 17;refine (CP.out _).mono ?_))
 rintro e w1 ⟨⟨k,rfl⟩,hg⟩
 have HG:Hid (w.grownBy w1 none):=hg
 clear hg
 by_cases hE:E=0
 ·subst hE
  have HFI2:=HFI.out (by simp)
  have HI:Hid (findM ⟨y1,y2,y3,y4⟩ (M.drop 0)=R):=HFI2
  clear HFI2
  go_wp2_with (first | (go_at_call 10;refine (CI.out _ (HS.out.grow (gb_alloc HG.out _))).mono ?_))
  rintro e w2 ⟨vs,rfl,ho,hb⟩
  have hgi:(w1.alloc (.cells #[.int .i64 y1,.int .i64 y2,.int .i64 y3,.string ⟨y4.toArray⟩,.string ⟨y5.toArray⟩] 39)).grownBy w2 none:=bel_gb hb
  obtain ⟨V0,hV0⟩:∃V,w1.heap.size=V:=⟨_,rfl⟩
  have STv:Hid (St V0 y1 y2 y3 ⟨y4.toArray⟩ ⟨y5.toArray⟩ w2):=by
   show St V0 _ _ _ _ _ w2
   rw [<-hV0]
   exact (st_row (heap_alloc_new w1 _)).grow hgi
  have hits:=its_own ho
  have HIT:Hid (ItS w2 vs M):=hits
  obtain ⟨ov,cv,rfl,hov⟩:=its_slice hits
  replace HG:Hid (w.grownBy w2 none):=gb_trans HG.out (gb_trans (gb_alloc (gb_refl w1 none) _) hgi)
  try rw [hV0]
  clear ho hb hgi hV0 hits
  go_wp2
  go_loopw [24] (fun vi wr=>∃i:Nat,vi=.int .i64 i/\i<=M.length/\findM ⟨y1,y2,y3,y4⟩ (M.drop i)=R/\w2.grownBy wr none) (fun vi _=>M.length - (intOf vi).toNat)
  case atStart=>exact ⟨0,rfl,Nat.zero_le _,HI.out,gb_refl _ _⟩
  case round =>
   obtain ⟨i,rfl,hi,hf,hg⟩:=hrel
   replace STv:Hid (St V0 y1 y2 y3 ⟨y4.toArray⟩ ⟨y5.toArray⟩ wr):=STv.out.grow hg
   replace HG:Hid (w.grownBy wr none):=gb_trans HG.out hg
   have HW2:Hid (w2.grownBy wr none):=hg
   have hml:=HML.out
   by_cases hlt:i < M.length
   ·obtain ⟨a,rfl,hcv⟩:=hov i hlt
    obtain ⟨x,hx⟩:∃x,M[i]=x:=⟨_,rfl⟩
    have hat:ItAt wr (a.add (i * 6)) x:=by
     rcases HIT.out with ⟨e,-⟩ | ⟨a',cap',e,-,h3⟩
     ·cases e
     ·cases e
      rw [<-hx];exact (h3 i hlt).grow hg
    have HF:Hid ((if verC (cutV x.v) ⟨y1,y2,y3,y4⟩=0 then (x.k:Int) else findM ⟨y1,y2,y3,y4⟩ (M.drop (i+1)))=R):=by
     show _=_
     rw [List.drop_eq_getElem_cons hlt,hx] at hf
     exact hf
    have CX:Hid (∀w,Calls Tryd.prog 14 #[.agg #[.int .i64 x.v.major,.int .i64 x.v.minor,.int .i64 x.v.patch,.string ⟨x.v.pre.toArray⟩,.string ⟨x.v.build.toArray⟩],.agg #[.int .i64 y1,.int .i64 y2,.int .i64 y3,.string ⟨y4.toArray⟩,.string ⟨y5.toArray⟩]] w fun e w'=>e=.returned (.int .i64 (verC (cutV x.v) ⟨y1,y2,y3,y4⟩))/\w.grownBy w' none):=fun w=>CC.out x w (HSH.out x (by rw [<-hx];exact List.getElem_mem _))
    obtain ⟨c,hc⟩:∃c,verC (cutV x.v) ⟨y1,y2,y3,y4⟩=c:=⟨_,rfl⟩
    rw [hc] at CX HF
    obtain ⟨xk,⟨z1,z2,z3,z4,z5⟩⟩:=x
    simp only [] at CX HF
    obtain ⟨e0,e1,e2,e3,e4,e5⟩:=hat
    simp only [] at e0 e1 e2 e3 e4 e5
    obtain ⟨s1,s2,s3,s4,s5⟩:=STv.out
    have hVlt:V0 < wr.heap.size:=hcell_lt s1
    have gA:=gb_alloc (gb_refl wr none) (.cells #[.int .i64 (xk:Int),.int .i64 z1,.int .i64 z2,.int .i64 z3,.string ⟨z4.toArray⟩,.string ⟨z5.toArray⟩] 41)
    have t1:=gA.cell s1 (by simp)
    have t2:=gA.cell s2 (by simp)
    have t3:=gA.cell s3 (by simp)
    have t4:=gA.cell s4 (by simp)
    have t5:=gA.cell s5 (by simp)
    clear hf hg hx hc gA
    go_wp2_with (first | (go_at_call 14;refine (CX.out _).mono ?_))
    rintro e w3 ⟨rfl,hg⟩
    have hit:ItAt w3 ⟨wr.heap.size,0,none⟩ ⟨xk,⟨z1,z2,z3,z4,z5⟩⟩:=(it_block (heap_alloc_new wr _)).grow hg
    have hk:=hit.1
    simp only [] at hk
    have hgr:wr.grownBy w3 none:=gb_trans (gb_alloc (gb_refl wr none) _) hg
    have HG3:Hid (w.grownBy w3 none):=gb_trans HG.out hgr
    have HW3:Hid (wr.grownBy w3 none):=hgr
    clear hg hgr hit e0 e1 e2 e3 e4 e5 s1 s2 s3 s4 s5 t1 t2 t3 t4 t5 hVlt
    cases hz:(c == 0) with
    | true =>
     have h0:c=0:=by simpa using hz
     have HQ:Hid ((xk:Int)=R):=by
      have:=HF.out
      rw [if_pos h0] at this
      exact this
     clear h0
     go_wp2
     go_ret
     exact ⟨ret_int HQ.out,HG3.out⟩
    | false =>
     have h0:¬ c=0:=by simpa using hz
     have HQ:Hid (findM ⟨y1,y2,y3,y4⟩ (M.drop (i+1))=R):=by
      have:=HF.out
      rw [if_neg h0] at this
      exact this
     clear h0
     go_wp2
     exact ⟨⟨i+1,by go_num,by omega,HQ.out,gb_trans HW2.out HW3.out⟩,by simp [intOf];omega⟩
   ·have hil:i=M.length:=by omega
    have HQ:Hid (-1=R):=by
     show _=_
     rw [hil,List.drop_length] at hf
     exact hf
    clear hf hil hg
    go_wp2
    go_ret
    exact ⟨ret_int HQ.out,HG.out⟩
 ·have hE1:(E == 0)=false:=by simp [hE]
  have hE2:(E != 0)=true:=by simp [hE]
  have HQ:Hid (-1=R):=(HFN.out (by simp [hE])).symm
  clear hE
  go_wp2
  go_ret
  exact ⟨ret_int HQ.out,gb_alloc HG.out _⟩
open Go.RowKit
set_option linter.unusedVariables false
theorem infoInt0:(Tryd.prog.info? 3).map (fun i=>(i.zero,i.size,i.bytes))=some (some (.int .i64 0),1,8):=by kernel_rfl
theorem made_int (n:Nat):madeCells #[Value.int .i64 0] n=((List.range n).map fun _=>Value.int .i64 0).toArray:=by
 apply Array.ext'
 simp [madeCells]
 intro a ha
 rw [Nat.mod_one];rfl
def NxAt (w:World) (B:Nat) (N:List Nat) (i:Nat):Prop:=w.heap[B]?=some (.cells (((N.take i).map fun (k:Nat)=>Value.int .i64 (k:Int))++List.replicate (N.length - i) (Value.int .i64 0)).toArray 3 (0,0))
theorem NxAt.cell {w:World} {B:Nat} {N:List Nat} {i:Nat} (h:NxAt w B N i) (hi:i < N.length):w.cell? ⟨B,i,none⟩=some (.int .i64 0):=by
 rw [Lib.cell_of_heap h]
 have h1:((N.take i).map fun (k:Nat)=>Value.int .i64 (k:Int)).length=i:=by rw [List.length_map,List.length_take];omega
 simp only [List.getElem?_toArray]
 rw [List.getElem?_append_right (by omega),h1,Nat.sub_self,List.getElem?_replicate,if_pos (by omega)]
theorem NxAt.f {w:World} {B:Nat} {N:List Nat} {i:Nat} (h:NxAt w B N i) (j:Nat):w.frozen? ⟨B,j,none⟩=false:=Lib.frozen_of_heap h j
theorem NxAt.grow {w w':World} {B:Nat} {N:List Nat} {i:Nat} (h:NxAt w B N i) (hg:w.grownBy w' none):NxAt w' B N i:=by
 unfold NxAt at h ⊢
 rw [hg.block B ((Array.getElem?_eq_some_iff.1 h).1) (by simp)];exact h
theorem NxAt.set {w:World} {B:Nat} {N:List Nat} {i:Nat} (h:NxAt w B N i) (hi:i < N.length) {k:Nat} (hk:N[i]=k):NxAt (w.setCell ⟨B,i,none⟩ (.int .i64 (k:Int))) B N (i+1):=by
 unfold NxAt at h ⊢
 simp only [World.setCell,Array.getElem?_modify,h,if_true,Option.map_some]
 congr 2
 apply Array.ext'
 simp only [Option.isSome_none,Bool.false_eq_true,if_false]
 rw [Array.toList_setIfInBounds]
 have h1:((N.take i).map fun (k:Nat)=>Value.int .i64 (k:Int)).length=i:=by rw [List.length_map,List.length_take];omega
 have h2:N.length - i=(N.length - (i+1))+1:=by omega
 simp only []
 rw [List.set_append_right _ _ (by omega),h1,Nat.sub_self,h2,List.replicate_succ,List.set_cons_zero,List.take_succ_eq_append_getElem hi,List.map_append,List.append_assoc,hk]
 rfl
theorem gb_row0' {w wa wb:World} {row:Option Nat} (h:w.grownBy wa none) (hg:wa.grownBy wb row) (hr:∀q,row=some q->w.heap.size<=q):w.grownBy wb none :=
 ⟨hg.os.trans h.os,hg.tape.trans h.tape,hg.output.trans h.output,Nat.le_trans h.size hg.size,fun k hk hn=>(hg.block k (Nat.lt_of_lt_of_le hk h.size) (fun e=>by have:=hr k e.symm;omega)).trans (h.block k hk hn)⟩
def OfPost (M:List It) (w:World) (e:Ending) (w':World):Prop:=∃(B:Nat) (E:List It),e=.returned (.slice (some ⟨B,0,none⟩) E.length E.length)/\w.heap.size<=B/\NxAt w' B (E.map (·.k)) E.length/\w.grownBy w' none/\E.Perm M/\E.Pairwise (fun a b=>0<=cmpIt b a)
set_option maxRecDepth 100000 in
set_option maxHeartbeats 3200000 in
theorem of_any (sl:Value) (L:List Re) (name:ByteArray) (w:World) (h:ReS w sl L) (hL:L.length<=1048576) (hV:∀x ∈ L,x.ve.size < 2 ^ 62) :
  Calls Tryd.prog 4 #[sl,.string name] w (OfPost (itemsL name L 0) w):=by
 have CI:Hid (Calls Tryd.prog 10 #[sl,.string name] w (ItemsPost (itemsL name L 0) w)):=cItems sl L name w h hL hV
 have HML:Hid ((itemsL name L 0).length<=1048576):=Nat.le_trans (items_len name L 0) hL
 have HSH:Hid (∀x ∈ itemsL name L 0,x.v.pre.length<=100):=fun x hx=>(items_short name L 0 x hx).1
 obtain ⟨o0,n0,c0,rfl⟩:∃o n c,sl=.slice o n c:=by
  rcases h with ⟨rfl,-⟩ | ⟨a,cap,rfl,-⟩
  ·exact ⟨_,_,_,rfl⟩
  ·exact ⟨_,_,_,rfl⟩
 obtain ⟨M,hM⟩:∃M,itemsL name L 0=M:=⟨_,rfl⟩
 rw [hM] at CI HML HSH ⊢
 clear h hM hV
 go_enter Tryd.func4,Tryd.ntmps4
 go_wp2_with (first | (go_at_call 10;refine CI.out.mono ?_))
 rintro e w1 ⟨vs,rfl,ho,hb⟩
 have CS:Hid (Calls Tryd.prog 11 #[vs,.func (.func 12) #[] #[]] w1 fun e w'=>e=.returned (.tuple #[])/\∃E':List It,E'.Perm M/\E'.Pairwise (fun a b=>0<=cmpIt b a)/\w'.ownsRow w.heap.size 41 6 vs E'.length (E'.flatMap itC)/\w1.grownBy w' vs.ownBlock):=sortItems vs M w.heap.size w1 ho (by have:=HML.out;omega) HSH.out
 have HO:Hid (w1.ownsRow w.heap.size 41 6 vs M.length (M.flatMap itC)):=ho
 obtain ⟨ov,cv,rfl,-⟩:=its_slice (its_own ho)
 have HG:Hid (w.grownBy w1 none):=bel_gb hb
 clear ho hb
 go_wp2_with (first | (go_at_call 11;refine CS.out.mono ?_))
 rintro e w2 ⟨rfl,E,hp,hso,hrow,hg⟩
 have hEL:E.length=M.length:=hp.length_eq
 have HE:Hid (E.Perm M/\E.Pairwise (fun a b=>0<=cmpIt b a)):=⟨hp,hso⟩
 replace HG:Hid (w.grownBy w2 none):=gb_row0' HG.out hg (fun q hq=>(HO.out.lt q hq).1)
 have HML2:Hid (E.length<=1048576):=by rw [hEL];exact HML.out
 have hits:=its_own hrow
 rw [<-hEL] at hits ⊢
 have HIT:Hid (ItS w2 (.slice ov E.length cv) E):=hits
 have hov:∀i,i < E.length->∃a,ov=some a/\E.length<=cv:=by
  obtain ⟨ov',cv',hveq,hov⟩:=its_slice hits
  cases hveq
  exact hov
 clear hp hso hrow hg hEL hits HO CS CI HML HSH
 obtain ⟨N,hN⟩:∃N,E.map (·.k)=N:=⟨_,rfl⟩
 have HN:Hid (E.map (·.k)=N):=hN
 have hNl:N.length=E.length:=by rw [<-hN];simp
 have HNL:Hid (N.length=E.length):=hNl
 have hmk:=run_make_row' (P:=Tryd.prog) 23 3 (.int .i64 0) 8 Tryd.underlying23 infoInt0 rfl .i64 .i64 E.length (by have:=HML2.out;omega) (by have:=HML2.out;omega)
 clear hN hNl
 go_wp2
 obtain ⟨B,hB⟩:∃B,w2.heap.size=B:=⟨_,rfl⟩
 obtain ⟨W1,hW1⟩:∃W,w2.alloc (.cells (madeCells #[.int .i64 0] E.length) 3)=W:=⟨_,rfl⟩
 have HX0:Hid (NxAt W1 B N 0):=by
  show W1.heap[B]?=_
  rw [<-hW1,<-hB,heap_alloc_new w2,made_int]
  congr 2
  apply Array.ext'
  have:=HNL.out
  simp [List.map_const',this]
 have HGW:Hid (w2.grownBy W1 none):=by show w2.grownBy W1 none;rw [<-hW1];exact gb_alloc (gb_refl w2 none) _
 have HB:Hid (w2.heap.size<=B):=by show _<=_;omega
 have HBW:Hid (w.heap.size<=B):=Nat.le_trans HG.out.size HB.out
 try rw [hW1]
 try rw [hB]
 clear hW1 hB hmk
 go_loopw [19] (fun vi wk=>∃i:Nat,vi=.int .i64 i/\i<=E.length/\NxAt wk B N i/\w2.grownBy wk none) (fun vi _=>E.length - (intOf vi).toNat)
 case atStart=>exact ⟨0,rfl,Nat.zero_le _,HX0.out,HGW.out⟩
 case round =>
  obtain ⟨i,rfl,hi,htx,hgk⟩:=hrel
  have HX:Hid (NxAt wr B N i):=htx
  have HGK:Hid (w2.grownBy wr none):=hgk
  clear htx hgk
  have hml:=HML2.out
  by_cases hlt:i < E.length
  ·obtain ⟨a,rfl,hcv⟩:=hov i hlt
   obtain ⟨x,hx⟩:∃x,E[i]=x:=⟨_,rfl⟩
   have hat:ItAt wr (a.add (i * 6)) x:=by
    rcases HIT.out with ⟨e,-⟩ | ⟨a',cap',e,-,h3⟩
    ·cases e
    ·cases e
     rw [<-hx];exact (h3 i hlt).grow HGK.out
   have HS:Hid (∀h:i < N.length,N[i]=x.k):=fun h=>by
    have e:=HN.out
    subst e
    rw [List.getElem_map,hx]
   obtain ⟨xk,⟨z1,z2,z3,z4,z5⟩⟩:=x
   obtain ⟨e0,e1,e2,e3,e4,e5⟩:=hat
   simp only [] at e0 e1 e2 e3 e4 e5
   have hltN:i < N.length:=by have:=HNL.out;omega
   have HLN:Hid (i < N.length):=hltN
   have gA:=gb_alloc (gb_refl wr none) (.cells #[.int .i64 (xk:Int),.int .i64 z1,.int .i64 z2,.int .i64 z3,.string ⟨z4.toArray⟩,.string ⟨z5.toArray⟩] 41)
   have hc:=(HX.out.grow gA).cell hltN
   have hf:=(HX.out.grow gA).f i
   clear hx gA hltN
   go_wp2
   exact ⟨⟨i+1,by go_num,by omega,(HX.out.grow (gb_alloc (gb_refl wr none) _)).set HLN.out (HS.out HLN.out),gb_row0' (gb_trans HGK.out (gb_alloc (gb_refl wr none) _)) (gb_set (gb_refl _ (some B)) _ _) (fun q hq=>by injection hq with hq;have:=HB.out;omega)⟩,by simp [intOf];omega⟩
  ·have hil:i=E.length:=by omega
   have HXF:Hid (NxAt wr B (E.map (·.k)) E.length):=by
    show NxAt _ _ _ _
    rw [HN.out,<-hil];exact HX.out
   clear hil hi
   go_wp2
   refine bodyPost_ret (results_tmp (t:=4) rfl _ _ _) rfl ⟨B,E,rfl,HBW.out,HXF.out,gb_trans HG.out HGK.out,HE.out.1,HE.out.2⟩
open Go.RowKit
set_option linter.unusedVariables false
theorem hown_set {w:World} {base:Nat} {e:TypeId} {size:Nat} {g n cap:Nat} {xs:List Value} (h:w.ownsRow base e size (.slice (some ⟨g,0,none⟩) n cap) n xs) (o:Nat) (x:Value) (ho:o < n * size):(w.setCell ⟨g,o,none⟩ x).ownsRow base e size (.slice (some ⟨g,0,none⟩) n cap) n (xs.set o x):=by
 refine ⟨by rw [List.length_set];exact h.1,?_⟩
 rcases h.2 with ⟨h1,_⟩ | ⟨g',cap',cur,h1,hb,hg,hn,hm,hs,ht⟩
 ·cases h1
 ·cases h1
  refine Or.inr ⟨g,cap,cur.setIfInBounds o x,rfl,hb,?_,hn,hm,by simpa using hs,?_⟩
  ·simp [World.setCell,Array.getElem?_modify,hg]
  ·rw [Array.toList_setIfInBounds,List.take_set,ht]
theorem hzero_off (g k:Nat):(⟨g,0,none⟩:Addr).add k=⟨g,k,none⟩:=by
 unfold Addr.add
 split
 ·rename_i h;rw [h]
 ·simp
theorem hown_f {w:World} {base:Nat} {e:TypeId} {size gs n cap:Nat} {xs:List Value} (h:w.ownsRow base e size (.slice (some ⟨gs,0,none⟩) n cap) n xs) (o:Nat):w.frozen? ⟨gs,o,none⟩=false:=by
 rcases h.2 with ⟨h1,_⟩ | ⟨g',cap',cur,h1,hb,hg,_⟩
 ·cases h1
 ·cases h1;exact Lib.frozen_of_heap hg o
theorem cmp_nt {x y z:It} (h1:0<=cmpIt x y) (h2:0<=cmpIt y z):0<=cmpIt x z:=by
 have a1:¬ cmpIt x y < 0:=by omega
 have a2:¬ cmpIt y z < 0:=by omega
 have goal:¬ cmpIt x z < 0:=by
  rw [cmpIt_lt] at a1 a2 ⊢
  have d1:=v_anti (cutV x.v) (cutV y.v)
  have d2:=v_anti (cutV y.v) (cutV z.v)
  have d3:=v_anti (cutV x.v) (cutV z.v)
  have e1:=v_le_trans (show verC (cutV x.v) (cutV y.v)<=0 by omega) (show verC (cutV y.v) (cutV z.v)<=0 by omega)
  by_cases h0:verC (cutV x.v) (cutV z.v)=0
  ·have f1:verC (cutV x.v) (cutV y.v)=0:=by
    by_cases hh:verC (cutV x.v) (cutV y.v) < 0
    ·have:=v_lt_le hh (show verC (cutV y.v) (cutV z.v)<=0 by omega)
     omega
    ·omega
   have f2:verC (cutV y.v) (cutV z.v)=0:=by
    by_cases hh:verC (cutV y.v) (cutV z.v) < 0
    ·have:=v_le_lt (show verC (cutV x.v) (cutV y.v)<=0 by omega) hh
     omega
    ·omega
   omega
  ·omega
 omega
theorem cmp_old {x y:It} (h:verC (cutV x.v) (cutV y.v)<=0) (hk:y.k < x.k):0<=cmpIt x y:=by
 have a:¬ cmpIt x y < 0:=by
  rw [cmpIt_lt]
  have d:=v_anti (cutV x.v) (cutV y.v)
  omega
 omega
theorem cmp_new {x y:It} (h:0 < verC (cutV x.v) (cutV y.v)):0<=cmpIt y x:=by
 have a:¬ cmpIt y x < 0:=by
  rw [cmpIt_lt]
  omega
 omega
theorem perm_one {α:Type} (r:α->α->Prop):∀(A B:List α),A.Perm B->A.Pairwise r->B.Pairwise r->(∀a ∈ A,∀b ∈ A,r a b->r b a->a=b)->A=B
 | [],B,hp,_,_,_=>(List.Perm.nil_eq hp)
 | a :: A,[],hp,_,_,_=>by have:=hp.length_eq;simp at this
 | a :: A,b :: B,hp,hA,hB,hu=>by
  have hab:a=b:=by
   have h1:a ∈ b :: B:=hp.subset (by simp)
   have h2:b ∈ a :: A:=hp.symm.subset (by simp)
   rcases List.mem_cons.1 h1 with e | h1
   ·exact e
   ·rcases List.mem_cons.1 h2 with e | h2
    ·exact e.symm
    ·exact hu a (by simp) b (by simp [h2]) ((List.pairwise_cons.1 hA).1 b h2) ((List.pairwise_cons.1 hB).1 a h1)
  subst hab
  have hp':A.Perm B:=(List.perm_cons a).1 hp
  rw [perm_one r A B hp' (List.pairwise_cons.1 hA).2 (List.pairwise_cons.1 hB).2 (fun x hx y hy=>hu x (by simp [hx]) y (by simp [hy]))]
theorem items_lo (name:ByteArray):∀(L:List Re) (k:Nat),∀x ∈ itemsL name L k,k<=x.k
 | [],k,x,hx=>by simp [itemsL] at hx
 | y :: r,k,x,hx=>by
  unfold itemsL at hx
  split at hx
  ·rcases List.mem_cons.1 hx with rfl | hx
   ·exact Nat.le_refl _
   ·have:=items_lo name r (k+1) x hx;omega
  ·have:=items_lo name r (k+1) x hx;omega
theorem items_key (name:ByteArray):∀(L:List Re) (k:Nat),∀x ∈ itemsL name L k,∀y ∈ itemsL name L k,x.k=y.k->x=y
 | [],k,x,hx,y,hy,e=>by simp [itemsL] at hx
 | z :: r,k,x,hx,y,hy,e=>by
  unfold itemsL at hx hy
  split at hx
  ·rename_i h
   rw [if_pos h] at hy
   rcases List.mem_cons.1 hx with rfl | hx
   ·rcases List.mem_cons.1 hy with rfl | hy
    ·rfl
    ·have:=items_lo name r (k+1) y hy;simp only [] at e;omega
   ·rcases List.mem_cons.1 hy with rfl | hy
    ·have:=items_lo name r (k+1) x hx;simp only [] at e;omega
    ·exact items_key name r (k+1) x hx y hy e
  ·rename_i h
   rw [if_neg h] at hy
   exact items_key name r (k+1) x hx y hy e
theorem order_one (name:ByteArray) (L:List Re) (E D:List It) (h1:E.Perm (itemsL name L 0)) (h2:D.Perm (itemsL name L 0)) (s1:E.Pairwise (fun a b=>0<=cmpIt b a)) (s2:D.Pairwise (fun a b=>0<=cmpIt b a)):E=D:=by
 refine perm_one _ E D (h1.trans h2.symm) s1 s2 (fun a ha b hb r1 r2=>?_)
 have c1:¬ cmpIt b a < 0:=by omega
 have c2:¬ cmpIt a b < 0:=by omega
 rw [cmpIt_lt] at c1 c2
 have d:=v_anti (cutV a.v) (cutV b.v)
 exact items_key name L 0 a (h1.subset ha) b (h1.subset hb) (by omega)
theorem place_sorted {A B:List It} {x:It} (h:(A++B).Pairwise (fun a b=>0<=cmpIt b a)) (hB:∀b ∈ B,0 < verC (cutV x.v) (cutV b.v)) (hA:∀A0 y,A=A0++[y]->verC (cutV x.v) (cutV y.v)<=0/\y.k < x.k):(A++x :: B).Pairwise (fun a b=>0<=cmpIt b a):=by
 rw [List.pairwise_append] at h ⊢
 obtain ⟨p1,p2,p3⟩:=h
 have ax:∀a ∈ A,0<=cmpIt x a:=by
  intro a ha
  rcases List.eq_nil_or_concat A with e | ⟨A0,y,e⟩
  ·rw [e] at ha;simp at ha
  ·rw [List.concat_eq_append] at e
   have hy:=hA A0 y e
   have hxy:=cmp_old hy.1 hy.2
   rw [e] at ha p1
   rcases List.mem_append.1 ha with ha | ha
   ·exact cmp_nt hxy ((List.pairwise_append.1 p1).2.2 a ha y (by simp))
   ·rw [List.mem_singleton.1 ha];exact hxy
 refine ⟨p1,List.pairwise_cons.2 ⟨fun b hb=>cmp_new (hB b hb),p2⟩,fun a ha b hb=>?_⟩
 rcases List.mem_cons.1 hb with rfl | hb
 ·exact ax a ha
 ·exact p3 a ha b hb
end Go.Proofs.YtaeonidcngjeiaaDoor
