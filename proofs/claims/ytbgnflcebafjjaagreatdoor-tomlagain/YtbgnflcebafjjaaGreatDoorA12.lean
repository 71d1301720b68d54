import Derived.Test.YtbgnflcebafjjaaGreatDoorA09
import Derived.Test.YtbgnflcebafjjaaGreatDoorA11
import Derived.Test.YtbgnflcebafjjaaGreatDoorA04
import Derived.Shelf.SlSortCmp.NoneTotal
import Derived.Test.YtbgnflcebafjjaaGreatDoorProg
import Derived.Shelf.Small.Strs
import Derived.Test.YtbgnflcebafjjaaGreatDoorA01
import Derived.Test.YtbgnflcebafjjaaGreatDoorA05
import Derived.BigQuiet
import Derived.Shelf.Strings.BuilderK
import Derived.Test.YtbgnflcebafjjaaGreatDoorA03
import Derived.Test.YtbgnflcebafjjaaGreatDoorA02
import Derived.Test.YtbgnflcebafjjaaGreatDoorA06
import Derived.Test.YtbgnflcebafjjaaGreatDoorA07
import Derived.Shelf.Small.Wraps
namespace Go.Proofs.YtbgnflcebafjjaaGreatDoor
open Go.RowKit Go.Maps Go.WideMaps Go.Joins
set_option linter.unusedVariables false
def kidI (ns:List Tn) (t:Nat) (k:List UInt8):Int:=match kidO ns t k with | some q=>(q:Int) | none=>-1
theorem find_at {α:Type} (p:α->Bool):∀(l:List α) (i:Nat) (hi:i < l.length),(∀j (hj:j < l.length),j < i->p l[j]=false)->p l[i]=true->l.find? p=some l[i]
 | x :: l,0,_,_,h=>by simp [show p x=true from h]
 | x :: l,i+1,hi,ha,h=>by
  have h0:p x=false:=ha 0 (by simp) (by omega)
  rw [List.find?_cons,h0]
  exact find_at p l i (by simpa using hi) (fun j hj hji=>ha (j+1) (by simpa using hj) (by omega)) h
theorem find_no {α:Type} (p:α->Bool):∀(l:List α),(∀j (hj:j < l.length),p l[j]=false)->l.find? p=none
 | [],_=>rfl
 | x :: l,h=>by
  have h0:p x=false:=h 0 (by simp)
  rw [List.find?_cons,h0]
  exact find_no p l fun j hj=>h (j+1) (by simpa using hj)
set_option maxRecDepth 100000 in
set_option maxHeartbeats 1600000 in
theorem dKid_any (w:World) (B P:Nat) (ns:List Tn) (m:Nat) (own:List Nat) (N c:Nat) (OV:Value) (xs:List Value) (ks:Nat->Value) (t:Nat) (k:List UInt8) (h:DtD w B P ns m own (.slice (some ⟨N,0,none⟩) ns.length c) OV xs ks) (W:WF ns own) (ht:t < ns.length) (hn:ns.length<=1000000) :
  Calls Tryz.prog 56 #[.slice (some ⟨N,0,none⟩) ns.length c,.int .i64 (t:Nat),.string ⟨k.toArray⟩] w fun e w'=>e=.returned (.int .i64 (kidI ns t k))/\w'=w:=by
 obtain ⟨-,-,-,-,e4,-,-⟩:=h.node t ht
 have hrow:=h.kid t ht
 obtain ⟨o,cp,hv⟩:=own_slice hrow
 rw [hv] at e4 hrow
 have hks:ksAt ns t=ns[t].ks:=by unfold ksAt;rw [List.getElem?_eq_getElem ht]
 have hlen:ns[t].ks.length<=1000000:=by have:=W.len t;rw [hks] at this;omega
 have HKI:Hid (kidI ns t k=match (ns[t].ks.find? (kyB ns k)) with | some q=>(q:Int) | none=>-1):=by
  show _=_
  unfold kidI
  rw [kidO_eq,hks]
 have HC:Hid (∀i (hi:i < ns[t].ks.length),∃g,o=some ⟨g,0,none⟩/\w.cell? ⟨g,i,none⟩=some (.int .i64 (ns[t].ks[i]:Nat))):=fun i hi=>by
  rcases hrow.2 with ⟨e1,e2⟩ | ⟨g,cap,cur,e1,_⟩
  ·omega
  ·injection e1 with e1 _ _
   refine ⟨g,e1,?_⟩
   have:=hrow.cells (g:=g) (by rw [e1];rfl) i (.int .i64 (ns[t].ks[i]:Nat)) (by rw [List.getElem?_map,List.getElem?_eq_getElem hi];rfl)
   rw [zero_off] at this
   exact this
 have HL:Hid (∀i (hi:i < ns[t].ks.length),ns[t].ks[i] < ns.length):=fun i hi=>W.lt t _ (by rw [hks];exact List.getElem_mem hi)
 have HN:Hid (∀q (hq:q < ns.length),w.cell? ⟨N,q * 6+1,none⟩=some (.string ⟨ns[q].ky.toArray⟩)/\kyB ns k q=decide (ns[q].ky=k)):=fun q hq=>⟨(h.node q hq).2.1,by unfold kyB;rw [List.getElem?_eq_getElem hq]⟩
 obtain ⟨K,hK⟩:∃K,ns[t].ks=K:=⟨_,rfl⟩
 rw [hK] at HKI HC HL hlen e4
 obtain ⟨r,hr⟩:∃r,kidI ns t k=r:=⟨_,rfl⟩
 rw [hr] at HKI ⊢
 obtain ⟨L,hL⟩:∃L,ns.length=L:=⟨_,rfl⟩
 have HLL:Hid (ns.length=L):=hL
 obtain ⟨M,hM⟩:∃M,K.length=M:=⟨_,rfl⟩
 have HMM:Hid (K.length=M):=hM
 rw [hL] at ht hn ⊢
 rw [hM] at hlen e4
 clear hrow hv hks h W hK hr hL hM
 go_enter Tryz.func56,Tryz.ntmps56
 go_wp2
 go_loopw [7] (fun vi wr=>∃i:Nat,vi=.int .i64 (i:Nat)/\i<=M/\(∀j (hj:j < K.length),j < i->kyB ns k K[j]=false)/\w=wr) (fun vi _=>M - (intOf vi).toNat)
 case atStart=>exact ⟨0,rfl,by omega,fun j hj h=>absurd h (by omega),rfl⟩
 case round =>
  obtain ⟨i,rfl,hi,hpre,rfl⟩:=hrel
  have HPRE:Hid (∀j (hj:j < K.length),j < i->kyB ns k K[j]=false):=hpre
  clear hpre
  by_cases hlt:i < M
  ·have hlt':i < K.length:=by rw [HMM.out];exact hlt
   obtain ⟨g,hg,cg⟩:=HC.out i hlt'
   have hq:=HL.out i hlt'
   have hkb:=HN.out K[i] hq
   obtain ⟨q,hqe⟩:∃q,K[i]=q:=⟨_,rfl⟩
   have HQE:Hid (K[i]=q):=hqe
   rw [HLL.out] at hq
   rw [hqe] at cg hq
   have hq':q < ns.length:=by rw [HLL.out];exact hq
   have HKB:Hid (w.cell? ⟨N,q * 6+1,none⟩=some (.string ⟨(ns[q]'hq').ky.toArray⟩)/\kyB ns k q=decide ((ns[q]'hq').ky=k)):=HN.out q hq'
   obtain ⟨y,hy⟩:∃y,(ns[q]'hq').ky=y:=⟨_,rfl⟩
   rw [hy] at HKB
   have cy:=HKB.out.1
   have HKY:Hid (kyB ns k q=decide (y=k)):=HKB.out.2
   subst hg
   clear hkb hqe hy HKB
   by_cases hyk:y=k
   ·have hse:(y == k)=true:=by simpa using hyk
    have HRR:Hid (r=(q:Int)):=by
     show r=_
     rw [HKI.out,find_at (kyB ns k) K i (by rw [HMM.out];exact hlt) HPRE.out (by rw [HQE.out,HKY.out,decide_eq_true hyk]),HQE.out]
    clear hyk
    go_wp2
    go_ret
    exact ⟨ret_int HRR.out.symm,rfl⟩
   ·have hse:(y == k)=false:=by simpa using hyk
    have HP2:Hid (∀j (hj:j < K.length),j < i+1->kyB ns k K[j]=false):=fun j hj hji=>by
     by_cases hj':j < i
     ·exact HPRE.out j hj hj'
     ·have e:j=i:=by omega
      subst e
      rw [HQE.out,HKY.out,decide_eq_false hyk]
    clear hyk
    go_wp2
    refine ⟨⟨i+1,by go_num,by omega,HP2.out,by first | trivial | rfl⟩,?_⟩
    simp [intOf]
    omega
  ·have hgeM:M<=i:=by omega
   have HRR:Hid (r=-1):=by
    show r=_
    rw [HKI.out,find_no (kyB ns k) K fun j hj=>HPRE.out j hj (by rw [HMM.out] at hj;omega)]
   go_wp2
   go_ret
   exact ⟨ret_int HRR.out.symm,rfl⟩
def NuS (w:World) (v:Value) (l:List Nat):Prop:=∃o c,v=.slice o l.length c/\∀i (hi:i < l.length),∃g,o=some ⟨g,0,none⟩/\w.cell? ⟨g,i,none⟩=some (.int .i64 (l[i]:Nat))
theorem NuS.of {w:World} {B:Nat} {v:Value} {l:List Nat} (h:w.ownsRow B 3 1 v l.length (l.map fun q=>.int .i64 (q:Nat))):NuS w v l:=by
 obtain ⟨o,c,hv⟩:=own_slice h
 refine ⟨o,c,hv,fun i hi=>?_⟩
 rw [hv] at h
 rcases h.2 with ⟨e1,e2⟩ | ⟨g,cap,cur,e1,_⟩
 ·omega
 ·injection e1 with e1 _ _
  refine ⟨g,e1,?_⟩
  have:=h.cells (g:=g) (by rw [e1];rfl) i (.int .i64 (l[i]:Nat)) (by rw [List.getElem?_map,List.getElem?_eq_getElem hi];rfl)
  rw [zero_off] at this
  exact this
def NoS (w:World) (v:Value) (ns:List Tn):Prop:=∃o c,v=.slice o ns.length c/\∀i (hi:i < ns.length),∃g k,o=some ⟨g,0,none⟩/\w.cell? ⟨g,i * 6,none⟩=some (.int .i64 ns[i].kd)/\w.cell? ⟨g,i * 6+1,none⟩=some (.string ⟨ns[i].ky.toArray⟩)/\w.cell? ⟨g,i * 6+2,none⟩=some (.string ⟨ns[i].tx.toArray⟩)/\w.cell? ⟨g,i * 6+3,none⟩=some (.int .i64 ns[i].nu)/\w.cell? ⟨g,i * 6+4,none⟩=some k/\w.cell? ⟨g,i * 6+5,none⟩=some (.int .i64 (ns[i].pl:Nat))/\NuS w k ns[i].ks
theorem NuS.grow {w w':World} {v:Value} {l:List Nat} (h:NuS w v l) (hg:w.grownBy w' none):NuS w' v l:=by
 obtain ⟨o,c,hv,hc⟩:=h
 refine ⟨o,c,hv,fun i hi=>?_⟩
 obtain ⟨g,h1,h2⟩:=hc i hi
 exact ⟨g,h1,hg.cell h2 (by simp)⟩
end Go.Proofs.YtbgnflcebafjjaaGreatDoor
namespace Go.Proofs
open Go.Shelf
def Tryz.laysSort_ren:Go.Shelf.Ren:=⟨fun | 6=>87 | 14=>110 | 15=>111 | 20=>126 | 21=>127 | 22=>128 | 23=>129 | 24=>130 | 25=>131 | 26=>132 | 27=>133 | 28=>134 | 29=>135 | 46=>145 | 47=>146 | 48=>147 | 49=>148 | 50=>149 | 57=>163 | n=>n,fun | 22=>31 | 23=>154 | 24=>3 | 25=>156 | 26=>157 | 27=>31 | 28=>154 | 29=>156 | 30=>157 | 37=>173 | 38=>174 | 39=>175 | 40=>91 | 41=>173 | 42=>91 | 44=>184 | 45=>185 | 46=>186 | 47=>187 | 48=>188 | 49=>189 | 50=>190 | 51=>191 | 52=>192 | 53=>193 | 54=>194 | 55=>195 | 56=>184 | 57=>187 | 58=>188 | 59=>189 | 60=>191 | 66=>201 | 67=>202 | 68=>203 | 69=>204 | 70=>205 | 71=>206 | 72=>204 | 73=>206 | 76=>223 | 77=>224 | 78=>225 | 79=>225 | 81=>85 | 82=>240 | 83=>241 | 84=>242 | 85=>243 | 86=>244 | 87=>90 | 88=>246 | 89=>101 | 90=>247 | 91=>126 | 92=>248 | 93=>249 | 94=>250 | 95=>251 | 96=>93 | n=>n,fun n=>n⟩
theorem Tryz.laysSort:Go.Proofs.SlLaysF.n6 Tryz.prog Tryz.laysSort_ren:={
 mixed:=by kernel_rfl
 f6:=⟨ "slices.SortFunc[[]int,int]",by decide,Tryz.func87.trans (congrArg some (by kernel_rfl))⟩
 f14:=⟨ "slices.pdqsortCmpFunc[int]",by decide,Tryz.func110.trans (congrArg some (by kernel_rfl))⟩
 f15:=Tryz.func111.trans (congrArg some (by kernel_rfl))
 f20:=⟨ "slices.insertionSortCmpFunc[int]",by decide,Tryz.func126.trans (congrArg some (by kernel_rfl))⟩
 f21:=⟨ "slices.heapSortCmpFunc[int]",by decide,Tryz.func127.trans (congrArg some (by kernel_rfl))⟩
 f22:=⟨ "slices.breakPatternsCmpFunc[int]",by decide,Tryz.func128.trans (congrArg some (by kernel_rfl))⟩
 f23:=⟨ "slices.choosePivotCmpFunc[int]",by decide,Tryz.func129.trans (congrArg some (by kernel_rfl))⟩
 f24:=⟨ "slices.reverseRangeCmpFunc[int]",by decide,Tryz.func130.trans (congrArg some (by kernel_rfl))⟩
 f25:=⟨ "slices.partialInsertionSortCmpFunc[int]",by decide,Tryz.func131.trans (congrArg some (by kernel_rfl))⟩
 f26:=⟨ "slices.partitionEqualCmpFunc[int]",by decide,Tryz.func132.trans (congrArg some (by kernel_rfl))⟩
 f27:=⟨ "slices.partitionCmpFunc[int]",by decide,Tryz.func133.trans (congrArg some (by kernel_rfl))⟩
 f28:=Tryz.func134.trans (congrArg some (by kernel_rfl))
 f29:=Tryz.func135.trans (congrArg some (by kernel_rfl))
 f46:=⟨ "slices.siftDownCmpFunc[int]",by decide,Tryz.func145.trans (congrArg some (by kernel_rfl))⟩
 f47:=Tryz.func146.trans (congrArg some (by kernel_rfl))
 f48:=Tryz.func147.trans (congrArg some (by kernel_rfl))
 f49:=⟨ "slices.medianAdjacentCmpFunc[int]",by decide,Tryz.func148.trans (congrArg some (by kernel_rfl))⟩
 f50:=⟨ "slices.medianCmpFunc[int]",by decide,Tryz.func149.trans (congrArg some (by kernel_rfl))⟩
 f57:=⟨ "slices.order2CmpFunc[int]",by decide,Tryz.func163.trans (congrArg some (by kernel_rfl))⟩
 t0:=Tryz.underlying0
 a0:=Tryz.isAgg0
 z0:=Tryz.sizeOf0
 v0:=Tryz.zeroValue0
 t3:=Tryz.underlying3
 a3:=Tryz.isAgg3
 z3:=Tryz.sizeOf3
 v3:=Tryz.zeroValue3
 t4:=Tryz.underlying4
 a4:=Tryz.isAgg4
 z4:=Tryz.sizeOf4
 v4:=Tryz.zeroValue4
 t5:=Tryz.underlying5
 a5:=Tryz.isAgg5
 z5:=Tryz.sizeOf5
 v5:=Tryz.zeroValue5
 t9:=Tryz.underlying9
 a9:=Tryz.isAgg9
 z9:=Tryz.sizeOf9
 v9:=Tryz.zeroValue9
 t22:=Tryz.underlying31
 a22:=Tryz.isAgg31
 z22:=Tryz.sizeOf31
 v22:=Tryz.zeroValue31
 a24:=Tryz.isAgg3
 z24:=Tryz.sizeOf3
 t25:=Tryz.underlying156
 a25:=Tryz.isAgg156
 z25:=Tryz.sizeOf156
 v25:=Tryz.zeroValue156
 t39:=Tryz.underlying175
 a39:=Tryz.isAgg175
 z39:=Tryz.sizeOf175
 v39:=Tryz.zeroValue175
 t45:=Tryz.underlying185
 a45:=Tryz.isAgg185
 z45:=Tryz.sizeOf185
 v45:=Tryz.zeroValue185
 t46:=Tryz.underlying186
 a46:=Tryz.isAgg186
 z46:=Tryz.sizeOf186
 v46:=Tryz.zeroValue186
 t50:=Tryz.underlying190
 a50:=Tryz.isAgg190
 z50:=Tryz.sizeOf190
 v50:=Tryz.zeroValue190
 t53:=Tryz.underlying193
 a53:=Tryz.isAgg193
 z53:=Tryz.sizeOf193
 v53:=Tryz.zeroValue193
 t55:=Tryz.underlying195
 a55:=Tryz.isAgg195
 z55:=Tryz.sizeOf195
 v55:=Tryz.zeroValue195
 t66:=Tryz.underlying201
 a66:=Tryz.isAgg201
 z66:=Tryz.sizeOf201
 v66:=Tryz.zeroValue201
 t70:=Tryz.underlying205
 a70:=Tryz.isAgg205
 z70:=Tryz.sizeOf205
 v70:=Tryz.zeroValue205
 t76:=Tryz.underlying223
 a76:=Tryz.isAgg223
 z76:=Tryz.sizeOf223
 v76:=Tryz.zeroValue223
 t77:=Tryz.underlying224
 a77:=Tryz.isAgg224
 z77:=Tryz.sizeOf224
 v77:=Tryz.zeroValue224 }
end Go.Proofs
namespace Go.Proofs
open Go.Shelf
def Tryz.lays106_ren:Go.Shelf.Ren:=⟨fun | 106=>89 | 213=>112 | 265=>136 | n=>n,fun | 22=>41 | 27=>155 | 28=>31 | 31=>108 | 34=>54 | 35=>157 | 37=>74 | 40=>212 | 41=>71 | 42=>158 | 43=>156 | 46=>175 | 47=>174 | 48=>200 | 49=>258 | 51=>193 | 52=>192 | 53=>195 | 54=>194 | 55=>177 | 69=>87 | 70=>73 | 71=>75 | 72=>76 | 73=>79 | 74=>42 | 75=>43 | 76=>118 | 77=>119 | 78=>121 | 79=>180 | 80=>85 | 81=>90 | 83=>127 | 84=>196 | 85=>218 | 86=>219 | 94=>125 | 104=>34 | 105=>181 | 106=>182 | 108=>233 | 111=>91 | 112=>159 | 114=>211 | 119=>213 | 126=>198 | 127=>126 | 128=>199 | 131=>190 | 137=>214 | 138=>215 | 139=>216 | 143=>235 | 144=>236 | 145=>237 | 164=>93 | 165=>176 | 167=>217 | 168=>220 | 169=>221 | 170=>222 | 171=>207 | 172=>208 | 173=>209 | 174=>210 | 175=>229 | 176=>230 | 182=>185 | 183=>186 | 209=>231 | 210=>232 | 211=>226 | 212=>227 | 213=>228 | 214=>234 | 218=>201 | 219=>202 | 220=>203 | 222=>205 | 228=>223 | 229=>224 | 232=>238 | 233=>239 | 238=>240 | 239=>241 | 240=>242 | 241=>243 | 242=>244 | 243=>246 | 244=>101 | 245=>247 | 246=>248 | 247=>249 | 248=>250 | 249=>251 | n=>n,fun | 1=>6 | 3=>7 | 4=>8 | 15=>10 | 16=>11 | 17=>9 | 18=>12 | 19=>13 | n=>n⟩
theorem Tryz.lays106:Go.Proofs.Lays.n106 Tryz.prog Tryz.lays106_ren:={
 mixed:=by kernel_rfl
 f106:=Tryz.func89.trans (congrArg some (by kernel_rfl))
 f213:=Tryz.func112.trans (congrArg some (by kernel_rfl))
 f265:=Tryz.func136.trans (congrArg some (by kernel_rfl))
 t3:=Tryz.underlying3
 a3:=Tryz.isAgg3
 z3:=Tryz.sizeOf3
 v3:=Tryz.zeroValue3
 t9:=Tryz.underlying9
 a9:=Tryz.isAgg9
 z9:=Tryz.sizeOf9
 v9:=Tryz.zeroValue9 }
end Go.Proofs
namespace Go.Proofs.YtbgnflcebafjjaaGreatDoor
open Go.RowKit Go.Maps Go.WideMaps Go.Joins Go.Shelf Go.Sort
set_option linter.unusedVariables false
theorem ints_one (l:List Nat):∀u ∈ l.map (fun q:Nat=>Value.int .i64 (q:Nat)),u.oneCell'=true:=by
 intro u hu
 obtain ⟨b,-,rfl⟩:=List.mem_map.1 hu
 rfl
theorem eq_nil_yes (w:World) (c:Nat):(binOp .eql 31 (.slice none 0 c) (.slice none 0 0)).run Tryz.prog w=.ok (.bool true) w:=by
 have h:∀d:Nat,(Op.equalIn (d+1) 31 (.slice none 0 c) (.slice none 0 0)).run Tryz.prog w=.ok true w:=fun d=>by
  simp [Op.equalIn,run_underlying Tryz.underlying31]
 simp only [binOp]
 simp [Op.equal,Op.maxDepth,h 9999]
theorem eq_nil_no (w:World) (a:Addr) (n c:Nat):(binOp .eql 31 (.slice (some a) n c) (.slice none 0 0)).run Tryz.prog w=.ok (.bool false) w:=by
 have h:∀d:Nat,(Op.equalIn (d+1) 31 (.slice (some a) n c) (.slice none 0 0)).run Tryz.prog w=.ok false w:=fun d=>by
  simp [Op.equalIn,run_underlying Tryz.underlying31]
 simp only [binOp]
 simp [Op.equal,Op.maxDepth,h 9999]
set_option maxRecDepth 100000 in
set_option maxHeartbeats 1600000 in
theorem sClone (v:Value) (l:List Nat) (w:World) (h:NuS w v l) (hl:l.length<=1000000) :
  Calls Tryz.prog 86 #[v] w fun e w'=>∃v',e=.returned v'/\w'.ownsRow w.heap.size 3 1 v' l.length (l.map fun q=>.int .i64 (q:Nat))/\w.grownBy w' none:=by
 obtain ⟨o,c,rfl,hc⟩:=h
 obtain ⟨j0,hj0,hjj⟩:=Option.map_eq_some_iff.1 infoInt
 simp only [Prod.mk.injEq] at hjj
 obtain ⟨hy0,hy1,hyb⟩:=hjj
 cases o with
 | none =>
  have hl0:l=[]:=by
   cases l with
   | nil=>rfl
   | cons a r =>
    obtain ⟨g,e,-⟩:=hc 0 (by simp)
    cases e
  subst hl0
  clear hc
  have hq:=eq_nil_yes w c
  go_enter Tryz.func86,Tryz.ntmps86
  go_wp2
  refine bodyPost_ret (results_tmp (t:=2) rfl _ _ _) rfl ?_
  exact ⟨_,rfl,World.ownsRow_nil _ _ _ _,gb_refl _ _⟩
 | some ad =>
  have hnews:∀j u,(l.map fun q:Nat=>Value.int .i64 (q:Nat))[j]?=some u->w.cell? (ad.add j)=some u:=fun j u hu=>by
   obtain ⟨x,hx,rfl⟩:=List.getElem?_map ▸ hu |> Option.map_eq_some_iff.1
   obtain ⟨hj,hx⟩:=List.getElem?_eq_some_iff.1 hx
   obtain ⟨g,e,hcell⟩:=hc j hj
   cases e
   rw [zero_off,hcell,hx]
  have hga:w.grownBy (w.alloc (.cells #[] 3)) none:=World.grownBy_alloc _ _ none
  have hnews2:∀j u,(l.map fun q:Nat=>Value.int .i64 (q:Nat))[j]?=some u->(w.alloc (.cells #[] 3)).cell? (ad.add j)=some u:=fun j u hu=>hga.cell (hnews j u hu) (by simp)
  have hown0:(w.alloc (.cells #[] 3)).ownsRow w.heap.size 3 1 (.slice (some ⟨w.heap.size,0,none⟩) 0 0) 0 []:=⟨rfl,Or.inr ⟨w.heap.size,0,#[],rfl,Nat.le_refl _,heap_alloc_new w _,Nat.le_refl _,by unfold maxLen;omega,rfl,rfl⟩⟩
  have hone:=ints_one l
  have hnl:(l.map fun q:Nat=>Value.int .i64 (q:Nat)).length=l.length * 1:=by simp
  obtain ⟨m,hm⟩:∃m,l.length=m:=⟨_,rfl⟩
  have HM:Hid (l.length=m):=hm
  rw [hm] at hnl hl ⊢
  have hq:=eq_nil_no w ad m c
  clear hc hnews hm
  go_enter Tryz.func86,Tryz.ntmps86
  go_wp2_with (first | (at_builtin;refine wpList_append_own _ rfl _ _ 31 rfl w.heap.size 3 j0 (.int .i64 0) 1 8 Tryz.underlying31 hj0 hy0 hy1 hyb rfl (by decide) _ 0 [] rfl hown0 ad m c (l.map fun q:Nat=>Value.int .i64 (q:Nat)) rfl hnl hnews2 hone (by unfold maxLen;omega) (by omega) (by simp) ?_;intro v' w2 hown2 hg2 hnil2))
  refine bodyPost_ret (results_tmp (t:=2) rfl _ _ _) rfl ?_
  refine ⟨_,rfl,?_,?_⟩
  ·rw [Nat.zero_add,List.nil_append] at hown2
   exact hown2
  ·exact gb_row (gb_trans (gb_refl w none) hga) hg2 (fun b hb=>by cases hb;exact Nat.le_refl _)
set_option maxRecDepth 100000 in
set_option maxHeartbeats 1600000 in
theorem sCmp (W:World) (bx p N c n a b:Nat) (ka kb:ByteArray) (hbx:W.cell? ⟨bx,0,none⟩=some (.pointer (some ⟨p,0,none⟩))) (hp:W.cell? ⟨p,0,none⟩=some (.slice (some ⟨N,0,none⟩) n c)) (ha:W.cell? ⟨N,a * 6+1,none⟩=some (.string ka)) (hb:W.cell? ⟨N,b * 6+1,none⟩=some (.string kb)) (han:a < n) (hbn:b < n) (hn:n<=1000000) :
  Calls Tryz.prog 88 #[.int .i64 (a:Nat),.int .i64 (b:Nat),.pointer (some ⟨bx,0,none⟩)] W fun e w'=>e=.returned (.int .i64 (cb ka.data.toList kb.data.toList))/\∃q,w'=W.drewN q:=by
 have CC:Hid (∀w,Calls Tryz.prog 89 #[.string ka,.string kb] w fun e w'=>e=.returned (.int .i64 (cb ka.data.toList kb.data.toList))/\w'=w):=fun w=>Any.strings_Compare Tryz.lays106 ka kb w
 obtain ⟨z,hz⟩:∃z,cb ka.data.toList kb.data.toList=z:=⟨_,rfl⟩
 rw [hz] at CC ⊢
 clear hz
 have hai:(a:Int) < (n:Int):=by omega
 have hbi:(b:Int) < (n:Int):=by omega
 go_enter Tryz.func88,Tryz.ntmps88
 go_wp2
 go_quiet (first | (go_at_call 89;exact Calls.quiet_of_same (CC.out _)))
 go_wp2
 go_ret
 exact ⟨rfl,_,rfl⟩
theorem sortInts (ve:Value) (E:List Nat) (base n bx:Nat) (w:World) (f:Nat->List UInt8) (hown:w.ownsRow base 3 1 ve E.length (E.map fun q=>.int .i64 (q:Nat))) (hlen:E.length<=1000000) (hE:∀q ∈ E,q < n+1)
  (hC:∀W:World,(∀a:Addr,ve.ownBlock ≠ some a.block->a.block < w.heap.size->W.cell? a=w.cell? a)->∀x y:Fin (n+1),Calls Tryz.prog 88 #[.int .i64 (x.val:Nat),.int .i64 (y.val:Nat),.pointer (some ⟨bx,0,none⟩)] W fun e w'=>e=.returned (.int .i64 (cb (f x.val) (f y.val)))/\∃q,w'=W.drewN q) :
  Calls Tryz.prog 87 #[ve,.func (.func 88) #[] #[.pointer (some ⟨bx,0,none⟩)]] w fun e w'=>e=.returned (.tuple #[])/\∃E':List Nat,E'.Perm E/\(E'.Pairwise fun a b=>cb (f a) (f b)<=0)/\w'.ownsRow base 3 1 ve E'.length (E'.map fun q=>.int .i64 (q:Nat))/\w.grownBy w' ve.ownBlock:=by
 obtain ⟨D,hD⟩:∃D:Array (Fin (n+1)),D.toList.map (·.val)=E:=⟨(E.attach.map fun e=>(⟨e.1,hE e.1 e.2⟩:Fin (n+1))).toArray,by simp⟩
 have hDs:D.size=E.length:=by rw [<-hD];simp
 have hown':=hown
 rcases hown.2 with ⟨rfl,h0⟩ | ⟨g,cap,cur,rfl,hb,hg,hn,hm,hs,ht⟩
 ·refine (show Calls Tryz.prog 87 #[.slice none 0 0,.func (.func 88) #[] #[.pointer (some ⟨bx,0,none⟩)]] w _ from AnyF.slices_SortFunc_none { Tryz.laysSort with } none 0 (.func (.func 88) #[] #[.pointer (some ⟨bx,0,none⟩)]) w).mono ?_
  rintro e w' ⟨rfl,rfl⟩
  have hE0:E=[]:=List.eq_nil_of_length_eq_zero h0
  subst hE0
  exact ⟨rfl,[],List.Perm.refl _,List.Pairwise.nil,hown',⟨rfl,rfl,rfl,Nat.le_refl _,fun _ _ _=>rfl⟩⟩
 ·have hgl:g < w.heap.size:=blk_lt hg
  have hH:Holds (fun x:Fin (n+1)=>Value.int .i64 (x.val:Nat)) w g 0 D:=by
   intro j hj
   refine ⟨?_,Lib.frozen_of_heap hg _⟩
   have hjE:j < E.length:=by omega
   have h1:=hown.cells (g:=g) rfl j (.int .i64 (E[j]:Nat)) (by rw [List.getElem?_map,List.getElem?_eq_getElem hjE];rfl)
   rw [zero_off] at h1
   rw [Nat.zero_add,h1,getElem!_pos D j hj]
   have e:E[j]=D[j].val:=by
    subst hD
    simp
   rw [e]
  have hcmp:CmpLays1 Tryz.prog 88 #[.pointer (some ⟨bx,0,none⟩)] (fun x:Fin (n+1)=>Value.int .i64 (x.val:Nat)) (fun x y=>cb (f x.val) (f y.val)) g 0 D.size w:=by
   intro m os dk hdk x y
   refine (hC _ (fun a h1 h2=>World.cell?_of_block (by
    show ((w.heap.modify g _)++os)[a.block]?=_
    rw [Array.getElem?_append_left (by simpa using h2),Array.getElem?_modify,if_neg (fun e=>h1 (by rw [<-e];rfl))])) x y).mono ?_
   rintro e w' ⟨rfl,q,rfl⟩
   exact ⟨rfl,q,#[],by rw [grow_empty]⟩
  have eg:∀args w,(callFunc 88 args).run Tryz.prog w=.ok (.enter 88 args) w:=enters_of Tryz.func88 (by kernel_rfl) rfl
  rw [<-hDs]
  refine (show Calls Tryz.prog 87 #[.slice (some ⟨g,0,none⟩) D.size cap,.func (.func 88) #[] #[.pointer (some ⟨bx,0,none⟩)]] w _ from Any.slices_SortFunc Tryz.laysSort (fun x:Fin (n+1)=>Value.int .i64 (x.val:Nat)) (fun x=>rfl) (fun x y=>cb (f x.val) (f y.val)) (swo_key fun x:Fin (n+1)=>f x.val) 88 #[.pointer (some ⟨bx,0,none⟩)] g 0 cap D w eg hcmp hH hgl (by omega)).mono ?_
  rintro e w' ⟨rfl,d',m,os,hperm,hsort,hw'⟩
  have hds:d'.size=D.size:=hperm.1
  have hheap:w'.heap=(w.heap.modify g (onCells (putCells (fun x:Fin (n+1)=>Value.int .i64 (x.val:Nat)) 0 d')))++os:=by rw [hw'];rfl
  have hg':w'.heap[g]?=some (.cells (putCells (fun x:Fin (n+1)=>Value.int .i64 (x.val:Nat)) 0 d' cur) 3):=by
   rw [hheap,Array.getElem?_append_left (by simpa using hgl),Array.getElem?_modify,if_pos rfl,hg];rfl
  have hcs:D.size<=cur.size:=by rw [hs,hDs];omega
  refine ⟨rfl,d'.toList.map (·.val),?_,?_,⟨?_,.inr ⟨g,cap,_,?_,hb,hg',?_,hm,?_,?_⟩⟩,?_⟩
  ·rw [<-hD]
   apply List.Perm.map
   have:=hperm.2.2
   rw [Array.extract_size] at this
   rw [show d'.extract 0 D.size=d' by rw [<-hds,Array.extract_size]] at this
   exact this
  ·rw [List.pairwise_iff_getElem]
   intro i j hi hj hij
   simp only [List.length_map,Array.length_toList] at hi hj
   have:=hsort i j (Nat.zero_le _) hij (by omega)
   rw [getElem!_pos d' j hj,getElem!_pos d' i hi] at this
   have h3:¬ cb (f d'[j].val) (f d'[i].val) < 0:=of_decide_eq_false this
   simp only [List.getElem_map,Array.getElem_toList]
   have:=cb_anti (f d'[i].val) (f d'[j].val)
   omega
  ·simp
  ·simp [hds]
  ·simp [hds];omega
  ·simp [putCells,hs]
  ·rw [show (d'.toList.map (·.val)).length=D.size by simp [hds]]
   apply List.ext_getElem?
   intro j
   by_cases hj:j < D.size
   ·rw [List.getElem?_take_of_lt (by omega),Array.getElem?_toList]
    rw [putCells,Array.getElem?_mapIdx,Array.getElem?_eq_getElem (show j < cur.size by omega)]
    rw [Option.map_some,if_pos ⟨Nat.zero_le _,by omega⟩,Nat.sub_zero,getElem!_pos d' j (by omega)]
    simp [hds,hj]
   ·rw [List.getElem?_eq_none (by simp;omega),List.getElem?_eq_none (by simp;omega)]
  ·refine ⟨by rw [hw'];rfl,by rw [hw'];rfl,by rw [hw'];rfl,?_,?_⟩
   ·rw [hheap];simp
   ·intro k hk hne
    have hkg:g ≠ k:=by
     intro h;subst h;exact hne rfl
    rw [hheap,Array.getElem?_append_left (by simpa using hk),Array.getElem?_modify,if_neg hkg]
theorem own_base {w:World} {B B':Nat} {e:TypeId} {s:Nat} {v:Value} {n:Nat} {xs:List Value} (h:w.ownsRow B e s v n xs) (hB:B'<=B):w.ownsRow B' e s v n xs:=by
 refine ⟨h.1,?_⟩
 rcases h.2 with h | ⟨g,cap,cur,h1,h2,h3⟩
 ·exact Or.inl h
 ·exact Or.inr ⟨g,cap,cur,h1,Nat.le_trans hB h2,h3⟩
structure Nv (w:World) (NV:Value) (N c:Nat) (ns:List Tn):Prop where
 val:NV=.slice (some ⟨N,0,none⟩) ns.length c
 cel:∀i (hi:i < ns.length),∃k,w.cell? ⟨N,i * 6,none⟩=some (.int .i64 ns[i].kd)/\w.cell? ⟨N,i * 6+1,none⟩=some (.string ⟨ns[i].ky.toArray⟩)/\w.cell? ⟨N,i * 6+2,none⟩=some (.string ⟨ns[i].tx.toArray⟩)/\w.cell? ⟨N,i * 6+3,none⟩=some (.int .i64 ns[i].nu)/\w.cell? ⟨N,i * 6+4,none⟩=some k/\w.cell? ⟨N,i * 6+5,none⟩=some (.int .i64 (ns[i].pl:Nat))/\NuS w k ns[i].ks
theorem Nv.grow {w w':World} {NV:Value} {N c:Nat} {ns:List Tn} (h:Nv w NV N c ns) (hg:w.grownBy w' none):Nv w' NV N c ns:=by
 refine ⟨h.val,fun i hi=>?_⟩
 obtain ⟨k,h0,h1,h2,h3,h4,h5,h6⟩:=h.cel i hi
 exact ⟨k,hg.cell h0 (by simp),hg.cell h1 (by simp),hg.cell h2 (by simp),hg.cell h3 (by simp),hg.cell h4 (by simp),hg.cell h5 (by simp),h6.grow hg⟩
theorem kyAt_in {ns:List Tn} {q:Nat} (h:q < ns.length):kyAt ns q=ns[q].ky:=by
 unfold kyAt
 rw [List.getElem?_eq_getElem h]
theorem ksAt_in {ns:List Tn} {q:Nat} (h:q < ns.length):ksAt ns q=ns[q].ks:=by
 unfold ksAt
 rw [List.getElem?_eq_getElem h]
set_option maxRecDepth 100000 in
set_option maxHeartbeats 3200000 in
theorem sSorted (p N c:Nat) (NV:Value) (ns:List Tn) (own:List Nat) (t:Nat) (w:World) (hp:w.cell? ⟨p,0,none⟩=some NV) (h:Nv w NV N c ns) (W:WF ns own) (ht:t < ns.length) (hk:KD ns t) (hn:ns.length<=900000) :
  Calls Tryz.prog 59 #[.pointer (some ⟨p,0,none⟩),.int .i64 (t:Nat)] w fun e w'=>∃v,e=.returned v/\w'.ownsRow w.heap.size 3 1 v (srt ns t).length ((srt ns t).map fun q=>.int .i64 (q:Nat))/\w.grownBy w' none:=by
 obtain ⟨m,hm⟩:∃m,ns.length=m+1:=⟨ns.length - 1,by omega⟩
 have hv:=h.val
 subst hv
 have hga:w.grownBy (w.alloc (.cells #[.pointer (some ⟨p,0,none⟩)] 116)) none:=World.grownBy_alloc _ _ none
 have hbx:=heap_alloc_new w (.cells #[.pointer (some ⟨p,0,none⟩)] 116)
 obtain ⟨k,-,-,-,-,k4,-,k6⟩:=h.cel t ht
 have hks:=ksAt_in ht
 have hlk:ns[t].ks.length<=1000000:=by have:=W.len t;rw [hks] at this;omega
 obtain ⟨w1,hw1⟩:∃w1,w.alloc (.cells #[.pointer (some ⟨p,0,none⟩)] 116)=w1:=⟨_,rfl⟩
 rw [hw1] at hga hbx
 have b0:w1.cell? ⟨w.heap.size,0,none⟩=some (.pointer (some ⟨p,0,none⟩)):=by rw [Lib.cell_of_heap hbx];rfl
 have p0:=hga.cell hp (by simp)
 have k4':=hga.cell k4 (by simp)
 have CC:Hid (Calls Tryz.prog 86 #[k] w1 fun e w'=>∃v',e=.returned v'/\w'.ownsRow w1.heap.size 3 1 v' ns[t].ks.length (ns[t].ks.map fun q=>.int .i64 (q:Nat))/\w1.grownBy w' none):=sClone k ns[t].ks w1 (k6.grow hga) hlk
 have CS:Hid (∀(v':Value) w2,w1.grownBy w2 none->w2.ownsRow w1.heap.size 3 1 v' ns[t].ks.length (ns[t].ks.map fun q=>.int .i64 (q:Nat))->Calls Tryz.prog 87 #[v',.func (.func 88) #[] #[.pointer (some ⟨w.heap.size,0,none⟩)]] w2 fun e w'=>e=.returned (.tuple #[])/\∃E':List Nat,E'.Perm ns[t].ks/\(E'.Pairwise fun a b=>cb (kyAt ns a) (kyAt ns b)<=0)/\w'.ownsRow w1.heap.size 3 1 v' E'.length (E'.map fun q=>.int .i64 (q:Nat))/\w2.grownBy w' v'.ownBlock):=fun v' w2 hg2 hown=>by
  refine sortInts v' ns[t].ks w1.heap.size m w.heap.size w2 (kyAt ns) hown hlk (fun q hq=>?_) fun W' hW x y=>?_
  ·have:=W.lt t q (by rw [hks];exact hq)
   omega
  ·have cell:∀(a:Addr) u,w1.cell? a=some u->W'.cell? a=some u:=fun a u hu=>by
    have hlt:=block_lt_of_cell hu
    rw [hW a (fun e=>by have:=(own_typ hown e).1;omega) (Nat.lt_of_lt_of_le hlt hg2.size)]
    exact hg2.cell hu (by simp)
   have hx:x.val < ns.length:=by have:=x.isLt;omega
   have hy:y.val < ns.length:=by have:=y.isLt;omega
   obtain ⟨_,-,x1,-⟩:=h.cel x.val hx
   obtain ⟨_,-,y1,-⟩:=h.cel y.val hy
   have:=sCmp W' w.heap.size p N c ns.length x.val y.val ⟨ns[x.val].ky.toArray⟩ ⟨ns[y.val].ky.toArray⟩ (cell _ _ b0) (cell _ _ p0) (cell _ _ (hga.cell x1 (by simp))) (cell _ _ (hga.cell y1 (by simp))) hx hy (by omega)
   rw [kyAt_in hx,kyAt_in hy]
   simpa using this
 have HU:Hid (∀E:List Nat,E.Perm ns[t].ks->(E.Pairwise fun a b=>cb (kyAt ns a) (kyAt ns b)<=0)->E=srt ns t):=fun E h1 h2=>srt_uni ns t hk E (by rw [hks];exact h1) h2
 have HGA:Hid (w.grownBy w1 none):=hga
 have HSZ:Hid (w.heap.size<=w1.heap.size):=hga.size
 obtain ⟨L,hL⟩:∃L,ns.length=L:=⟨_,rfl⟩
 obtain ⟨bxn,hbn⟩:∃b,w.heap.size=b:=⟨_,rfl⟩
 obtain ⟨KS,hKS⟩:∃KS,ns[t].ks=KS:=⟨_,rfl⟩
 rw [hKS] at CC CS HU
 rw [hL] at p0 ht
 rw [hbn] at b0 CS HSZ ⊢
 have hti:(t:Int) < (L:Int):=by omega
 have HW1:Hid (w.alloc (.cells #[.pointer (some ⟨p,0,none⟩)] 116)=w1):=hw1
 have HBN:Hid (w.heap.size=bxn):=hbn
 clear h W hk hn hm hga hbx k4 k6 hks hlk hp hL hKS hw1 hbn
 go_enter Tryz.func59,Tryz.ntmps59
 go_upto_region 1 with fail
 rw [HW1.out,HBN.out]
 go_wp2_with (first | (go_at_call 86;refine CC.out.mono ?_))
 rintro e w2 ⟨v',rfl,hown2,hg2⟩
 have HO2:Hid (w2.ownsRow w1.heap.size 3 1 v' KS.length (KS.map fun q=>.int .i64 (q:Nat))):=hown2
 have HG2:Hid (w1.grownBy w2 none):=hg2
 clear hown2 hg2 b0 p0 k4'
 go_wp2_with (first | (go_at_call 87;refine (CS.out v' _ HG2.out HO2.out).mono ?_;rintro e w3 ⟨rfl,E',hp3,hs3,ho3,hg3⟩))
 refine bodyPost_ret (results_tmp (t:=4) rfl _ _ _) rfl ?_
 have e:=HU.out E' hp3 hs3
 subst e
 refine ⟨_,rfl,own_base ho3 HSZ.out,?_⟩
 exact gb_row (gb_trans HGA.out HG2.out) hg3 (fun b hb=>by
  have:=(own_typ HO2.out hb).1
  have:=HSZ.out
  have:=HBN.out
  omega)
end Go.Proofs.YtbgnflcebafjjaaGreatDoor
namespace Go.Proofs
open Go.Shelf
def Tryz.lays167_ren:Go.Shelf.Ren:=⟨fun | 167=>63 | 240=>90 | 276=>113 | n=>n,fun | 22=>41 | 27=>155 | 28=>31 | 31=>108 | 34=>54 | 35=>157 | 37=>74 | 40=>212 | 41=>71 | 42=>158 | 43=>156 | 46=>175 | 47=>174 | 48=>200 | 49=>258 | 51=>193 | 52=>192 | 53=>195 | 54=>194 | 55=>177 | 69=>87 | 70=>73 | 71=>75 | 72=>76 | 73=>79 | 74=>42 | 75=>43 | 76=>118 | 77=>119 | 78=>121 | 79=>180 | 80=>85 | 81=>90 | 83=>127 | 84=>196 | 85=>218 | 86=>219 | 94=>125 | 104=>34 | 105=>181 | 106=>182 | 108=>233 | 111=>91 | 112=>159 | 114=>211 | 119=>213 | 126=>198 | 127=>126 | 128=>199 | 131=>190 | 137=>214 | 138=>215 | 139=>216 | 143=>235 | 144=>236 | 145=>237 | 164=>93 | 165=>176 | 167=>217 | 168=>220 | 169=>221 | 170=>222 | 171=>207 | 172=>208 | 173=>209 | 174=>210 | 175=>229 | 176=>230 | 182=>185 | 183=>186 | 209=>231 | 210=>232 | 211=>226 | 212=>227 | 213=>228 | 214=>234 | 218=>201 | 219=>202 | 220=>203 | 222=>205 | 228=>223 | 229=>224 | 232=>238 | 233=>239 | 238=>240 | 239=>241 | 240=>242 | 241=>243 | 242=>244 | 243=>246 | 244=>101 | 245=>247 | 246=>248 | 247=>249 | 248=>250 | 249=>251 | n=>n,fun | 1=>6 | 3=>7 | 4=>8 | 15=>10 | 16=>11 | 17=>9 | 18=>12 | 19=>13 | n=>n⟩
theorem Tryz.lays167:Go.Proofs.Lays.n167 Tryz.prog Tryz.lays167_ren:={
 mixed:=by kernel_rfl
 f167:=Tryz.func63.trans (congrArg some (by kernel_rfl))
 f240:=Tryz.func90.trans (congrArg some (by kernel_rfl))
 f276:=Tryz.func113.trans (congrArg some (by kernel_rfl))
 t0:=Tryz.underlying0
 a0:=Tryz.isAgg0
 z0:=Tryz.sizeOf0
 v0:=Tryz.zeroValue0
 t4:=Tryz.underlying4
 a4:=Tryz.isAgg4
 z4:=Tryz.sizeOf4
 v4:=Tryz.zeroValue4
 t5:=Tryz.underlying5
 a5:=Tryz.isAgg5
 z5:=Tryz.sizeOf5
 v5:=Tryz.zeroValue5
 t9:=Tryz.underlying9
 a9:=Tryz.isAgg9
 z9:=Tryz.sizeOf9
 v9:=Tryz.zeroValue9
 t20:=Tryz.underlying20
 a20:=Tryz.isAgg20
 z20:=Tryz.sizeOf20
 v20:=Tryz.zeroValue20
 t37:=Tryz.underlying74
 a37:=Tryz.isAgg74
 z37:=Tryz.sizeOf74
 v37:=Tryz.zeroValue74
 t70:=Tryz.underlying73
 a70:=Tryz.isAgg73
 z70:=Tryz.sizeOf73
 v70:=Tryz.zeroValue73
 t72:=Tryz.underlying76
 a72:=Tryz.isAgg76
 z72:=Tryz.sizeOf76
 v72:=Tryz.zeroValue76
 t75:=Tryz.underlying43
 a75:=Tryz.isAgg43
 z75:=Tryz.sizeOf43
 v75:=Tryz.zeroValue43
 t164:=Tryz.underlying93
 a164:=Tryz.isAgg93
 z164:=Tryz.sizeOf93
 v164:=Tryz.zeroValue93 }
theorem Tryz.Builder_Extra_167:Builder.Extra Tryz.prog Tryz.lays167_ren:={
 sizeBuilder:=by kernel_rfl
 liesBuilder:=by kernel_rfl
 t5:=Tryz.underlying5
 a5:=Tryz.isAgg5
 z5:=Tryz.sizeOf5
 v5:=Tryz.zeroValue5
 infoByte:=by kernel_rfl
 cellsByte:=by kernel_rfl
 sizeByte:=by kernel_rfl
 neB5:=by decide }
end Go.Proofs
namespace Go.Proofs.YtbgnflcebafjjaaGreatDoor
open Go.RowKit Go.Maps Go.WideMaps Go.Joins
set_option linter.unusedVariables false
def escL:List UInt8:=[8,9,10,12,13,34,92]
def letL:List UInt8:=[98,116,110,102,114,34,92]
def hexS:List UInt8:=[48,49,50,51,52,53,54,55,56,57,65,66,67,68,69,70]
def qc (c:UInt8):List UInt8:=if 0<=Lib.indexByte escL c then [92,letL.getD (Lib.indexByte escL c).toNat 0] else if isCt (c.toNat:Int)=true then [92,117,48,48,hexS.getD (c.toNat / 16) 0,hexS.getD (c.toNat % 16) 0] else [c]
def qt (s:List UInt8):List UInt8:=34 :: s.flatMap qc++[34]
theorem tWriteB_any (B b:Nat) (acc:List UInt8) (c:UInt8) (w:World) (h:Bd w B b acc) (hl:acc.length<=1099511627776) (hB:B<=w.heap.size) :
  Calls Tryz.prog 63 #[.pointer (some ⟨b,0,none⟩),.int .u8 (c.toNat:Int)] w fun e w'=>e=.returned .nilIface/\Bd w' B b (acc++[c])/\Below B w w':=by
 refine (Any.Builder_WriteByte_k Tryz.lays167 Tryz.Builder_Extra_167 B b (Lib.byteCells acc) (c.toNat:Int) w h (by rw [cells_len];omega) hB).mono ?_
 rintro e w' ⟨rfl,h1,h2,h3⟩
 refine ⟨rfl,Or.inr ?_,h2⟩
 rw [cells_app]
 exact h1
theorem wrap_u8 (c:UInt8):wrap64 (c.toNat:Int)=(c.toNat:Int):=wrapJ c.toNat (by have:=c.toNat_lt;omega)
theorem hex_get (m:Nat) (h:m < (⟨#[48,49,50,51,52,53,54,55,56,57,65,66,67,68,69,70]⟩:ByteArray).size):(⟨#[48,49,50,51,52,53,54,55,56,57,65,66,67,68,69,70]⟩:ByteArray)[m]'h=hexS.getD m 0:=by
 have key:∀k:Fin 16,(⟨#[48,49,50,51,52,53,54,55,56,57,65,66,67,68,69,70]⟩:ByteArray)[k.val]'(by have:=k.isLt;exact this)=hexS.getD k.val 0:=by decide
 exact key ⟨m,h⟩
theorem let_get (m:Nat) (h:m < (⟨#[98,116,110,102,114,34,92]⟩:ByteArray).size):(⟨#[98,116,110,102,114,34,92]⟩:ByteArray)[m]'h=letL.getD m 0:=by
 have key:∀k:Fin 7,(⟨#[98,116,110,102,114,34,92]⟩:ByteArray)[k.val]'(by have:=k.isLt;exact this)=letL.getD k.val 0:=by decide
 exact key ⟨m,h⟩
set_option maxRecDepth 100000 in
theorem esc_ix (c:UInt8):Lib.indexByte escL c < 7:=by
 have key:∀n:Fin 256,Lib.indexByte escL (UInt8.ofNat n.val) < 7:=by decide
 have:=key ⟨c.toNat,c.toNat_lt⟩
 simpa using this
theorem qc_len (c:UInt8):1<=(qc c).length/\(qc c).length<=6:=by
 unfold qc
 split
 ·simp
 ·split <;> simp
theorem qc_sum:∀l:List UInt8,(l.flatMap qc).length<=6 * l.length
 | []=>by simp
 | c :: r=>by
  rw [List.flatMap_cons,List.length_append,List.length_cons]
  have:=(qc_len c).2
  have:=qc_sum r
  omega
theorem qt_len (s:List UInt8):2<=(qt s).length/\(qt s).length<=6 * s.length+2:=by
 unfold qt
 have:=qc_sum s
 simp only [List.cons_append,List.length_cons,List.length_append,List.length_nil]
 omega
set_option maxRecDepth 100000 in
set_option maxHeartbeats 1600000 in
theorem tQuote_any (s:ByteArray) (w:World) (hs:s.size<=1048576) :
  Calls Tryz.prog 91 #[.string s] w fun e w'=>e=.returned (.string ⟨(qt s.data.toList).toArray⟩)/\w.grownBy w' none:=by
 have hl:s.data.toList.length=s.size:=by simp
 have hgA:w.grownBy (w.alloc (.cells #[.pointer none,.slice none 0 0] 76)) none:=World.grownBy_alloc _ _ none
 have hnb:=heap_alloc_new w (.cells #[.pointer none,.slice none 0 0] 76)
 have HB0:Hid (Bd (w.alloc (.cells #[.pointer none,.slice none 0 0] 76)) w.heap.size w.heap.size []):=Or.inl ⟨Nat.le_refl _,.slice none 0 0,hnb,⟨rfl,Or.inl ⟨rfl,rfl⟩⟩,by simp [Value.ownBlock]⟩
 have hsz1:(w.alloc (.cells #[.pointer none,.slice none 0 0] 76)).heap.size=w.heap.size+1:=World.size_alloc _ _
 obtain ⟨B,hB⟩:∃B,w.heap.size=B:=⟨_,rfl⟩
 have CW:Hid (∀(acc:List UInt8) (c:UInt8) w',Bd w' B B acc->acc.length<=1099511627776->B<=w'.heap.size->Calls Tryz.prog 63 #[.pointer (some ⟨B,0,none⟩),.int .u8 (c.toNat:Int)] w' fun e w''=>e=.returned .nilIface/\Bd w'' B B (acc++[c])/\Below B w' w''):=fun acc c w' h1 h2 h3=>tWriteB_any B B acc c w' h1 h2 h3
 have CS:Hid (∀(acc:List UInt8) w',Bd w' B B acc->acc.length<=1099511627776->B<=w'.heap.size->Calls Tryz.prog 60 #[.pointer (some ⟨B,0,none⟩),.string ⟨#[92,117,48,48]⟩] w' fun e w''=>(∃k:Int,e=.returned (.tuple #[.int .i64 k,.nilIface]))/\Bd w'' B B (acc++[92,117,48,48])/\Below B w' w''):=fun acc w' h1 h2 h3=>tWriteS_any B B acc [92,117,48,48] w' h1 h2 (by decide) h3
 have CE:Hid (∀(acc:List UInt8) w',Bd w' B B acc->B<=w'.heap.size->Calls Tryz.prog 35 #[.pointer (some ⟨B,0,none⟩)] w' fun e w''=>e=.returned (.string ⟨acc.toArray⟩)/\Below B w' w''):=fun acc w' h1 h2=>tBdString_any B B acc w' h1 h2
 have CI:Hid (∀(c:UInt8) w',Calls Tryz.prog 114 #[.string ⟨#[8,9,10,12,13,34,92]⟩,.int .u8 (c.toNat:Int)] w' fun e w''=>e=.returned (.int .i64 (Lib.indexByte escL c))/\w''=w'):=fun c w'=>by
  refine (show Calls Tryz.prog 114 #[.string ⟨#[8,9,10,12,13,34,92]⟩,.int .u8 (c.toNat:Int)] w' _ from Any.strings_IndexByte Tryz.lays137 ⟨#[8,9,10,12,13,34,92]⟩ (c.toNat:Int) w').mono ?_
  rintro e w'' ⟨rfl,h⟩
  refine ⟨?_,h⟩
  have e1:((c.toNat:Int)).toNat.toUInt8=c:=by simp
  rw [e1]
  rfl
 have CT:Hid (∀(c:Int) w',Calls Tryz.prog 106 #[.int .i64 c] w' fun e w''=>e=.returned (.bool (isCt c))/\w''=w'):=tControl_any
 have HG0:Hid (Below B w (w.alloc (.cells #[.pointer none,.slice none 0 0] 76))):=by have:=gb_below hgA;rw [hB] at this;exact this
 have HL:Hid (s.data.toList.length=s.size):=hl
 have HBE:Hid (w.heap.size=B):=hB
 have HSZ:Hid (B<=(w.alloc (.cells #[.pointer none,.slice none 0 0] 76)).heap.size):=by show _<=_;omega
 rw [hB] at HB0
 have CW0:Hid (Calls Tryz.prog 63 #[.pointer (some ⟨B,0,none⟩),.int .u8 34] (w.alloc (.cells #[.pointer none,.slice none 0 0] 76)) fun e w''=>e=.returned .nilIface/\Bd w'' B B [34]/\Below B (w.alloc (.cells #[.pointer none,.slice none 0 0] 76)) w''):=CW.out [] 34 _ HB0.out (by simp) HSZ.out
 rw [<-hB] at CW0
 clear hl hgA hnb hsz1 hB
 go_enter Tryz.func91,Tryz.ntmps91
 go_wp2_with (first | (go_at_call 63;refine CW0.out.mono ?_))
 rintro e w1 ⟨rfl,hb1,hl1⟩
 rw [HBE.out] at hb1 hl1 ⊢
 have HB1:Hid (Bd w1 B B [34]):=hb1
 have HL1:Hid (Below B w w1):=HG0.out.trans hl1
 have HS1:Hid (B<=w1.heap.size):=Nat.le_trans HSZ.out hl1.size
 clear hb1 hl1 CW0
 go_wp2
 go_loopw [10] (fun v10 wr=>∃i:Nat,v10=.int .i64 (i:Nat)/\i<=s.size/\Bd wr B B (34 :: (s.data.toList.take i).flatMap qc)/\Below B w wr/\B<=wr.heap.size) (fun v10 _=>s.size - (intOf v10).toNat)
 case atStart=>exact ⟨0,rfl,Nat.zero_le _,HB1.out,HL1.out,HS1.out⟩
 case round =>
  obtain ⟨i,rfl,hi,hbd,hbl,hsz⟩:=hrel
  have HBR:Hid (Bd wr B B (34 :: (s.data.toList.take i).flatMap qc)):=hbd
  have HLR:Hid (Below B w wr):=hbl
  have HSR:Hid (B<=wr.heap.size):=hsz
  have hacc:(34 :: (s.data.toList.take i).flatMap qc).length<=6 * i+1:=by
   have:=qc_sum (s.data.toList.take i)
   rw [List.length_take] at this
   simp only [List.length_cons]
   omega
  clear hbd hbl hsz
  by_cases hlt:i < s.size
  ·have hI:(i:Int) < (s.size:Int):=by omega
   obtain ⟨c,hc⟩:∃c,s[i]=c:=⟨_,rfl⟩
   have HTK:Hid (34 :: (s.data.toList.take (i+1)).flatMap qc=(34 :: (s.data.toList.take i).flatMap qc)++qc c):=by
    show _=_
    have hil:i < s.data.toList.length:=by rw [HL.out];exact hlt
    rw [List.take_succ_eq_append_getElem hil,List.flatMap_append,List.cons_append]
    congr 2
    have e:s.data.toList[i]=c:=by rw [<-hc];rfl
    rw [e];simp
   obtain ⟨acc,hac⟩:∃acc,34 :: (s.data.toList.take i).flatMap qc=acc:=⟨_,rfl⟩
   rw [hac] at HTK HBR hacc
   have hal:acc.length<=8000000:=by omega
   have CI1:Hid (Calls Tryz.prog 114 #[.string ⟨#[8,9,10,12,13,34,92]⟩,.int .u8 (c.toNat:Int)] wr fun e w''=>e=.returned (.int .i64 (Lib.indexByte escL c))/\w''=wr):=CI.out c wr
   have HQC:Hid (qc c=if 0<=Lib.indexByte escL c then [92,letL.getD (Lib.indexByte escL c).toNat 0] else if isCt (c.toNat:Int)=true then [92,117,48,48,hexS.getD (c.toNat / 16) 0,hexS.getD (c.toNat % 16) 0] else [c]):=rfl
   obtain ⟨x,hx⟩:∃x,Lib.indexByte escL c=x:=⟨_,rfl⟩
   rw [hx] at CI1 HQC
   clear hac
   by_cases hx0:0<=x
   ·have hx7:x < 7:=by rw [<-hx];exact esc_ix c
    rw [if_pos hx0] at HQC
    obtain ⟨k,rfl⟩:∃k:Nat,x=(k:Int):=⟨x.toNat,by omega⟩
    rw [Int.toNat_natCast] at HQC
    have hk7:k < 7:=by omega
    clear hx
    go_wp2_with (first | (go_at_call 114;refine CI1.out.mono ?_;rintro e w' ⟨rfl,rfl⟩) | (go_at_call 63;refine (CW.out acc 92 _ HBR.out (by omega) HSR.out).mono ?_))
    rintro e w2 ⟨rfl,hb2,hl2⟩
    have HB2:Hid (Bd w2 B B (acc++[92])):=hb2
    have HL2:Hid (Below B w w2):=HLR.out.trans hl2
    have HS2:Hid (B<=w2.heap.size):=Nat.le_trans HSR.out hl2.size
    have ha4:(acc++[92]).length<=9000000:=by simp;omega
    clear hb2 hl2
    go_wp2_with (first | (go_at_call 63;refine (CW.out (acc++[92]) _ _ HB2.out (by omega) HS2.out).mono ?_;rintro e w3 ⟨rfl,hb3,hl3⟩))
    rw [let_get] at hb3
    refine ⟨⟨i+1,by go_num,by omega,?_,HL2.out.trans hl3,Nat.le_trans HS2.out hl3.size⟩,by simp [intOf];omega⟩
    rw [HTK.out,HQC.out]
    simpa using hb3
   ·rw [if_neg hx0] at HQC
    have CT1:Hid (∀w',Calls Tryz.prog 106 #[.int .i64 (wrap64 (c.toNat:Int))] w' fun e w''=>e=.returned (.bool (isCt (c.toNat:Int)))/\w''=w'):=fun w'=>by have:=CT.out (wrap64 (c.toNat:Int)) w';rw [wrap_u8 c] at this ⊢;exact this
    obtain ⟨ct,hct⟩:∃ct,isCt (c.toNat:Int)=ct:=⟨_,rfl⟩
    rw [hct] at CT1 HQC
    clear hct hx
    cases ct with
    | false =>
     have HQ1:Hid (qc c=[c]):=HQC.out
     have CW1:Hid (Calls Tryz.prog 63 #[.pointer (some ⟨B,0,none⟩),.int .u8 (c.toNat:Int)] wr fun e w''=>e=.returned .nilIface/\Bd w'' B B (acc++[c])/\Below B wr w''):=CW.out acc c wr HBR.out (by omega) HSR.out
     go_wp2_with (first | (go_at_call 114;refine CI1.out.mono ?_;rintro e w' ⟨rfl,rfl⟩) | (go_at_call 106;refine (CT1.out _).mono ?_;rintro e w' ⟨rfl,rfl⟩) | (go_at_call 63;refine CW1.out.mono ?_;rintro e w2 ⟨rfl,hb2,hl2⟩))
     have HN:Hid (Bd w2 B B (34 :: (s.data.toList.take (i+1)).flatMap qc)):=by show Bd _ _ _ _;rw [HTK.out,HQ1.out];exact hb2
     have HLN:Hid (Below B w w2):=HLR.out.trans hl2
     have HSN:Hid (B<=w2.heap.size):=Nat.le_trans HSR.out hl2.size
     go_roundw
     case rel=>exact ⟨i+1,by go_num,by omega,HN.out,HLN.out,HSN.out⟩
     case measure=>simp [intOf];omega
    | true =>
     go_wp2_with (first | (go_at_call 114;refine CI1.out.mono ?_;rintro e w' ⟨rfl,rfl⟩) | (go_at_call 106;refine (CT1.out _).mono ?_;rintro e w' ⟨rfl,rfl⟩) | (go_at_call 60;refine (CS.out acc _ HBR.out (by omega) HSR.out).mono ?_))
     rintro e w2 ⟨⟨k2,rfl⟩,hb2,hl2⟩
     have hcl:=c.toNat_lt
     have HB2:Hid (Bd w2 B B (acc++[92,117,48,48])):=hb2
     have HL2:Hid (Below B w w2):=HLR.out.trans hl2
     have HS2:Hid (B<=w2.heap.size):=Nat.le_trans HSR.out hl2.size
     have ha4:(acc++[92,117,48,48]).length<=9000000:=by simp;omega
     clear hb2 hl2
     go_wp2_with (first | (go_at_call 63;refine (CW.out (acc++[92,117,48,48]) _ _ HB2.out (by omega) HS2.out).mono ?_))
     rintro e w3 ⟨rfl,hb3,hl3⟩
     rw [hex_get] at hb3
     obtain ⟨y1,hy1⟩:∃y,hexS.getD (c.toNat / 16) 0=y:=⟨_,rfl⟩
     rw [hy1] at hb3 HQC
     have HB3:Hid (Bd w3 B B (acc++[92,117,48,48]++[y1])):=hb3
     have HL3:Hid (Below B w w3):=HL2.out.trans hl3
     have HS3:Hid (B<=w3.heap.size):=Nat.le_trans HS2.out hl3.size
     have ha5:(acc++[92,117,48,48]++[y1]).length<=9000000:=by simp;omega
     clear hb3 hl3 hy1
     go_wp2_with (first | (go_at_call 63;refine (CW.out (acc++[92,117,48,48]++[y1]) _ _ HB3.out (by omega) HS3.out).mono ?_;rintro e w4 ⟨rfl,hb4,hl4⟩))
     rw [hex_get] at hb4
     refine ⟨⟨i+1,by go_num,by omega,?_,HL3.out.trans hl4,Nat.le_trans HS3.out hl4.size⟩,by simp [intOf];omega⟩
     rw [HTK.out,HQC.out]
     simpa using hb4
  ·have hI:¬ (i:Int) < (s.size:Int):=by omega
   have hie:i=s.size:=by omega
   have HQT:Hid ((34 :: (s.data.toList.take i).flatMap qc)++[34]=qt s.data.toList):=by
    show _=_
    rw [hie,<-HL.out,List.take_length]
    rfl
   obtain ⟨acc,hac⟩:∃acc,34 :: (s.data.toList.take i).flatMap qc=acc:=⟨_,rfl⟩
   rw [hac] at HQT HBR hacc
   have hal:acc.length<=8000000:=by omega
   clear hac hie
   go_wp2_with (first | (go_at_call 63;refine (CW.out acc 34 _ HBR.out (by omega) HSR.out).mono ?_))
   first | rintro e w2 rfl hb2 hl2 | rintro e w2 ⟨rfl,hb2,hl2⟩
   have HB2:Hid (Bd w2 B B (acc++[34])):=hb2
   have HL2:Hid (Below B w w2):=HLR.out.trans hl2
   have HS2:Hid (B<=w2.heap.size):=Nat.le_trans HSR.out hl2.size
   clear hb2 hl2
   go_wp2_with (first | (go_at_call 35;refine (CE.out (acc++[34]) _ HB2.out HS2.out).mono ?_;rintro e w3 ⟨rfl,hl3⟩))
   go_ret
   refine ⟨by rw [HQT.out];rfl,?_⟩
   have hb:=HL2.out.trans hl3
   rw [<-HBE.out] at hb
   exact ⟨hb.os,hb.tape,hb.output,hb.size,fun k hk _=>hb.block k hk⟩
def kt (k:List UInt8):List UInt8:=if k=[] then qt k else if k.all (fun c=>isBa (c.toNat:Int))=true then k else qt k
theorem kt_len (k:List UInt8):1<=(kt k).length/\(kt k).length<=6 * k.length+2:=by
 unfold kt
 have:=qt_len k
 split
 ·omega
 ·rename_i h
  have:=List.length_pos_iff.2 h
  split <;> omega
set_option maxRecDepth 100000 in
set_option maxHeartbeats 1600000 in
theorem tKeyText_any (s:ByteArray) (w:World) (hs:s.size<=1048576) :
  Calls Tryz.prog 61 #[.string s] w fun e w'=>e=.returned (.string ⟨(kt s.data.toList).toArray⟩)/\w.grownBy w' none:=by
 have hl:s.data.toList.length=s.size:=by simp
 have CQ:Hid (∀w',Calls Tryz.prog 91 #[.string s] w' fun e w''=>e=.returned (.string ⟨(qt s.data.toList).toArray⟩)/\w'.grownBy w'' none):=fun w'=>tQuote_any s w' hs
 have CB:Hid (∀(c:Int) w',Calls Tryz.prog 42 #[.int .i64 c] w' fun e w''=>e=.returned (.bool (isBa c))/\w''=w'):=tBare_any
 have HL:Hid (s.data.toList.length=s.size):=hl
 by_cases h0:s.size=0
 ·have hse:s=⟨#[]⟩:=by
   have:s.data.toList=[]:=List.length_eq_zero_iff.1 (by omega)
   cases s with
   | mk d=>simp at this;rw [this]
  subst hse
  clear hl HL h0
  go_enter Tryz.func61,Tryz.ntmps61
  go_wp2_with (first | (go_at_call 91;refine (CQ.out _).mono ?_;rintro e w1 ⟨rfl,hg1⟩))
  go_ret
  exact ⟨rfl,hg1⟩
 ·have hne:s.toList.isEmpty=false:=by
   rw [List.isEmpty_eq_false_iff,<-List.length_pos_iff,ByteArray.toList_eq,Array.length_toList]
   exact Nat.pos_of_ne_zero h0
  have HNE:Hid (¬ s.data.toList=[]):=fun e=>h0 (by rw [<-HL.out,e];rfl)
  clear hl h0
  go_enter Tryz.func61,Tryz.ntmps61
  go_wp2
  go_loopw [10] (fun v10 wr=>∃i:Nat,v10=.int .i64 (i:Nat)/\i<=s.size/\wr=w/\∀c ∈ s.data.toList.take i,isBa (c.toNat:Int)=true) (fun v10 _=>s.size - (intOf v10).toNat)
  case atStart=>exact ⟨0,rfl,Nat.zero_le _,rfl,fun c hc=>absurd hc (by simp)⟩
  case round =>
   obtain ⟨i,rfl,hi,rfl,hall⟩:=hrel
   have HAL:Hid (∀c ∈ s.data.toList.take i,isBa (c.toNat:Int)=true):=hall
   clear hall
   by_cases hlt:i < s.size
   ·have hI:(i:Int) < (s.size:Int):=by omega
    obtain ⟨c,hc⟩:∃c,s[i]=c:=⟨_,rfl⟩
    have hil:i < s.data.toList.length:=by rw [HL.out];exact hlt
    have HCM:Hid (s.data.toList[i]=c):=by show _=c;rw [<-hc];rfl
    have CB1:Hid (∀w',Calls Tryz.prog 42 #[.int .i64 (wrap64 (c.toNat:Int))] w' fun e w''=>e=.returned (.bool (isBa (c.toNat:Int)))/\w''=w'):=fun w'=>by have:=CB.out (wrap64 (c.toNat:Int)) w';rw [wrap_u8 c] at this ⊢;exact this
    obtain ⟨bb,hbb⟩:∃bb,isBa (c.toNat:Int)=bb:=⟨_,rfl⟩
    have HBB:Hid (isBa (c.toNat:Int)=bb):=hbb
    rw [hbb] at CB1
    clear hbb
    cases bb with
    | true =>
     have HAN:Hid (∀c ∈ s.data.toList.take (i+1),isBa (c.toNat:Int)=true):=by
      intro x hx
      rw [List.take_succ_eq_append_getElem hil] at hx
      rcases List.mem_append.1 hx with hx | hx
      ·exact HAL.out x hx
      ·rw [List.mem_singleton.1 hx,HCM.out];exact HBB.out
     go_wp2_with (first | (go_at_call 42;refine (CB1.out _).mono ?_;rintro e w' ⟨rfl,rfl⟩))
     go_roundw
     case rel=>exact ⟨i+1,by go_num,by omega,trivial,HAN.out⟩
     case measure=>simp [intOf];omega
    | false =>
     have HK:Hid (kt s.data.toList=qt s.data.toList):=by
      show _=_
      unfold kt
      rw [if_neg HNE.out,if_neg]
      intro h
      have:=List.all_eq_true.1 h _ (List.getElem_mem hil)
      rw [HCM.out,HBB.out] at this
      cases this
     go_wp2_with (first | (go_at_call 42;refine (CB1.out _).mono ?_;rintro e w' ⟨rfl,rfl⟩) | (go_at_call 91;refine (CQ.out _).mono ?_;rintro e w1 ⟨rfl,hg1⟩))
     go_ret
     exact ⟨by rw [HK.out];rfl,hg1⟩
   ·have hI:¬ (i:Int) < (s.size:Int):=by omega
    have HK:Hid (kt s.data.toList=s.data.toList):=by
     show _=_
     unfold kt
     rw [if_neg HNE.out,if_pos]
     rw [List.all_eq_true]
     intro x hx
     refine HAL.out x ?_
     rw [List.take_of_length_le (by rw [HL.out];omega)]
     exact hx
    go_wp2
    go_ret
    refine ⟨?_,gb_refl _ _⟩
    rw [HK.out]
    have e:(⟨s.data.toList.toArray⟩:ByteArray)=s:=by cases s;simp
    rw [e]
    rfl
end Go.Proofs.YtbgnflcebafjjaaGreatDoor
namespace Go.Proofs
open Go.Shelf
def Tryz.lays121_ren:Go.Shelf.Ren:=⟨fun | 121=>94 | 214=>116 | n=>n,fun | 22=>41 | 27=>155 | 28=>31 | 31=>108 | 34=>54 | 35=>157 | 37=>74 | 40=>212 | 41=>71 | 42=>158 | 43=>156 | 46=>175 | 47=>174 | 48=>200 | 49=>258 | 51=>193 | 52=>192 | 53=>195 | 54=>194 | 55=>177 | 69=>87 | 70=>73 | 71=>75 | 72=>76 | 73=>79 | 74=>42 | 75=>43 | 76=>118 | 77=>119 | 78=>121 | 79=>180 | 80=>85 | 81=>90 | 83=>127 | 84=>196 | 85=>218 | 86=>219 | 94=>125 | 104=>34 | 105=>181 | 106=>182 | 108=>233 | 111=>91 | 112=>159 | 114=>211 | 119=>213 | 126=>198 | 127=>126 | 128=>199 | 131=>190 | 137=>214 | 138=>215 | 139=>216 | 143=>235 | 144=>236 | 145=>237 | 164=>93 | 165=>176 | 167=>217 | 168=>220 | 169=>221 | 170=>222 | 171=>207 | 172=>208 | 173=>209 | 174=>210 | 175=>229 | 176=>230 | 182=>185 | 183=>186 | 209=>231 | 210=>232 | 211=>226 | 212=>227 | 213=>228 | 214=>234 | 218=>201 | 219=>202 | 220=>203 | 222=>205 | 228=>223 | 229=>224 | 232=>238 | 233=>239 | 238=>240 | 239=>241 | 240=>242 | 241=>243 | 242=>244 | 243=>246 | 244=>101 | 245=>247 | 246=>248 | 247=>249 | 248=>250 | 249=>251 | n=>n,fun | 1=>6 | 3=>7 | 4=>8 | 15=>10 | 16=>11 | 17=>9 | 18=>12 | 19=>13 | n=>n⟩
theorem Tryz.lays121:Go.Proofs.Lays.n121 Tryz.prog Tryz.lays121_ren:={
 mixed:=by kernel_rfl
 f121:=Tryz.func94.trans (congrArg some (by kernel_rfl))
 f214:=Tryz.func116.trans (congrArg some (by kernel_rfl))
 t4:=Tryz.underlying4
 a4:=Tryz.isAgg4
 z4:=Tryz.sizeOf4
 v4:=Tryz.zeroValue4
 t9:=Tryz.underlying9
 a9:=Tryz.isAgg9
 z9:=Tryz.sizeOf9
 v9:=Tryz.zeroValue9 }
end Go.Proofs
