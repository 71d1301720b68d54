import Derived.Test.YtpeghomkaphdcaaGreatDoorM16
import Derived.Test.YtpeghomkaphdcaaGreatDoorM15
import Derived.Shelf.Strings.OnBuilder
import Derived.Test.YtpeghomkaphdcaaGreatDoorProg
import Derived.Shelf.Sort.Plain
import Derived.Shelf.Slices.In.SortNone
import Derived.Test.YtpeghomkaphdcaaGreatDoorM14
import Derived.Sort.OwnSorted
import Derived.Lib.Join
namespace Go.Proofs.YtpeghomkaphdcaaGreatDoor
open Go.RowKit Go.Shelf Go.Sort
set_option linter.unusedVariables false
set_option maxHeartbeats 400000 in
theorem nanS_any (s:ByteArray) (w:World):Calls Tryz.prog 58 #[.string s] w fun e w'=>e=.returned (.bool false)/\w'=w:=by
 go_enter Tryz.func58,Tryz.ntmps58
 go_wp2
 go_ret
 exact ⟨rfl,rfl⟩
set_option maxHeartbeats 400000 in
theorem cmpS_any (a b:ByteArray) (w:World):Calls Tryz.prog 37 #[.string a,.string b] w fun e w'=>e=.returned (.int .i64 (cT a b))/\w'=w:=by
 unfold cT
 cases h1:Op.bytesLess a.toList b.toList with
 | true =>
  rw [less_m1 h1]
  go_enter Tryz.func37,Tryz.ntmps37
  go_wp2_with (go_at_call 58;refine (nanS_any _ _).mono ?_;rintro e w' ⟨rfl,rfl⟩)
  go_ret
  exact ⟨rfl,rfl⟩
 | false =>
  cases h2:(!a.toList == b.toList) with
  | true =>
   rw [less_p1 h1 h2]
   go_enter Tryz.func37,Tryz.ntmps37
   go_wp2_with (go_at_call 58;refine (nanS_any _ _).mono ?_;rintro e w' ⟨rfl,rfl⟩)
   go_ret
   exact ⟨rfl,rfl⟩
  | false =>
   rw [less_0 h2]
   go_enter Tryz.func37,Tryz.ntmps37
   go_wp2_with (go_at_call 58;refine (nanS_any _ _).mono ?_;rintro e w' ⟨rfl,rfl⟩)
   go_ret
   exact ⟨rfl,rfl⟩
theorem gr_grow2 {w w':World} (hg:w.grownBy w' none) (hd:w.drawn<=w'.drawn):∃q os,w'=grow (w.drewN q) os:=by
 refine ⟨w'.drawn - w.drawn,w'.heap.extract w.heap.size w'.heap.size,?_⟩
 have hh:w'.heap=w.heap++w'.heap.extract w.heap.size w'.heap.size:=by
  apply Array.ext_getElem?
  intro k
  by_cases hk:k < w.heap.size
  ·rw [Array.getElem?_append_left hk];exact hg.block k hk (by simp)
  ·rw [Array.getElem?_append_right (by omega),Array.getElem?_extract]
   by_cases hk2:k < w'.heap.size
   ·rw [if_pos (by omega)];congr 1;omega
   ·rw [if_neg (by omega),Array.getElem?_eq_none (by omega)]
 have h1:=hg.os
 have h2:=hg.tape
 have h3:=hg.output
 cases w';cases w
 simp only [grow,World.drewN,World.mk.injEq] at *
 exact ⟨hh,h2,by omega,h1,h3⟩
theorem cmpE_any (x y:Ec) (w:World):Calls Tryz.prog 36 #[ecA x,ecA y] w fun e w'=>e=.returned (.int .i64 (cT x.nm y.nm))/\∃q os,w'=grow (w.drewN q) os:=by
 have CC:Hid (∀w,Calls Tryz.prog 37 #[.string x.nm,.string y.nm] w fun e w'=>e=.returned (.int .i64 (cT x.nm y.nm))/\w'=w):=fun w=>cmpS_any _ _ w
 unfold ecA
 go_enter Tryz.func36,Tryz.ntmps36
 go_wp2_with (first | (go_at_call 37;refine (CC.out _).mono ?_;rintro e w' ⟨rfl,rfl⟩))
 go_ret
 exact ⟨rfl,gr_grow2 (gb_alloc (gb_alloc (gb_refl w none) _) _) (Nat.le_refl _)⟩
instance:Inhabited Ec:=⟨⟨⟨#[]⟩,⟨#[]⟩,⟨#[]⟩,none,0,0⟩⟩
def cfE (x y:Ec):Int:=cT x.nm y.nm
theorem swoE:SWO (ltOf cfE) where
 irrefl x:=by
  unfold ltOf cfE
  apply decide_eq_false
  rw [good_T.self];omega
 trans x y z h1 h2:=by
  unfold ltOf cfE at *
  have a1:=of_decide_eq_true h1
  have a2:=of_decide_eq_true h2
  refine decide_eq_true ?_
  have t:=good_T.trans x.nm y.nm z.nm (by omega) (by omega)
  have r:=good_T.rng x.nm z.nm
  by_cases h0:cT x.nm z.nm=0
  ·have:=t.2.2 h0;omega
  ·have:=t.1;omega
 ntrans x y z h1 h2:=by
  unfold ltOf cfE at *
  have a1:=of_decide_eq_false h1
  have a2:=of_decide_eq_false h2
  apply decide_eq_false
  have t:=good_T.trans z.nm y.nm x.nm (by have:=good_T.anti y.nm z.nm;omega) (by have:=good_T.anti x.nm y.nm;omega)
  have:=good_T.anti x.nm z.nm
  omega
theorem ec_get (l:List Ec):∀(i:Nat) (hi:i < l.length) (k:Nat) (u:Value),(ecC l[i])[k]?=some u->(l.flatMap ecC)[i * 4+k]?=some u:=by
 induction l with
 | nil=>intro i hi;simp at hi
 | cons t l ih =>
  intro i hi k u h
  rw [List.flatMap_cons]
  have hl:(ecC t).length=4:=rfl
  cases i with
  | zero =>
   simp only [List.getElem_cons_zero] at h
   have hk:k < (ecC t).length:=(List.getElem?_eq_some_iff.1 h).1
   rw [Nat.zero_mul,Nat.zero_add,List.getElem?_append_left hk]
   exact h
  | succ i =>
   simp only [List.getElem_cons_succ] at h
   rw [List.getElem?_append_right (by rw [hl];omega),hl,show (i+1) * 4+k - 4=i * 4+k by omega]
   exact ih i (by simpa using hi) k u h
theorem cmpE (w:World) (blk off size:Nat):CmpLays Tryz.prog 36 #[] ecC 4 cfE blk off size w:=by
 intro m os dk hdk x y
 exact cmpE_any x y _
theorem encLenE (x:Ec):(ecC x).length=4:=rfl
theorem flatE (d:Array Ec):(flatK ecC 4 d).toList=d.toList.flatMap ecC:=by
 apply List.ext_getElem?
 intro j
 have hl:(d.toList.flatMap ecC).length=d.size * 4:=by
  have:∀L:List Ec,(L.flatMap ecC).length=L.length * 4:=by
   intro L
   induction L with
   | nil=>rfl
   | cons e L ih=>rw [List.flatMap_cons,List.length_append,ih,List.length_cons];show 4+_=_;omega
  rw [this];simp
 by_cases hj:j < d.size * 4
 ·have hi:j / 4 < d.size:=by omega
  have h1:(flatK ecC 4 d).toList[j]?=some ((ecC d[j / 4]!)[j % 4]!):=by
   rw [Array.getElem?_toList,Array.getElem?_eq_getElem (by simpa using hj)]
   have:=get_flatK ecC 4 d j hj
   rw [getElem!_pos _ j (by simpa using hj)] at this
   rw [this]
  have h2:=ec_get d.toList (j / 4) (by simpa using hi) (j % 4) ((ecC d[j / 4]!)[j % 4]!) (by
   rw [getElem!_pos d (j / 4) hi]
   have hk:j % 4 < (ecC d[j / 4]).length:=by rw [encLenE];omega
   rw [getElem!_pos _ (j % 4) hk]
   rw [Array.getElem_toList]
   exact List.getElem?_eq_getElem hk)
  rw [show j / 4 * 4+j % 4=j by omega] at h2
  rw [h1,h2]
 ·rw [List.getElem?_eq_none (by simp;omega),List.getElem?_eq_none (by rw [hl];omega)]
theorem egE:∀args w,(callFunc 36 args).run Tryz.prog w=.ok (.enter 36 args) w:=enters_of Tryz.func36 (by kernel_rfl) rfl
def RiseC (E:List Ec):Prop:=E.Pairwise (fun a b=>cT a.nm b.nm<=0)
set_option maxRecDepth 100000 in
theorem sortEnt (ve:Value) (E:List Ec) (base:Nat) (w:World) (hown:w.ownsRow base 43 4 ve E.length (E.flatMap ecC)) (hlen:E.length<=8388608) :
  Calls Tryz.prog 56 #[ve,.func (.func 36) #[] #[]] w fun e w'=>e=.returned (.tuple #[])/\∃E':List Ec,E'.Perm E/\RiseC E'/\w'.ownsRow base 43 4 ve E'.length (E'.flatMap ecC)/\w.grownBy w' ve.ownBlock:=by
 obtain ⟨D,hD⟩:∃D:Array Ec,D.toList=E:=⟨E.toArray,by simp⟩
 have hDs:D.size=E.length:=by rw [<-hD];simp
 have hown':=hown
 rcases hown.2 with ⟨rfl,h0⟩ | ⟨g,cap,cur,rfl,hb,hg,hn,hm,hs,ht⟩
 ·refine (AnyF.slices_SortFunc_none Tryz.laysSort none 0 (.func (.func 36) #[] #[]) w).mono ?_
  rintro e w' ⟨rfl,rfl⟩
  have hE:E=[]:=List.eq_nil_of_length_eq_zero h0
  subst hE
  exact ⟨rfl,[],List.Perm.refl _,List.Pairwise.nil,hown',⟨rfl,rfl,rfl,Nat.le_refl _,fun _ _ _=>rfl⟩⟩
 ·have hH:HoldsK ecC 4 w g 0 D:=by
   intro j hj
   have hj':j < (E.flatMap ecC).length:=by rw [hown.1,<-hDs];simpa using hj
   refine ⟨?_,Lib.frozen_of_heap hg _⟩
   have h1:(flatK ecC 4 D).toList[j]?=(E.flatMap ecC)[j]?:=by rw [flatE,hD]
   rw [Array.getElem?_toList,Array.getElem?_eq_getElem hj] at h1
   rw [Nat.zero_add,Lib.cell_of_heap hg]
   rw [getElem!_pos _ j hj]
   show cur[j]?=some (id _)
   rw [id,h1,<-ht,List.getElem?_take_of_lt (by rw [hown.1] at hj';exact hj')]
   simp
  rw [<-hDs]
  refine (AnyQ.slices_SortFunc Tryz.laysSort 4 Tryz.isAgg43 Tryz.sizeOf43 ecC encLenE ecc_one cfE swoE 36 #[] g 0 cap D w egE (cmpE w g 0 D.size) hH (Array.getElem?_eq_some_iff.1 hg).1 (by omega)).mono ?_
  rintro e w' ⟨rfl,d',m,os,hperm,hsort,hw'⟩
  have hds:d'.size=D.size:=hperm.1
  have hgl:g < w.heap.size:=(Array.getElem?_eq_some_iff.1 hg).1
  have hheap:w'.heap=(w.heap.modify g (onCells (putCells id 0 (flatK ecC 4 d'))))++os:=by rw [hw'];rfl
  have hg':w'.heap[g]?=some (.cells (putCells id 0 (flatK ecC 4 d') cur) 43):=by
   rw [hheap,Array.getElem?_append_left (by simpa using hgl),Array.getElem?_modify,if_pos rfl,hg];rfl
  have hFs:(flatK ecC 4 d').size=D.size * 4:=by simp [hds]
  have hcs:D.size * 4<=cur.size:=by rw [hs,hDs];omega
  have hlen2:(d'.toList.flatMap ecC).length=D.size * 4:=by rw [<-flatE,Array.length_toList,hFs]
  refine ⟨rfl,d'.toList,?_,?_,⟨?_,.inr ⟨g,cap,_,?_,hb,hg',?_,hm,?_,?_⟩⟩,?_⟩
  ·rw [<-hD]
   have:=hperm.2.2
   rw [Array.extract_size] at this
   rw [show d'.extract 0 D.size=d' by rw [<-hds,Array.extract_size]] at this
   exact this
  ·unfold RiseC
   rw [List.pairwise_iff_getElem]
   intro i j hi hj hij
   simp only [Array.length_toList] at hi hj
   have:=hsort i j (Nat.zero_le _) hij (by omega)
   rw [getElem!_pos d' j hj,getElem!_pos d' i hi] at this
   have h3:=of_decide_eq_false this
   simp only [Array.getElem_toList]
   exact cT_flip h3
  ·rw [hlen2];simp [hds]
  ·simp [hds]
  ·simp [hds];omega
  ·simp [putCells,hs]
  ·rw [show d'.toList.length=D.size by simp [hds],<-flatE]
   apply List.ext_getElem?
   intro j
   by_cases hj:j < D.size * 4
   ·rw [List.getElem?_take_of_lt hj,Array.getElem?_toList,Array.getElem?_toList]
    rw [putCells,Array.getElem?_mapIdx,Array.getElem?_eq_getElem (show j < cur.size by omega)]
    rw [Option.map_some,if_pos ⟨Nat.zero_le _,by omega⟩,Nat.sub_zero,id,getElem!_pos _ j (by omega)]
    exact (Array.getElem?_eq_getElem _).symm
   ·rw [List.getElem?_eq_none (by simp;omega),List.getElem?_eq_none (by rw [Array.length_toList];omega)]
  ·refine ⟨by rw [hw'];rfl,by rw [hw'];rfl,by rw [hw'];rfl,?_,?_⟩
   ·rw [hheap];simp
   ·intro k hk hne
    have hkg:g ≠ k:=by
     intro h;subst h;exact hne rfl
    rw [hheap,Array.getElem?_append_left (by simpa using hk),Array.getElem?_modify,if_neg hkg]
theorem cAppE (bm:Nat) (o:Option Addr) (c:Nat) (L:List Ec) (hL:L.length<=1048576) (w:World) (hbm:w.heap[bm]?=some (.cells #[.slice o L.length c] 23 (0,0))) (htx:EcS w (.slice o L.length c) L) :
  Calls Tryz.prog 79 #[.slice none 0 0,.func (.func 57) #[] #[.pointer (some ⟨bm,0,none⟩)]] w fun e w'=>∃v,e=.returned v/\w'.ownsRow w.heap.size 43 4 v L.length (L.flatMap ecC)/\Below w.heap.size w w':=callsIn_wide.1 (appE bm o c L hL w hbm htx)
theorem own_sl {w:World} {base:Nat} {e:TypeId} {sz:Nat} {v:Value} {n:Nat} {xs:List Value} (h:w.ownsRow base e sz v n xs):∃o c,v=.slice o n c:=by
 rcases h.2 with ⟨rfl,h0⟩ | ⟨g,cap,cur,rfl,_⟩
 ·exact ⟨none,0,by rw [h0]⟩
 ·exact ⟨_,_,rfl⟩
set_option maxHeartbeats 800000 in
theorem collE (bm:Nat) (o:Option Addr) (c:Nat) (L:List Ec) (hL:L.length<=1048576) (w:World) (hbm:w.heap[bm]?=some (.cells #[.slice o L.length c] 23 (0,0))) (htx:EcS w (.slice o L.length c) L) :
  Calls Tryz.prog 55 #[.func (.func 57) #[] #[.pointer (some ⟨bm,0,none⟩)]] w fun e w'=>∃o c,e=.returned (.slice o L.length c)/\w'.ownsRow w.heap.size 43 4 (.slice o L.length c) L.length (L.flatMap ecC)/\Below w.heap.size w w':=by
 have CA:Hid (Calls Tryz.prog 79 #[.slice none 0 0,.func (.func 57) #[] #[.pointer (some ⟨bm,0,none⟩)]] w fun e w'=>∃o c,e=.returned (.slice o L.length c)/\w'.ownsRow w.heap.size 43 4 (.slice o L.length c) L.length (L.flatMap ecC)/\Below w.heap.size w w'):=(cAppE bm o c L hL w hbm htx).mono fun e w' ⟨v,h1,h2,h3⟩=>by
  obtain ⟨o,c,rfl⟩:=own_sl h2
  exact ⟨o,c,h1,h2,h3⟩
 clear hbm htx
 go_enter Tryz.func55,Tryz.ntmps55
 go_wp2_with (first | (go_at_call 79;refine CA.out.mono ?_))
 rintro e w1 ⟨o1,c1,rfl,h2,h3⟩
 go_wp2
 go_ret
 exact ⟨o1,c1,rfl,h2,h3⟩
set_option maxHeartbeats 800000 in
theorem sfuncE (bm:Nat) (o:Option Addr) (c:Nat) (L:List Ec) (hL:L.length<=1048576) (w:World) (hbm:w.heap[bm]?=some (.cells #[.slice o L.length c] 23 (0,0))) (htx:EcS w (.slice o L.length c) L) :
  Calls Tryz.prog 34 #[.func (.func 57) #[] #[.pointer (some ⟨bm,0,none⟩)],.func (.func 36) #[] #[]] w fun e w'=>∃(E:List Ec) (o:Option Addr) (c:Nat),e=.returned (.slice o E.length c)/\E.Perm L/\RiseC E/\w'.ownsRow w.heap.size 43 4 (.slice o E.length c) E.length (E.flatMap ecC)/\w.grownBy w' none:=by
 have CC:=collE bm o c L hL w hbm htx
 have HC:Hid (Calls Tryz.prog 55 #[.func (.func 57) #[] #[.pointer (some ⟨bm,0,none⟩)]] w fun e w'=>∃o c,e=.returned (.slice o L.length c)/\w'.ownsRow w.heap.size 43 4 (.slice o L.length c) L.length (L.flatMap ecC)/\Below w.heap.size w w'):=CC
 clear hbm htx CC
 go_enter Tryz.func34,Tryz.ntmps34
 go_wp2_with (first | (go_at_call 55;refine HC.out.mono ?_))
 rintro e w1 ⟨o1,c1,rfl,hown,hb⟩
 have CS:Hid (Calls Tryz.prog 56 #[.slice o1 L.length c1,.func (.func 36) #[] #[]] w1 fun e w'=>e=.returned (.tuple #[])/\∃E':List Ec,E'.Perm L/\RiseC E'/\w'.ownsRow w.heap.size 43 4 (.slice o1 L.length c1) E'.length (E'.flatMap ecC)/\w1.grownBy w' (Value.slice o1 L.length c1).ownBlock):=sortEnt _ L w.heap.size w1 hown (by omega)
 have HB:Hid (w.grownBy w1 none):=bel_gb hb
 have HLT:Hid (∀q,(Value.slice o1 L.length c1).ownBlock=some q->w.heap.size<=q):=fun q hq=>(hown.lt q hq).1
 clear hown hb
 go_wp2_with (first | (go_at_call 56;refine CS.out.mono ?_))
 rintro e w2 ⟨rfl,E',hp,hr,hown2,hg2⟩
 go_wp2
 refine bodyPost_ret (results_tmp (t:=4) rfl _ _ _) rfl ⟨E',o1,c1,by rw [hp.length_eq];rfl,hp,hr,by rw [hp.length_eq] at hown2 ⊢;exact hown2,?_⟩
 exact ⟨hg2.os.trans HB.out.os,hg2.tape.trans HB.out.tape,hg2.output.trans HB.out.output,Nat.le_trans HB.out.size hg2.size,fun k hk hn=>(hg2.block k (Nat.lt_of_lt_of_le hk HB.out.size) (fun e=>by have:=HLT.out k e.symm;omega)).trans (HB.out.block k hk hn)⟩
end Go.Proofs.YtpeghomkaphdcaaGreatDoor
namespace Go.Proofs
open Go.Shelf
def Tryz.lays156_ren:Go.Shelf.Ren:=⟨fun | 156=>61 | 165=>83 | 166=>26 | 169=>28 | 240=>47 | 241=>119 | 276=>69 | 277=>143 | n=>n,fun | 22=>130 | 23=>190 | 24=>110 | 25=>111 | 27=>79 | 28=>165 | 31=>40 | 32=>112 | 33=>90 | 37=>53 | 40=>215 | 41=>95 | 42=>153 | 43=>109 | 46=>102 | 47=>101 | 48=>98 | 51=>134 | 52=>133 | 53=>136 | 54=>135 | 55=>204 | 59=>167 | 60=>168 | 63=>207 | 64=>210 | 67=>94 | 68=>143 | 69=>67 | 70=>52 | 71=>54 | 72=>55 | 73=>116 | 74=>63 | 75=>64 | 76=>65 | 77=>66 | 80=>68 | 81=>120 | 83=>81 | 84=>115 | 100=>84 | 101=>49 | 102=>70 | 103=>39 | 104=>83 | 105=>205 | 106=>206 | 111=>166 | 114=>175 | 115=>196 | 116=>197 | 117=>198 | 118=>199 | 119=>211 | 122=>195 | 123=>200 | 124=>201 | 127=>85 | 131=>72 | 135=>100 | 137=>212 | 138=>213 | 139=>214 | 146=>208 | 151=>209 | 164=>103 | 165=>104 | 166=>179 | 171=>149 | 172=>150 | 173=>151 | 174=>152 | 182=>126 | 183=>127 | 188=>125 | 189=>128 | 190=>129 | 191=>131 | 192=>132 | 211=>176 | 212=>177 | 213=>178 | 218=>154 | 219=>155 | 220=>156 | 222=>158 | 224=>157 | 225=>159 | 228=>180 | 229=>181 | 231=>182 | 232=>202 | 233=>203 | 238=>216 | 239=>217 | 240=>218 | 241=>219 | 242=>220 | 243=>221 | 244=>222 | 245=>223 | 246=>224 | 247=>225 | 248=>226 | 249=>227 | n=>n,fun | 3=>4 | 4=>5 | 17=>0 | 18=>2 | 19=>3 | n=>n⟩
set_option maxRecDepth 100000 in
theorem Tryz.lays156:Go.Proofs.Lays.n156 Tryz.prog Tryz.lays156_ren:={
 mixed:=by kernel_rfl
 f156:=Tryz.func61.trans (congrArg some (by kernel_rfl))
 f165:=Tryz.func83.trans (congrArg some (by kernel_rfl))
 f166:=Tryz.func26.trans (congrArg some (by kernel_rfl))
 f169:=Tryz.func28.trans (congrArg some (by kernel_rfl))
 f240:=Tryz.func47.trans (congrArg some (by kernel_rfl))
 f241:=Tryz.func119.trans (congrArg some (by kernel_rfl))
 f276:=Tryz.func69.trans (congrArg some (by kernel_rfl))
 f277:=Tryz.func143.trans (congrArg some (by kernel_rfl))
 t0:=Tryz.underlying0
 a0:=Tryz.isAgg0
 z0:=Tryz.sizeOf0
 v0:=Tryz.zeroValue0
 t3:=Tryz.underlying3
 a3:=Tryz.isAgg3
 z3:=Tryz.sizeOf3
 v3:=Tryz.zeroValue3
 t4:=Tryz.underlying4
 a4:=Tryz.isAgg4
 z4:=Tryz.sizeOf4
 v4:=Tryz.zeroValue4
 t9:=Tryz.underlying9
 a9:=Tryz.isAgg9
 z9:=Tryz.sizeOf9
 v9:=Tryz.zeroValue9
 t20:=Tryz.underlying20
 a20:=Tryz.isAgg20
 z20:=Tryz.sizeOf20
 v20:=Tryz.zeroValue20
 t31:=Tryz.underlying40
 a31:=Tryz.isAgg40
 z31:=Tryz.sizeOf40
 v31:=Tryz.zeroValue40
 t37:=Tryz.underlying53
 a37:=Tryz.isAgg53
 z37:=Tryz.sizeOf53
 v37:=Tryz.zeroValue53
 t70:=Tryz.underlying52
 a70:=Tryz.isAgg52
 z70:=Tryz.sizeOf52
 v70:=Tryz.zeroValue52
 t72:=Tryz.underlying55
 a72:=Tryz.isAgg55
 z72:=Tryz.sizeOf55
 v72:=Tryz.zeroValue55
 t75:=Tryz.underlying64
 a75:=Tryz.isAgg64
 z75:=Tryz.sizeOf64
 v75:=Tryz.zeroValue64
 t76:=Tryz.underlying65
 a76:=Tryz.isAgg65
 z76:=Tryz.sizeOf65
 v76:=Tryz.zeroValue65
 t127:=Tryz.underlying85
 a127:=Tryz.isAgg85
 z127:=Tryz.sizeOf85
 v127:=Tryz.zeroValue85
 t164:=Tryz.underlying103
 a164:=Tryz.isAgg103
 z164:=Tryz.sizeOf103
 v164:=Tryz.zeroValue103 }
theorem Tryz.Builder_Extra_156:Builder.Extra Tryz.prog Tryz.lays156_ren:={
 sizeBuilder:=by kernel_rfl
 liesBuilder:=by kernel_rfl
 t5:=Tryz.underlying5
 a5:=Tryz.isAgg5
 z5:=Tryz.sizeOf5
 v5:=Tryz.zeroValue5
 infoByte:=by kernel_rfl
 cellsByte:=by kernel_rfl
 sizeByte:=by kernel_rfl
 neB5:=by decide }
end Go.Proofs
namespace Go.Proofs
open Go.Shelf
def Tryz.lays190_ren:Go.Shelf.Ren:=⟨fun | 125=>68 | 128=>97 | 129=>98 | 190=>45 | 258=>67 | 302=>88 | 303=>89 | 304=>90 | 305=>91 | 306=>92 | 307=>93 | 308=>94 | 309=>95 | 310=>96 | 329=>122 | 330=>123 | 333=>121 | 334=>124 | 335=>125 | 336=>58 | 344=>145 | n=>n,fun | 22=>130 | 23=>190 | 24=>110 | 25=>111 | 27=>79 | 28=>165 | 31=>40 | 32=>112 | 33=>90 | 37=>53 | 40=>215 | 41=>95 | 42=>153 | 43=>109 | 46=>102 | 47=>101 | 48=>98 | 51=>134 | 52=>133 | 53=>136 | 54=>135 | 55=>204 | 59=>167 | 60=>168 | 63=>207 | 64=>210 | 67=>94 | 68=>143 | 69=>67 | 70=>52 | 71=>54 | 72=>55 | 73=>116 | 74=>63 | 75=>64 | 76=>65 | 77=>66 | 80=>68 | 81=>120 | 83=>81 | 84=>115 | 100=>84 | 101=>49 | 102=>70 | 103=>39 | 104=>83 | 105=>205 | 106=>206 | 111=>166 | 114=>175 | 115=>196 | 116=>197 | 117=>198 | 118=>199 | 119=>211 | 122=>195 | 123=>200 | 124=>201 | 127=>85 | 131=>72 | 135=>100 | 137=>212 | 138=>213 | 139=>214 | 146=>208 | 151=>209 | 164=>103 | 165=>104 | 166=>179 | 171=>149 | 172=>150 | 173=>151 | 174=>152 | 182=>126 | 183=>127 | 188=>125 | 189=>128 | 190=>129 | 191=>131 | 192=>132 | 211=>176 | 212=>177 | 213=>178 | 218=>154 | 219=>155 | 220=>156 | 222=>158 | 224=>157 | 225=>159 | 228=>180 | 229=>181 | 231=>182 | 232=>202 | 233=>203 | 238=>216 | 239=>217 | 240=>218 | 241=>219 | 242=>220 | 243=>221 | 244=>222 | 245=>223 | 246=>224 | 247=>225 | 248=>226 | 249=>227 | n=>n,fun | 3=>4 | 4=>5 | 17=>0 | 18=>2 | 19=>3 | n=>n⟩
set_option maxRecDepth 100000 in
theorem Tryz.lays190:Go.Proofs.Lays.n190 Tryz.prog Tryz.lays190_ren:={
 mixed:=by kernel_rfl
 f125:=Tryz.func68.trans (congrArg some (by kernel_rfl))
 f128:=Tryz.func97.trans (congrArg some (by kernel_rfl))
 f129:=Tryz.func98.trans (congrArg some (by kernel_rfl))
 f190:=Tryz.func45.trans (congrArg some (by kernel_rfl))
 f258:=Tryz.func67.trans (congrArg some (by kernel_rfl))
 f302:=Tryz.func88.trans (congrArg some (by kernel_rfl))
 f303:=Tryz.func89.trans (congrArg some (by kernel_rfl))
 f304:=Tryz.func90.trans (congrArg some (by kernel_rfl))
 f305:=Tryz.func91.trans (congrArg some (by kernel_rfl))
 f306:=Tryz.func92.trans (congrArg some (by kernel_rfl))
 f307:=Tryz.func93.trans (congrArg some (by kernel_rfl))
 f308:=Tryz.func94.trans (congrArg some (by kernel_rfl))
 f309:=Tryz.func95.trans (congrArg some (by kernel_rfl))
 f310:=Tryz.func96.trans (congrArg some (by kernel_rfl))
 f329:=Tryz.func122.trans (congrArg some (by kernel_rfl))
 f330:=Tryz.func123.trans (congrArg some (by kernel_rfl))
 f333:=Tryz.func121.trans (congrArg some (by kernel_rfl))
 f334:=Tryz.func124.trans (congrArg some (by kernel_rfl))
 f335:=Tryz.func125.trans (congrArg some (by kernel_rfl))
 f336:=Tryz.func58.trans (congrArg some (by kernel_rfl))
 f344:=Tryz.func145.trans (congrArg some (by kernel_rfl))
 t0:=Tryz.underlying0
 a0:=Tryz.isAgg0
 z0:=Tryz.sizeOf0
 v0:=Tryz.zeroValue0
 t3:=Tryz.underlying3
 a3:=Tryz.isAgg3
 z3:=Tryz.sizeOf3
 v3:=Tryz.zeroValue3
 t4:=Tryz.underlying4
 a4:=Tryz.isAgg4
 z4:=Tryz.sizeOf4
 v4:=Tryz.zeroValue4
 t5:=Tryz.underlying5
 a5:=Tryz.isAgg5
 z5:=Tryz.sizeOf5
 v5:=Tryz.zeroValue5
 t9:=Tryz.underlying9
 a9:=Tryz.isAgg9
 z9:=Tryz.sizeOf9
 v9:=Tryz.zeroValue9
 t31:=Tryz.underlying40
 a31:=Tryz.isAgg40
 z31:=Tryz.sizeOf40
 v31:=Tryz.zeroValue40
 t46:=Tryz.underlying102
 a46:=Tryz.isAgg102
 z46:=Tryz.sizeOf102
 v46:=Tryz.zeroValue102
 t51:=Tryz.underlying134
 a51:=Tryz.isAgg134
 z51:=Tryz.sizeOf134
 v51:=Tryz.zeroValue134
 t53:=Tryz.underlying136
 a53:=Tryz.isAgg136
 z53:=Tryz.sizeOf136
 v53:=Tryz.zeroValue136
 t131:=Tryz.underlying72
 a131:=Tryz.isAgg72
 z131:=Tryz.sizeOf72
 v131:=Tryz.zeroValue72
 t182:=Tryz.underlying126
 a182:=Tryz.isAgg126
 z182:=Tryz.sizeOf126
 v182:=Tryz.zeroValue126
 t183:=Tryz.underlying127
 a183:=Tryz.isAgg127
 z183:=Tryz.sizeOf127
 v183:=Tryz.zeroValue127
 t218:=Tryz.underlying154
 a218:=Tryz.isAgg154
 z218:=Tryz.sizeOf154
 v218:=Tryz.zeroValue154
 t222:=Tryz.underlying158
 a222:=Tryz.isAgg158
 z222:=Tryz.sizeOf158
 v222:=Tryz.zeroValue158
 t228:=Tryz.underlying180
 a228:=Tryz.isAgg180
 z228:=Tryz.sizeOf180
 v228:=Tryz.zeroValue180
 t229:=Tryz.underlying181
 a229:=Tryz.isAgg181
 z229:=Tryz.sizeOf181
 v229:=Tryz.zeroValue181 }
end Go.Proofs
namespace Go.Proofs.YtpeghomkaphdcaaGreatDoor
open Go.RowKit Go.Shelf Go.Sort
set_option linter.unusedVariables false
theorem enc_back (L:List ByteArray):(L.map (·.data.toList)).map encStr=L.map Value.string:=by
 rw [List.map_map]
 exact List.map_congr_left (fun x _=>by simp [encStr])
theorem merge_sort (L:List ByteArray):((L.map (·.data.toList)).mergeSort (fun x y=>decide (x<=y))).map encStr=(sortT L).map Value.string:=by
 obtain ⟨M,hM⟩:∃M,(L.map (·.data.toList)).mergeSort (fun x y=>decide (x<=y))=M:=⟨_,rfl⟩
 have hp:M.Perm (L.map (·.data.toList)):=by rw [<-hM];exact List.mergeSort_perm _ _
 have hs:M.Pairwise (fun x y=>decide (x<=y)=true):=by
  rw [<-hM]
  refine List.pairwise_mergeSort (le:=fun (x y:List UInt8)=>decide (x<=y)) (fun a b c h1 h2=>?_) (fun a b=>?_) _
  ·simp only [decide_eq_true_eq] at h1 h2 ⊢
   exact List.le_trans h1 h2
  ·have:=List.le_total a b
   simpa using this
 rw [hM]
 have e1:M.map (fun l=>(⟨l.toArray⟩:ByteArray))=sortT L:=by
  refine sortT_one ?_ ?_
  ·have h1:=hp.map (fun l=>(⟨l.toArray⟩:ByteArray))
   rw [List.map_map] at h1
   have h2:L.map ((fun l=>(⟨l.toArray⟩:ByteArray)) ∘ (·.data.toList))=L:=by
    conv=>rhs;rw [<-List.map_id L]
    exact List.map_congr_left (fun x _=>by simp)
   rw [h2] at h1
   exact h1
  ·unfold RiseT
   rw [List.pairwise_map]
   refine hs.imp (fun {a b} h=>?_)
   have h1:¬ b < a:=of_decide_eq_true h
   refine cT_flip (fun h2=>h1 ?_)
   have h3:=cT_less h2
   rw [Lib.toList_data,Lib.toList_data] at h3
   simp only [] at h3
   rw [bytesLess_eq] at h3
   simpa using h3
 rw [<-e1,List.map_map]
 rfl
theorem sortTx (ve:Value) (L:List ByteArray) (base:Nat) (w:World) (hL:L.length<=1048576) (hown:w.ownsRow base 9 1 ve L.length (L.map Value.string)) :
  Calls Tryz.prog 45 #[ve] w fun e w'=>e=.returned (.tuple #[])/\w'.ownsRow base 9 1 ve L.length ((sortT L).map Value.string)/\w.grownBy w' ve.ownBlock:=by
 rcases hown.2 with ⟨rfl,h0⟩ | ⟨g,cap,cur,rfl,hb,hg,hn,hm,hs,ht⟩
 ·refine (Any.slices_Sort_string_none Tryz.lays190 none 0 w).mono ?_
  rintro e w' ⟨rfl,rfl⟩
  have hE:L=[]:=List.eq_nil_of_length_eq_zero h0
  subst hE
  exact ⟨rfl,by rw [show sortT []=[] from List.mergeSort_nil];exact hown,⟨rfl,rfl,rfl,Nat.le_refl _,fun _ _ _=>rfl⟩⟩
 ·have hl:(L.map (·.data.toList)).length=L.length:=by simp
  have hH:Holds encStr w g 0 (L.map (·.data.toList)).toArray:=holds_of_block hg (by rw [hl,enc_back];simpa using ht)
  have key:=Any.slices_Sort_string Tryz.lays190 g 0 cap (L.map (·.data.toList)) w hH (Array.getElem?_eq_some_iff.1 hg).1 (by rw [hl];omega)
  rw [hl] at key
  refine key.mono ?_
  rintro e w' ⟨rfl,n,os,rfl⟩
  have h1:=ownsRow_sorted (n:=n) (os:=os) (ss:=L.map (·.data.toList)) (ts:=(L.map (·.data.toList)).mergeSort (fun x y=>decide (x<=y))) (by simp) hb hg (by rw [hl];exact hn) hm hs
  rw [hl,merge_sort] at h1
  exact ⟨rfl,h1,grownBy_sorted _⟩
set_option maxHeartbeats 800000 in
theorem sortedS (bm:Nat) (o:Option Addr) (c:Nat) (L:List ByteArray) (hL:L.length<=1048576) (w:World) (hbm:w.heap[bm]?=some (.cells #[.slice o L.length c] 40 (0,0))) (htx:TxS w (.slice o L.length c) L) :
  Calls Tryz.prog 24 #[.func (.func 82) #[] #[.pointer (some ⟨bm,0,none⟩)]] w fun e w'=>∃o c,e=.returned (.slice o L.length c)/\w'.ownsRow w.heap.size 9 1 (.slice o L.length c) L.length ((sortT L).map Value.string)/\w.grownBy w' none:=by
 have HA:Hid (Calls Tryz.prog 66 #[.slice none 0 0,.func (.func 82) #[] #[.pointer (some ⟨bm,0,none⟩)]] w fun e w'=>∃o c,e=.returned (.slice o L.length c)/\w'.ownsRow w.heap.size 9 1 (.slice o L.length c) L.length (L.map Value.string)/\Below w.heap.size w w'):=(callsIn_wide.1 (appS bm o c L hL w hbm htx)).mono fun e w' ⟨v,h1,h2,h3⟩=>by
  obtain ⟨o,c,rfl⟩:=own_sl h2
  exact ⟨o,c,h1,h2,h3⟩
 have HC:Hid (Calls Tryz.prog 44 #[.func (.func 82) #[] #[.pointer (some ⟨bm,0,none⟩)]] w fun e w'=>∃o c,e=.returned (.slice o L.length c)/\w'.ownsRow w.heap.size 9 1 (.slice o L.length c) L.length (L.map Value.string)/\Below w.heap.size w w'):=by
  clear hbm htx
  show Calls _ _ _ _ _
  go_enter Tryz.func44,Tryz.ntmps44
  go_wp2_with (first | (go_at_call 66;refine HA.out.mono ?_))
  rintro e w1 ⟨o1,c1,rfl,h2,h3⟩
  go_wp2
  go_ret
  exact ⟨o1,c1,rfl,h2,h3⟩
 clear hbm htx HA
 go_enter Tryz.func24,Tryz.ntmps24
 go_wp2_with (first | (go_at_call 44;refine HC.out.mono ?_))
 rintro e w1 ⟨o1,c1,rfl,hown,hb⟩
 have CS:Hid (Calls Tryz.prog 45 #[.slice o1 L.length c1] w1 fun e w'=>e=.returned (.tuple #[])/\w'.ownsRow w.heap.size 9 1 (.slice o1 L.length c1) L.length ((sortT L).map Value.string)/\w1.grownBy w' (Value.slice o1 L.length c1).ownBlock):=sortTx _ L w.heap.size w1 hL hown
 have HB:Hid (w.grownBy w1 none):=bel_gb hb
 have HLT:Hid (∀q,(Value.slice o1 L.length c1).ownBlock=some q->w.heap.size<=q):=fun q hq=>(hown.lt q hq).1
 clear hown hb
 go_wp2_with (first | (go_at_call 45;refine CS.out.mono ?_))
 rintro e w2 ⟨rfl,hown2,hg2⟩
 go_wp2
 go_ret
 exact ⟨o1,c1,rfl,hown2,gb_row0b HB.out hg2 HLT.out⟩
end Go.Proofs.YtpeghomkaphdcaaGreatDoor
namespace Go.Proofs.YtpeghomkaphdcaaGreatDoor
open Go.RowKit Go.Shelf Go.Sort
set_option linter.unusedVariables false
def qd (s:ByteArray):ByteArray:=cat (cat ⟨#[34]⟩ s) ⟨#[34]⟩
theorem qd_list (s:ByteArray):(qd s).data.toList=34 :: (s.data.toList++[34]):=by
 unfold qd
 rw [cat_list,cat_list];simp
theorem qd_size (s:ByteArray):(qd s).size=s.size+2:=by
 unfold qd
 rw [cat_size,cat_size]
 show 1+s.size+1=_
 omega
theorem quoted_any (s:ByteArray) (w:World) (hs:s.size<=1048576):Calls Tryz.prog 39 #[.string s] w fun e w'=>e=.returned (.string (qd s))/\w'=w:=by
 unfold qd
 have c1:∀wx,(Op.stringOp .add ⟨#[34]⟩ s).run Tryz.prog wx=.ok (.string (cat ⟨#[34]⟩ s)) wx:=fun wx=>add_cat _ _ wx (by show 1+_<=_;omega)
 have z1:(cat ⟨#[34]⟩ s).size=1+s.size:=cat_size _ _
 generalize cat ⟨#[34]⟩ s=Q1 at c1 z1 ⊢
 have c2:∀wx,(Op.stringOp .add Q1 ⟨#[34]⟩).run Tryz.prog wx=.ok (.string (cat Q1 ⟨#[34]⟩)) wx:=fun wx=>add_cat _ _ wx (by show _+1<=_;omega)
 generalize cat Q1 ⟨#[34]⟩=Q2 at c2 ⊢
 go_enter Tryz.func39,Tryz.ntmps39
 go_wp2
 go_ret
 exact ⟨rfl,rfl⟩
theorem tail_snoc (sep:List UInt8) (r:List (List UInt8)) (x:List UInt8):Lib.joinTail sep (r++[x])=Lib.joinTail sep r++(sep++x):=by
 unfold Lib.joinTail
 simp
theorem join_ndk (S:List ByteArray):∀k,k<=S.length->Lib.join ((S.take k).map (fun y=>(qd y).data.toList)) [44,32]=ndK S k
 | 0,_=>by simp [Lib.join_nil,ndK]
 | k+1,hk=>by
  have ih:=join_ndk S k (by omega)
  rw [ndk_step S k (by omega),List.take_succ_eq_append_getElem (by omega),List.map_append,List.map_singleton,qd_list,<-ih]
  cases k with
  | zero=>simp [Lib.join_nil,Lib.join_one]
  | succ k =>
   match hm:(S.take (k+1)).map (fun y=>(qd y).data.toList) with
   | []=>have:=congrArg List.length hm;rw [List.length_map,List.length_take] at this;simp only [List.length_nil] at this;omega
   | z :: r =>
    rw [List.cons_append,Lib.join_cons,Lib.join_cons,tail_snoc]
    simp
theorem join_tot (S:List ByteArray):Lib.join ((S.map qd).map (·.data.toList)) [44,32]=ndK S S.length:=by
 have:=join_ndk S S.length (Nat.le_refl _)
 rw [List.take_length] at this
 rw [List.map_map]
 exact this
theorem cJoin (o:Option Addr) (c:Nat) (S:List ByteArray) (base:Nat) (w:World) (h:w.ownsRow base 9 1 (.slice o S.length c) S.length ((S.map qd).map Value.string)) (hl:S.length<=20) (hs:∀y ∈ S,y.size<=1048576) :
  Calls Tryz.prog 61 #[.slice o S.length c,.string ⟨#[44,32]⟩] w fun e w'=>e=.returned (.string ⟨(ndK S S.length).toArray⟩)/\w.grownBy w' none:=by
 have hlen:(ndK S S.length).length<=140737488355328:=by
  have:=ndk_len S hs S.length (Nat.le_refl _)
  omega
 rcases h.2 with ⟨h1,h0⟩ | ⟨g,cap,cur,hv,hb,hg,hn,hm,hcs,ht⟩
 ·have hE:S=[]:=List.eq_nil_of_length_eq_zero h0
  subst hE
  refine (Any.strings_Join_none Tryz.lays156 Tryz.Builder_Extra_156 o c ⟨#[44,32]⟩ w).mono ?_
  rintro e w' ⟨rfl,rfl⟩
  exact ⟨rfl,gb_refl _ _⟩
 ·cases hv
  have e1:(S.map qd).length=S.length:=by simp
  have key:=Any.strings_Join Tryz.lays156 Tryz.Builder_Extra_156 g 0 c (S.map qd) ⟨#[44,32]⟩ w (fun j x hx=>by
   rw [Nat.zero_add]
   have:=h.cells (g:=g) rfl j (.string x) (by rw [List.getElem?_map,hx];rfl)
   rw [hzero_off] at this
   exact this) (Array.getElem?_eq_some_iff.1 hg).1 (by rw [e1];omega) (by rw [e1];exact hn) (by rw [join_tot];exact hlen)
  rw [e1,join_tot] at key
  refine key.mono ?_
  rintro e w' ⟨rfl,hb'⟩
  exact ⟨rfl,bel_gb hb'⟩
set_option maxRecDepth 100000 in
set_option maxHeartbeats 3200000 in
theorem listOf_any (v:Value) (N:List ByteArray) (w:World) (h:TxS w v N) (hN:N.length<=20) (hs:∀y ∈ N,y.size<=1048576) :
  Calls Tryz.prog 40 #[v] w fun e w'=>∃T:ByteArray,e=.returned (.string T)/\T.data.toList=91 :: (ndK (sortT N) (sortT N).length++[93])/\w.grownBy w' none:=by
 obtain ⟨o,c,rfl⟩:=txs_slice h
 obtain ⟨n,hn⟩:∃n,N.length=n:=⟨_,rfl⟩
 have hb0:=heap_alloc_new w (.cells #[.slice o n c] 40)
 have CSd:Hid (Calls Tryz.prog 24 #[.func (.func 82) #[] #[.pointer (some ⟨w.heap.size,0,none⟩)]] (w.alloc (.cells #[.slice o n c] 40)) fun e w'=>∃o c,e=.returned (.slice o n c)/\w'.ownsRow (w.heap.size+1) 9 1 (.slice o n c) n ((sortT N).map Value.string)/\w.grownBy w' none):=by
  have key:=sortedS w.heap.size o c N (by omega) (w.alloc (.cells #[.slice o n c] 40)) (by rw [hn];exact hb0) (by rw [<-hn];exact h.grow (gb_alloc (gb_refl w none) _))
  refine key.mono fun e w' ⟨o2,c2,h1,h2,h3⟩=>⟨o2,c2,by rw [<-hn];exact h1,?_,gb_trans (gb_alloc (gb_refl w none) _) h3⟩
  rw [World.size_alloc,hn] at h2
  exact h2
 obtain ⟨S,hS⟩:∃S,sortT N=S:=⟨_,rfl⟩
 have hSl:S.length=n:=by rw [<-hS,(sortT_perm N).length_eq,hn]
 have HSS:Hid (∀y ∈ S,y.size<=1048576):=fun y hy=>hs y ((sortT_perm N).subset (by rw [hS];exact hy))
 have HSL:Hid (S.length=n):=hSl
 rw [hS] at CSd ⊢
 have CQ:Hid (∀y ∈ S,∀w,Calls Tryz.prog 39 #[.string y] w fun e w'=>e=.returned (.string (qd y))/\w'=w):=fun y hy w=>quoted_any y w (HSS.out y hy)
 have CJ:Hid (∀(o:Option Addr) (c:Nat) (wx:World),wx.ownsRow (w.heap.size+1) 9 1 (.slice o n c) n ((S.map qd).map Value.string)->Calls Tryz.prog 61 #[.slice o n c,.string ⟨#[44,32]⟩] wx fun e w'=>e=.returned (.string ⟨(ndK S S.length).toArray⟩)/\wx.grownBy w' none):=fun o c wx h=>by
  have key:=cJoin o c S (w.heap.size+1) wx (by rw [hSl];exact h) (by omega) HSS.out
  rw [hSl] at key ⊢
  exact key
 obtain ⟨J,hJ⟩:∃J:ByteArray,⟨(ndK S S.length).toArray⟩=J:=⟨_,rfl⟩
 have hJl:J.data.toList=ndK S S.length:=by rw [<-hJ]
 have hJs:J.size<=20 * 1048580:=by
  have h1:=ndk_len S HSS.out S.length (Nat.le_refl _)
  have h2:J.size=(ndK S S.length).length:=by rw [<-hJl];simp
  omega
 rw [hJ] at CJ
 have c1:∀wx,(Op.stringOp .add ⟨#[91]⟩ J).run Tryz.prog wx=.ok (.string (cat ⟨#[91]⟩ J)) wx:=fun wx=>add_cat _ _ wx (by show 1+_<=_;omega)
 have z1:(cat ⟨#[91]⟩ J).size=1+J.size:=cat_size _ _
 have l1:=cat_list ⟨#[91]⟩ J
 generalize cat ⟨#[91]⟩ J=Q1 at c1 z1 l1
 have c2:∀wx,(Op.stringOp .add Q1 ⟨#[93]⟩).run Tryz.prog wx=.ok (.string (cat Q1 ⟨#[93]⟩)) wx:=fun wx=>add_cat _ _ wx (by show _+1<=_;omega)
 have l2:=cat_list Q1 ⟨#[93]⟩
 generalize cat Q1 ⟨#[93]⟩=Q2 at c2 l2
 have HQ2:Hid (Q2.data.toList=91 :: (ndK S S.length++[93])):=by
  show _=_
  rw [l2,l1,hJl];simp
 rw [hn]
 rw [hn] at hN
 clear h hs hb0 hS hSl hJ hJl z1 l1 l2 hn hJs
 go_enter Tryz.func40,Tryz.ntmps40
 go_wp2_with (first | (go_at_call 60;refine (valS_any _ _ _ _).mono ?_;rintro e w' ⟨rfl,rfl⟩) | (go_at_call 24;refine CSd.out.mono ?_))
 rintro e w2 ⟨o2,c2,rfl,hown,hg⟩
 have HO:Hid (w2.ownsRow (w.heap.size+1) 9 1 (.slice o2 n c2) n ((((S.take 0).map qd)++S.drop 0).map Value.string)):=hown
 have HG:Hid (w.grownBy w2 none):=hg
 clear hown hg
 go_wp2
 go_loopw [11] (fun vi wr=>∃i:Nat,vi=.int .i64 i/\i<=n/\wr.ownsRow (w.heap.size+1) 9 1 (.slice o2 n c2) n ((((S.take i).map qd)++S.drop i).map Value.string)/\w.grownBy wr none) (fun vi _=>n - (intOf vi).toNat)
 case atStart=>exact ⟨0,rfl,Nat.zero_le _,HO.out,HG.out⟩
 case round =>
  obtain ⟨i,rfl,hi,hrow,hgr⟩:=hrel
  have HRW:Hid (wr.ownsRow (w.heap.size+1) 9 1 (.slice o2 n c2) n ((((S.take i).map qd)++S.drop i).map Value.string)):=hrow
  have HGR:Hid (w.grownBy wr none):=hgr
  by_cases hlt:i < n
  ·have hlS:i < S.length:=by rw [HSL.out];exact hlt
   obtain ⟨y,hy⟩:∃y,S[i]=y:=⟨_,rfl⟩
   have HD:Hid (S.drop i=y :: S.drop (i+1)):=by
    show _=_
    rw [List.drop_eq_getElem_cons hlS,hy]
   have CY:Hid (∀w,Calls Tryz.prog 39 #[.string y] w fun e w'=>e=.returned (.string (qd y))/\w'=w):=fun w=>CQ.out y (by rw [<-hy];exact List.getElem_mem _) w
   have HNX:Hid ((S.take (i+1)).map qd=(S.take i).map qd++[qd y]):=by
    show _=_
    rw [List.take_succ_eq_append_getElem hlS,List.map_append,hy];rfl
   obtain ⟨g,rfl,hgc⟩:∃g,o2=some ⟨g,0,none⟩/\n<=c2:=by
    rcases hrow.2 with ⟨h1,h0⟩ | ⟨g,cap,cur,hv,hb,hgb,hn',_⟩
    ·omega
    ·cases hv;exact ⟨g,rfl,hn'⟩
   have HTL:Hid (((S.take i).map qd).length=i):=by show _=_;rw [List.length_map,List.length_take];omega
   have d1:wr.cell? ⟨g,i,none⟩=some (.string y):=by
    have h1:=HRW.out
    rw [HD.out] at h1
    have:=srow_cell h1
    rw [HTL.out] at this
    exact this
   have ff:=hown_f HRW.out i
   have HGB:Hid (w.heap.size+1<=g):=(hrow.lt g rfl).1
   clear hrow hgr hy
   go_wp2_with (first | (go_at_call 39;refine (CY.out _).mono ?_;rintro e w' ⟨rfl,rfl⟩))
   refine ⟨⟨i+1,by go_num,by omega,?_,?_⟩,by simp [intOf];omega⟩
   ·have h1:=hown_set HRW.out i (.string (qd y)) (by omega)
    rw [HD.out] at h1
    rw [HNX.out]
    have e1:(((S.take i).map qd++y :: S.drop (i+1)).map Value.string).set i (.string (qd y))=(((S.take i).map qd++[qd y])++S.drop (i+1)).map Value.string:=by
     rw [List.map_append,List.set_append_right _ _ (by rw [List.length_map,HTL.out];omega),List.length_map,HTL.out,Nat.sub_self]
     simp
    rw [e1] at h1
    exact h1
   ·exact gb_row0b HGR.out (gb_set (gb_refl _ (some g)) _ _) (fun q hq=>by injection hq with hq;have:=HGB.out;omega)
  ·have hie:i=n:=by omega
   have CJJ:Hid (Calls Tryz.prog 61 #[.slice o2 n c2,.string ⟨#[44,32]⟩] wr fun e w'=>e=.returned (.string J)/\wr.grownBy w' none):=CJ.out o2 c2 wr (by
    rw [hie,<-HSL.out,List.take_length,List.drop_length,List.append_nil] at hrow
    rw [HSL.out] at hrow
    exact hrow)
   clear hrow hgr hie hi
   go_wp2_with (first | (go_at_call 61;refine CJJ.out.mono ?_;rintro e w3 ⟨rfl,hg3⟩))
   go_ret
   exact ⟨Q2,rfl,HQ2.out,gb_trans HGR.out hg3⟩
end Go.Proofs.YtpeghomkaphdcaaGreatDoor
