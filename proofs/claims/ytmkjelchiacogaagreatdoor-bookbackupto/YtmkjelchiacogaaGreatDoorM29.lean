import Derived.Shelf.SlSortCmp.NoneTotal
import Derived.Test.YtmkjelchiacogaaGreatDoorProg
import Derived.Test.YtmkjelchiacogaaGreatDoorM28
import Derived.Test.YtmkjelchiacogaaGreatDoorM22
import Derived.Shelf.Strings.OnBuilder
import Derived.Shelf.Sort.Plain
import Derived.Shelf.Slices.In.SortNone
import Derived.Sort.OwnSorted
import Derived.Lib.Join
set_option linter.unusedVariables false
set_option linter.unusedSimpArgs false
set_option maxRecDepth 100000
set_option maxHeartbeats 6400000
open Go.Proofs.Tryz
namespace Go.Proofs
open Go.Shelf
def Tryz.laysSortE_ren:Go.Shelf.Ren:=⟨fun|6=>59|14=>100|15=>101|20=>139|21=>140|22=>141|23=>142|24=>143|25=>144|26=>145|27=>146|28=>147|29=>148|46=>179|47=>180|48=>181|49=>182|50=>183|57=>220|n=>n,fun|22=>26|23=>120|24=>44|25=>67|27=>88|28=>217|29=>218|30=>219|37=>174|38=>175|39=>176|40=>60|41=>257|42=>141|44=>227|45=>228|46=>229|47=>230|48=>231|49=>232|50=>59|51=>233|52=>234|53=>235|54=>236|55=>237|56=>286|57=>287|58=>288|59=>289|60=>290|66=>264|67=>265|68=>266|69=>267|70=>268|71=>269|72=>305|73=>306|76=>297|77=>298|78=>299|79=>323|81=>77|82=>333|83=>334|84=>335|85=>336|86=>337|87=>140|88=>339|89=>151|90=>340|91=>126|92=>341|93=>342|94=>343|95=>344|96=>143|n=>n,fun n=>n⟩
theorem Tryz.laysSortE:Go.Proofs.SlLaysF0.n6 prog Tryz.laysSortE_ren:={
 mixed:=by kernel_rfl
 f6:=⟨ "slices.SortFunc[[]pantry/api.Entry,pantry/api.Entry]",by decide,func59.trans (congrArg some (by kernel_rfl))⟩
 f14:=⟨ "slices.pdqsortCmpFunc[pantry/api.Entry]",by decide,func100.trans (congrArg some (by kernel_rfl))⟩
 f15:=func101.trans (congrArg some (by kernel_rfl))
 f20:=⟨ "slices.insertionSortCmpFunc[pantry/api.Entry]",by decide,func139.trans (congrArg some (by kernel_rfl))⟩
 f21:=⟨ "slices.heapSortCmpFunc[pantry/api.Entry]",by decide,func140.trans (congrArg some (by kernel_rfl))⟩
 f22:=⟨ "slices.breakPatternsCmpFunc[pantry/api.Entry]",by decide,func141.trans (congrArg some (by kernel_rfl))⟩
 f23:=⟨ "slices.choosePivotCmpFunc[pantry/api.Entry]",by decide,func142.trans (congrArg some (by kernel_rfl))⟩
 f24:=⟨ "slices.reverseRangeCmpFunc[pantry/api.Entry]",by decide,func143.trans (congrArg some (by kernel_rfl))⟩
 f25:=⟨ "slices.partialInsertionSortCmpFunc[pantry/api.Entry]",by decide,func144.trans (congrArg some (by kernel_rfl))⟩
 f26:=⟨ "slices.partitionEqualCmpFunc[pantry/api.Entry]",by decide,func145.trans (congrArg some (by kernel_rfl))⟩
 f27:=⟨ "slices.partitionCmpFunc[pantry/api.Entry]",by decide,func146.trans (congrArg some (by kernel_rfl))⟩
 f28:=func147.trans (congrArg some (by kernel_rfl))
 f29:=func148.trans (congrArg some (by kernel_rfl))
 f46:=⟨ "slices.siftDownCmpFunc[pantry/api.Entry]",by decide,func179.trans (congrArg some (by kernel_rfl))⟩
 f47:=func180.trans (congrArg some (by kernel_rfl))
 f48:=func181.trans (congrArg some (by kernel_rfl))
 f49:=⟨ "slices.medianAdjacentCmpFunc[pantry/api.Entry]",by decide,func182.trans (congrArg some (by kernel_rfl))⟩
 f50:=⟨ "slices.medianCmpFunc[pantry/api.Entry]",by decide,func183.trans (congrArg some (by kernel_rfl))⟩
 f57:=⟨ "slices.order2CmpFunc[pantry/api.Entry]",by decide,func220.trans (congrArg some (by kernel_rfl))⟩
 t0:=underlying0
 a0:=isAgg0
 z0:=sizeOf0
 v0:=zeroValue0
 t3:=underlying3
 a3:=isAgg3
 z3:=sizeOf3
 v3:=zeroValue3
 t4:=underlying4
 a4:=isAgg4
 z4:=sizeOf4
 v4:=zeroValue4
 t5:=underlying5
 a5:=isAgg5
 z5:=sizeOf5
 v5:=zeroValue5
 t9:=underlying9
 a9:=isAgg9
 z9:=sizeOf9
 v9:=zeroValue9
 t22:=underlying26
 a22:=isAgg26
 z22:=sizeOf26
 v22:=zeroValue26
 t25:=underlying67
 a25:=isAgg67
 z25:=sizeOf67
 v25:=zeroValue67
 t39:=underlying176
 a39:=isAgg176
 z39:=sizeOf176
 v39:=zeroValue176
 t45:=underlying228
 a45:=isAgg228
 z45:=sizeOf228
 v45:=zeroValue228
 t46:=underlying229
 a46:=isAgg229
 z46:=sizeOf229
 v46:=zeroValue229
 t50:=underlying59
 a50:=isAgg59
 z50:=sizeOf59
 v50:=zeroValue59
 t53:=underlying235
 a53:=isAgg235
 z53:=sizeOf235
 v53:=zeroValue235
 t55:=underlying237
 a55:=isAgg237
 z55:=sizeOf237
 v55:=zeroValue237
 t66:=underlying264
 a66:=isAgg264
 z66:=sizeOf264
 v66:=zeroValue264
 t70:=underlying268
 a70:=isAgg268
 z70:=sizeOf268
 v70:=zeroValue268
 t76:=underlying297
 a76:=isAgg297
 z76:=sizeOf297
 v76:=zeroValue297
 t77:=underlying298
 a77:=isAgg298
 z77:=sizeOf298
 v77:=zeroValue298 }
end Go.Proofs
namespace Go.Proofs.YtmkjelchiacogaaGreatDoor
open Go.RowKit Go.Shelf Go.Sort
theorem OT(s:ByteArray)(w:World):Calls prog 61 #[.string s] w fun e w'=>e=.returned (.bool false)/\w'=w:=by
 go_enter func61,ntmps61;go_wp2;go_ret;exact⟨rfl,rfl⟩
theorem af0(a b:ByteArray)(w:World):Calls prog 29 #[.string a,.string b] w fun e w'=>e=.returned (.int .i64 (cT a b))/\w'=w:=by
 unfold cT
 cases h1:Op.bytesLess a.toList b.toList with
 | true =>
  rw[Vs h1];go_enter func29,ntmps29;go_wp2_with (go_at_call 61;refine(OT _ _).mono ?_;rintro e w' ⟨rfl,rfl⟩);go_ret;exact⟨rfl,rfl⟩
 | false =>
  cases h2:(!a.toList == b.toList) with
  | true =>
   rw[adt h1 h2];go_enter func29,ntmps29;go_wp2_with (go_at_call 61;refine(OT _ _).mono ?_;rintro e w' ⟨rfl,rfl⟩);go_ret;exact⟨rfl,rfl⟩
  | false =>
   rw[adu h2];go_enter func29,ntmps29;go_wp2_with (go_at_call 61;refine(OT _ _).mono ?_;rintro e w' ⟨rfl,rfl⟩);go_ret;exact⟨rfl,rfl⟩
theorem af1{w w':World}(hg:w.grownBy w' none)(hd:w.drawn<=w'.drawn):∃q os,w'=grow (w.drewN q) os:=by
 refine⟨w'.drawn-w.drawn,w'.heap.extract w.heap.size w'.heap.size,?_⟩;have hh:w'.heap=w.heap++w'.heap.extract w.heap.size w'.heap.size:=by
  apply Array.ext_getElem?;intro k
  by_cases hk:k<w.heap.size
  ·rw[Array.getElem?_append_left hk];exact hg.block k hk (by simp)
  ·rw[Array.getElem?_append_right (by omega),Array.getElem?_extract]
   by_cases hk2:k<w'.heap.size
   ·rw[if_pos (by omega)];congr 1;omega
   ·rw[if_neg (by omega),Array.getElem?_eq_none (by omega)]
 have h1:=hg.os;have h2:=hg.tape;have h3:=hg.output
 cases w';cases w
 simp only[grow,World.drewN,World.mk.injEq]at *;exact⟨hh,h2,by omega,h1,h3⟩
theorem af2(x y:Ec)(w:World):Calls prog 28 #[AP x,AP y] w fun e w'=>e=.returned (.int .i64 (cT x.nm y.nm))/\∃q os,w'=grow (w.drewN q) os:=by
 have CC:Hd (∀w,Calls prog 29 #[.string x.nm,.string y.nm] w fun e w'=>e=.returned (.int .i64 (cT x.nm y.nm))/\w'=w):=fun w=>af0 _ _ w
 unfold AP;go_enter func28,ntmps28;go_wp2_with (go_at_call 29;refine(CC.o _).mono ?_;rintro e w' ⟨rfl,rfl⟩);go_ret;exact⟨rfl,af1 (aP (aP (ai w none) _) _) (Nat.le_refl _)⟩
instance:Inhabited Ec:=⟨⟨⟨#[]⟩,⟨#[]⟩,⟨#[]⟩,none,0,0⟩⟩
def AQ(x y:Ec):Int:=cT x.nm y.nm
theorem af4:SWO (ltOf AQ) where
 irrefl x:=by
  unfold ltOf AQ;apply decide_eq_false;rw[qm.self];omega
 trans x y z h1 h2:=by
  unfold ltOf AQ at *;have a1:=of_decide_eq_true h1;have a2:=of_decide_eq_true h2;refine decide_eq_true ?_;have t:=qm.trans x.nm y.nm z.nm (by omega) (by omega);have r:=qm.rng x.nm z.nm
  by_cases h0:cT x.nm z.nm=0
  ·have:=t.2.2 h0;omega
  ·have:=t.1;omega
 ntrans x y z h1 h2:=by
  unfold ltOf AQ at *;have a1:=of_decide_eq_false h1;have a2:=of_decide_eq_false h2;apply decide_eq_false;have t:=qm.trans z.nm y.nm x.nm (by have:=qm.anti y.nm z.nm;omega) (by have:=qm.anti x.nm y.nm;omega);have:=qm.anti x.nm z.nm;omega
theorem OU(l:List Ec):∀(i:Nat) (hi:i<l.length) (k:Nat) (u:Value),(dn l[i])[k]?=some u->(l.flatMap dn)[i*4+k]?=some u:=by
 induction l with
 | nil=>intro i hi;simp at hi
 | cons t l ih =>
  intro i hi k u h;rw[List.flatMap_cons];have hl:(dn t).length=4:=rfl
  cases i with
  | zero =>
   simp only[List.getElem_cons_zero]at h;have hk:k<(dn t).length:=(List.getElem?_eq_some_iff.1 h).1;rw[Nat.zero_mul,Nat.zero_add,List.getElem?_append_left hk];exact h
  | succ i =>
   simp only[List.getElem_cons_succ]at h;rw[List.getElem?_append_right (by rw[hl];omega),hl,show(i+1)*4+k-4=i*4+k by omega];exact ih i (by simpa using hi) k u h
theorem af5(w:World)(blk off size:Nat):CmpLays prog 28 #[] dn 4 AQ blk off size w:=by
 intro m os dk hdk x y;exact af2 x y _
theorem Ye(x:Ec):(dn x).length=4:=rfl
theorem OV(d:Array Ec):(flatK dn 4 d).toList=d.toList.flatMap dn:=by
 apply List.ext_getElem?;intro j;have hl:(d.toList.flatMap dn).length=d.size*4:=by
  have:∀L:List Ec,(L.flatMap dn).length=L.length*4:=by
   intro L
   induction L with
   | nil=>rfl
   | cons e L ih=>rw[List.flatMap_cons,List.length_append,ih,List.length_cons];show 4+_=_;omega
  rw[this];simp
 by_cases hj:j<d.size*4
 ·have hi:j / 4<d.size:=by omega
  have h1:(flatK dn 4 d).toList[j]?=some ((dn d[j / 4]!)[j % 4]!):=by
   rw[Array.getElem?_toList,Array.getElem?_eq_getElem (by simpa using hj)];have:=get_flatK dn 4 d j hj;rw[getElem!_pos _ j (by simpa using hj)]at this;rw[this]
  have h2:=OU d.toList (j / 4) (by simpa using hi) (j % 4) ((dn d[j / 4]!)[j % 4]!) (by
   rw[getElem!_pos d (j / 4) hi];have hk:j % 4<(dn d[j / 4]).length:=by rw[Ye];omega
   rw[getElem!_pos _ (j % 4) hk];rw[Array.getElem_toList];exact List.getElem?_eq_getElem hk)
  rw[show j / 4*4+j % 4=j by omega]at h2;rw[h1,h2]
 ·rw[List.getElem?_eq_none (by simp;omega),List.getElem?_eq_none (by rw[hl];omega)]
theorem egE:∀args w,(callFunc 28 args).run prog w=.ok (.enter 28 args) w:=enters_of func28 (by kernel_rfl) rfl
def IV(E:List Ec):Prop:=E.Pairwise (fun a b=>cT a.nm b.nm<=0)
theorem af6(ve:Value)(E:List Ec)(base:Nat)(w:World)(hown:w.ownsRow base 44 4 ve E.length (E.flatMap dn))(hlen:E.length<=8388608) :
  Calls prog 59 #[ve,.func (.func 28) #[] #[]] w fun e w'=>e=.returned (.tuple #[])/\∃E':List Ec,E'.Perm E/\IV E'/\w'.ownsRow base 44 4 ve E'.length (E'.flatMap dn)/\w.grownBy w' ve.ownBlock:=by
 obtain⟨D,hD⟩:∃D:Array Ec,D.toList=E:=⟨E.toArray,by simp⟩;have hDs:D.size=E.length:=by rw[<-hD];simp
 have hown':=hown
 rcases hown.2 with⟨rfl,h0⟩|⟨g,cap,cur,rfl,hb,hg,hn,hm,hs,ht⟩
 ·refine(AnyF.slices_SortFunc_none Tryz.laysSortE none 0 (.func (.func 28) #[] #[]) w).mono ?_;rintro e w' ⟨rfl,rfl⟩;have hE:E=[]:=List.eq_nil_of_length_eq_zero h0;subst hE;exact⟨rfl,[],List.Perm.refl _,List.Pairwise.nil,hown',⟨rfl,rfl,rfl,Nat.le_refl _,fun _ _ _=>rfl⟩⟩
 ·have hH:HoldsK dn 4 w g 0 D:=by
   intro j hj;have hj':j<(E.flatMap dn).length:=by rw[hown.1,<-hDs];simpa using hj
   refine⟨?_,Lib.frozen_of_heap hg _⟩;have h1:(flatK dn 4 D).toList[j]?=(E.flatMap dn)[j]?:=by rw[OV,hD]
   rw[Array.getElem?_toList,Array.getElem?_eq_getElem hj]at h1;rw[Nat.zero_add,ae hg];rw[getElem!_pos _ j hj];show cur[j]?=some (id _);rw[id,h1,<-ht,List.getElem?_take_of_lt (by rw[hown.1]at hj';exact hj')];simp
  rw[<-hDs];refine(AnyQ.slices_SortFunc Tryz.laysSortE 4 isAgg44 sizeOf44 dn Ye Yd AQ af4 28 #[] g 0 cap D w egE (af5 w g 0 D.size) hH (bz hg) (by omega)).mono ?_;rintro e w' ⟨rfl,d',m,os,hperm,hsort,hw'⟩;have hds:d'.size=D.size:=hperm.1;have hgl:g<w.heap.size:=(bz hg);have hheap:w'.heap=(w.heap.modify g (onCells (putCells id 0 (flatK dn 4 d'))))++os:=by rw[hw'];rfl
  have hg':w'.heap[g]?=some (.cells (putCells id 0 (flatK dn 4 d') cur) 44):=by
   rw[hheap,Array.getElem?_append_left (by simpa using hgl),Array.getElem?_modify,if_pos rfl,hg];rfl
  have hFs:(flatK dn 4 d').size=D.size*4:=by simp[hds]
  have hcs:D.size*4<=cur.size:=by rw[hs,hDs];omega
  have hlen2:(d'.toList.flatMap dn).length=D.size*4:=by rw[<-OV,Array.length_toList,hFs]
  refine⟨rfl,d'.toList,?_,?_,⟨?_,.inr ⟨g,cap,_,?_,hb,hg',?_,hm,?_,?_⟩⟩,?_⟩
  ·rw[<-hD];have:=hperm.2.2;rw[Array.extract_size]at this;rw[show d'.extract 0 D.size=d' by rw[<-hds,Array.extract_size]]at this;exact this
  ·unfold IV;rw[List.pairwise_iff_getElem];intro i j hi hj hij;simp only[Array.length_toList]at hi hj;have:=hsort i j (Nat.zero_le _) hij (by omega);rw[getElem!_pos d' j hj,getElem!_pos d' i hi]at this;have h3:=of_decide_eq_false this;simp only[Array.getElem_toList];exact NC h3
  ·rw[hlen2];simp[hds]
  ·simp[hds]
  ·simp[hds];omega
  ·simp[putCells,hs]
  ·rw[show d'.toList.length=D.size by simp[hds],<-OV];apply List.ext_getElem?;intro j
   by_cases hj:j<D.size*4
   ·rw[List.getElem?_take_of_lt hj,Array.getElem?_toList,Array.getElem?_toList];rw[putCells,Array.getElem?_mapIdx,Array.getElem?_eq_getElem (show j<cur.size by omega)];rw[Option.map_some,if_pos ⟨Nat.zero_le _,by omega⟩,Nat.sub_zero,id,getElem!_pos _ j (by omega)];exact(Array.getElem?_eq_getElem _).symm
   ·rw[List.getElem?_eq_none (by simp;omega),List.getElem?_eq_none (by rw[Array.length_toList];omega)]
  ·refine⟨by rw[hw'];rfl,by rw[hw'];rfl,by rw[hw'];rfl,?_,?_⟩
   ·rw[hheap];simp
   ·intro k hk hne;have hkg:g≠k:=by
     intro h;subst h;exact hne rfl
    rw[hheap,Array.getElem?_append_left (by simpa using hk),Array.getElem?_modify,if_neg hkg]
theorem af7(bm:Nat)(o:Option Addr)(c:Nat)(L:List Ec)(hL:L.length<=1048576)(w:World)(hbm:w.heap[bm]?=some (.cells #[.slice o L.length c] 26 (0,0)))(htx:EcS w (.slice o L.length c) L) :
  Calls prog 99 #[.slice none 0 0,.func (.func 60) #[] #[.pointer (some ⟨bm,0,none⟩)]] w fun e w'=>∃v,e=.returned v/\w'.ownsRow w.heap.size 44 4 v L.length (L.flatMap dn)/\Below w.heap.size w w':=callsIn_wide.1 (afZ bm o c L hL w hbm htx)
theorem Yf{w:World}{base:Nat}{e:TypeId}{sz:Nat}{v:Value}{n:Nat}{xs:List Value}(h:w.ownsRow base e sz v n xs):∃o c,v=.slice o n c:=by
 rcases h.2 with⟨rfl,h0⟩|⟨g,cap,cur,rfl,_⟩
 ·exact⟨none,0,by rw[h0]⟩
 ·exact⟨_,_,rfl⟩
theorem af8(bm:Nat)(o:Option Addr)(c:Nat)(L:List Ec)(hL:L.length<=1048576)(w:World)(hbm:w.heap[bm]?=some (.cells #[.slice o L.length c] 26 (0,0)))(htx:EcS w (.slice o L.length c) L) :
  Calls prog 58 #[.func (.func 60) #[] #[.pointer (some ⟨bm,0,none⟩)]] w fun e w'=>∃o c,e=.returned (.slice o L.length c)/\w'.ownsRow w.heap.size 44 4 (.slice o L.length c) L.length (L.flatMap dn)/\Below w.heap.size w w':=by
 have CA:Hd (Calls prog 99 #[.slice none 0 0,.func (.func 60) #[] #[.pointer (some ⟨bm,0,none⟩)]] w fun e w'=>∃o c,e=.returned (.slice o L.length c)/\w'.ownsRow w.heap.size 44 4 (.slice o L.length c) L.length (L.flatMap dn)/\Below w.heap.size w w'):=(af7 bm o c L hL w hbm htx).mono fun e w' ⟨v,h1,h2,h3⟩=>by
  obtain⟨o,c,rfl⟩:=Yf h2;exact⟨o,c,h1,h2,h3⟩
 clear hbm htx;go_enter func58,ntmps58;go_wp2_with (go_at_call 99;refine CA.o.mono ?_);rintro e w1 ⟨o1,c1,rfl,h2,h3⟩;go_wp2;go_ret;exact⟨o1,c1,rfl,h2,h3⟩
theorem af9(bm:Nat)(o:Option Addr)(c:Nat)(L:List Ec)(hL:L.length<=1048576)(w:World)(hbm:w.heap[bm]?=some (.cells #[.slice o L.length c] 26 (0,0)))(htx:EcS w (.slice o L.length c) L) :
  Calls prog 26 #[.func (.func 60) #[] #[.pointer (some ⟨bm,0,none⟩)],.func (.func 28) #[] #[]] w fun e w'=>∃(E:List Ec) (o:Option Addr) (c:Nat),e=.returned (.slice o E.length c)/\E.Perm L/\IV E/\w'.ownsRow w.heap.size 44 4 (.slice o E.length c) E.length (E.flatMap dn)/\w.grownBy w' none:=by
 have CC:=af8 bm o c L hL w hbm htx;have HC:Hd (Calls prog 58 #[.func (.func 60) #[] #[.pointer (some ⟨bm,0,none⟩)]] w fun e w'=>∃o c,e=.returned (.slice o L.length c)/\w'.ownsRow w.heap.size 44 4 (.slice o L.length c) L.length (L.flatMap dn)/\Below w.heap.size w w'):=CC;clear hbm htx CC;go_enter func26,ntmps26;go_wp2_with (go_at_call 58;refine HC.o.mono ?_);rintro e w1 ⟨o1,c1,rfl,hown,hb⟩;have CS:Hd (Calls prog 59 #[.slice o1 L.length c1,.func (.func 28) #[] #[]] w1 fun e w'=>e=.returned (.tuple #[])/\∃E':List Ec,E'.Perm L/\IV E'/\w'.ownsRow w.heap.size 44 4 (.slice o1 L.length c1) E'.length (E'.flatMap dn)/\w1.grownBy w' (Value.slice o1 L.length c1).ownBlock):=af6 _ L w.heap.size w1 hown (by omega);have HB:Hd (w.grownBy w1 none):=pX hb;have dE:Hd (∀q,(Value.slice o1 L.length c1).ownBlock=some q->w.heap.size<=q):=fun q hq=>(hown.lt q hq).1
 clear hown hb;go_wp2_with (go_at_call 59;refine CS.o.mono ?_);rintro e w2 ⟨rfl,E',hp,hr,hown2,hg2⟩;go_wp2;refine bodyPost_ret (results_tmp (t:=4) rfl _ _ _) rfl ⟨E',o1,c1,by rw[hp.length_eq];rfl,hp,hr,by rw[hp.length_eq]at hown2 ⊢;exact hown2,?_⟩;exact⟨hg2.os.trans HB.o.os,hg2.tape.trans HB.o.tape,hg2.output.trans HB.o.output,Nat.le_trans HB.o.size hg2.size,fun k hk hn=>(hg2.block k (Nat.lt_of_lt_of_le hk HB.o.size) (fun e=>by have:=dE.o k e.symm;omega)).trans (HB.o.block k hk hn)⟩
end Go.Proofs.YtmkjelchiacogaaGreatDoor
namespace Go.Proofs
open Go.Shelf
def Tryz.lays156_ren:Go.Shelf.Ren:=⟨fun|156=>66|165=>107|166=>30|169=>34|240=>62|241=>155|276=>102|277=>197|n=>n,fun|22=>263|24=>169|25=>170|27=>66|28=>88|31=>41|32=>172|33=>118|35=>219|37=>69|40=>312|41=>127|42=>220|43=>218|46=>176|47=>175|48=>132|49=>351|51=>235|52=>234|53=>237|54=>236|55=>258|67=>125|69=>75|70=>68|71=>70|72=>71|73=>112|74=>49|75=>50|76=>72|77=>73|78=>161|79=>283|80=>77|81=>140|83=>74|84=>178|85=>318|86=>319|94=>165|100=>179|101=>56|102=>57|103=>171|104=>78|105=>284|106=>285|108=>328|111=>141|112=>221|114=>270|119=>313|126=>303|127=>126|128=>304|131=>59|135=>243|137=>314|138=>315|139=>316|143=>330|144=>331|145=>332|164=>143|165=>177|166=>279|167=>317|168=>320|169=>321|170=>322|171=>238|172=>239|173=>240|174=>241|175=>324|176=>325|182=>228|183=>229|188=>274|189=>275|190=>276|191=>277|192=>278|209=>326|210=>327|211=>271|212=>272|213=>273|214=>329|218=>264|219=>265|220=>266|222=>268|224=>300|225=>301|228=>297|229=>298|231=>311|232=>309|233=>310|238=>333|239=>334|240=>335|241=>336|242=>337|243=>339|244=>151|245=>340|246=>341|247=>342|248=>343|249=>344|n=>n,fun|1=>7|3=>10|4=>11|15=>12|16=>13|17=>6|18=>8|19=>9|n=>n⟩
theorem Tryz.lays156:Go.Proofs.Lays.n156 prog Tryz.lays156_ren:={
 mixed:=by kernel_rfl
 f156:=func66.trans (congrArg some (by kernel_rfl))
 f165:=func107.trans (congrArg some (by kernel_rfl))
 f166:=func30.trans (congrArg some (by kernel_rfl))
 f169:=func34.trans (congrArg some (by kernel_rfl))
 f240:=func62.trans (congrArg some (by kernel_rfl))
 f241:=func155.trans (congrArg some (by kernel_rfl))
 f276:=func102.trans (congrArg some (by kernel_rfl))
 f277:=func197.trans (congrArg some (by kernel_rfl))
 t0:=underlying0
 a0:=isAgg0
 z0:=sizeOf0
 v0:=zeroValue0
 t3:=underlying3
 a3:=isAgg3
 z3:=sizeOf3
 v3:=zeroValue3
 t4:=underlying4
 a4:=isAgg4
 z4:=sizeOf4
 v4:=zeroValue4
 t9:=underlying9
 a9:=isAgg9
 z9:=sizeOf9
 v9:=zeroValue9
 t20:=underlying20
 a20:=isAgg20
 z20:=sizeOf20
 v20:=zeroValue20
 t31:=underlying41
 a31:=isAgg41
 z31:=sizeOf41
 v31:=zeroValue41
 t37:=underlying69
 a37:=isAgg69
 z37:=sizeOf69
 v37:=zeroValue69
 t70:=underlying68
 a70:=isAgg68
 z70:=sizeOf68
 v70:=zeroValue68
 t72:=underlying71
 a72:=isAgg71
 z72:=sizeOf71
 v72:=zeroValue71
 t75:=underlying50
 a75:=isAgg50
 z75:=sizeOf50
 v75:=zeroValue50
 t76:=underlying72
 a76:=isAgg72
 z76:=sizeOf72
 v76:=zeroValue72
 t127:=underlying126
 a127:=isAgg126
 z127:=sizeOf126
 v127:=zeroValue126
 t164:=underlying143
 a164:=isAgg143
 z164:=sizeOf143
 v164:=zeroValue143 }
theorem Tryz.Builder_Extra_156:Builder.Extra prog Tryz.lays156_ren:={
 sizeBuilder:=by kernel_rfl
 liesBuilder:=by kernel_rfl
 t5:=underlying5
 a5:=isAgg5
 z5:=sizeOf5
 v5:=zeroValue5
 infoByte:=by kernel_rfl
 cellsByte:=by kernel_rfl
 sizeByte:=by kernel_rfl
 neB5:=by decide }
end Go.Proofs
namespace Go.Proofs
open Go.Shelf
def Tryz.lays190_ren:Go.Shelf.Ren:=⟨fun|125=>101|128=>147|129=>148|190=>105|258=>154|302=>188|303=>189|304=>190|305=>191|306=>192|307=>193|308=>194|309=>195|310=>196|329=>180|330=>181|333=>223|334=>224|335=>225|336=>61|344=>240|n=>n,fun|22=>263|24=>169|25=>170|27=>66|28=>88|31=>41|32=>172|33=>118|35=>219|37=>69|40=>312|41=>127|42=>220|43=>218|46=>176|47=>175|48=>132|49=>351|51=>235|52=>234|53=>237|54=>236|55=>258|67=>125|69=>75|70=>68|71=>70|72=>71|73=>112|74=>49|75=>50|76=>72|77=>73|78=>161|79=>283|80=>77|81=>140|83=>74|84=>178|85=>318|86=>319|94=>165|100=>179|101=>56|102=>57|103=>171|104=>78|105=>284|106=>285|108=>328|111=>141|112=>221|114=>270|119=>313|126=>303|127=>126|128=>304|131=>59|135=>243|137=>314|138=>315|139=>316|143=>330|144=>331|145=>332|164=>143|165=>177|166=>279|167=>317|168=>320|169=>321|170=>322|171=>238|172=>239|173=>240|174=>241|175=>324|176=>325|182=>228|183=>229|188=>274|189=>275|190=>276|191=>277|192=>278|209=>326|210=>327|211=>271|212=>272|213=>273|214=>329|218=>264|219=>265|220=>266|222=>268|224=>300|225=>301|228=>297|229=>298|231=>311|232=>309|233=>310|238=>333|239=>334|240=>335|241=>336|242=>337|243=>339|244=>151|245=>340|246=>341|247=>342|248=>343|249=>344|n=>n,fun|1=>7|3=>10|4=>11|15=>12|16=>13|17=>6|18=>8|19=>9|n=>n⟩
theorem Tryz.lays190:Go.Proofs.Lays.n190 prog Tryz.lays190_ren:={
 mixed:=by kernel_rfl
 f125:=func101.trans (congrArg some (by kernel_rfl))
 f128:=func147.trans (congrArg some (by kernel_rfl))
 f129:=func148.trans (congrArg some (by kernel_rfl))
 f190:=func105.trans (congrArg some (by kernel_rfl))
 f258:=func154.trans (congrArg some (by kernel_rfl))
 f302:=func188.trans (congrArg some (by kernel_rfl))
 f303:=func189.trans (congrArg some (by kernel_rfl))
 f304:=func190.trans (congrArg some (by kernel_rfl))
 f305:=func191.trans (congrArg some (by kernel_rfl))
 f306:=func192.trans (congrArg some (by kernel_rfl))
 f307:=func193.trans (congrArg some (by kernel_rfl))
 f308:=func194.trans (congrArg some (by kernel_rfl))
 f309:=func195.trans (congrArg some (by kernel_rfl))
 f310:=func196.trans (congrArg some (by kernel_rfl))
 f329:=func180.trans (congrArg some (by kernel_rfl))
 f330:=func181.trans (congrArg some (by kernel_rfl))
 f333:=func223.trans (congrArg some (by kernel_rfl))
 f334:=func224.trans (congrArg some (by kernel_rfl))
 f335:=func225.trans (congrArg some (by kernel_rfl))
 f336:=func61.trans (congrArg some (by kernel_rfl))
 f344:=func240.trans (congrArg some (by kernel_rfl))
 t0:=underlying0
 a0:=isAgg0
 z0:=sizeOf0
 v0:=zeroValue0
 t3:=underlying3
 a3:=isAgg3
 z3:=sizeOf3
 v3:=zeroValue3
 t4:=underlying4
 a4:=isAgg4
 z4:=sizeOf4
 v4:=zeroValue4
 t5:=underlying5
 a5:=isAgg5
 z5:=sizeOf5
 v5:=zeroValue5
 t9:=underlying9
 a9:=isAgg9
 z9:=sizeOf9
 v9:=zeroValue9
 t31:=underlying41
 a31:=isAgg41
 z31:=sizeOf41
 v31:=zeroValue41
 t46:=underlying176
 a46:=isAgg176
 z46:=sizeOf176
 v46:=zeroValue176
 t51:=underlying235
 a51:=isAgg235
 z51:=sizeOf235
 v51:=zeroValue235
 t53:=underlying237
 a53:=isAgg237
 z53:=sizeOf237
 v53:=zeroValue237
 t131:=underlying59
 a131:=isAgg59
 z131:=sizeOf59
 v131:=zeroValue59
 t182:=underlying228
 a182:=isAgg228
 z182:=sizeOf228
 v182:=zeroValue228
 t183:=underlying229
 a183:=isAgg229
 z183:=sizeOf229
 v183:=zeroValue229
 t218:=underlying264
 a218:=isAgg264
 z218:=sizeOf264
 v218:=zeroValue264
 t222:=underlying268
 a222:=isAgg268
 z222:=sizeOf268
 v222:=zeroValue268
 t228:=underlying297
 a228:=isAgg297
 z228:=sizeOf297
 v228:=zeroValue297
 t229:=underlying298
 a229:=isAgg298
 z229:=sizeOf298
 v229:=zeroValue298 }
end Go.Proofs
namespace Go.Proofs.YtmkjelchiacogaaGreatDoor
open Go.RowKit Go.Shelf Go.Sort
theorem aga(L:List ByteArray):(L.map (·.data.toList)).map encStr=L.map Value.string:=by
 rw[List.map_map];exact List.map_congr_left (fun x _=>by simp[encStr])
theorem agb(L:List ByteArray):((L.map (·.data.toList)).mergeSort (fun x y=>decide (x<=y))).map encStr=(iT L).map Value.string:=by
 obtain⟨M,hM⟩:=zN ((L.map (·.data.toList)).mergeSort (fun x y=>decide (x<=y)));have hp:M.Perm (L.map (·.data.toList)):=by rw[<-hM];exact List.mergeSort_perm _ _
 have hs:M.Pairwise (fun x y=>decide (x<=y)=true):=by
  rw[<-hM];refine List.pairwise_mergeSort (le:=fun(x y:List UInt8)=>decide (x<=y)) (fun a b c h1 h2=>?_) (fun a b=>?_) _
  ·simp only[decide_eq_true_eq]at h1 h2 ⊢;exact List.le_trans h1 h2
  ·have:=List.le_total a b;simpa using this
 rw[hM];have e1:M.map (fun l=>(⟨l.toArray⟩:ByteArray))=iT L:=by
  refine NH ?_ ?_
  ·have h1:=hp.map (fun l=>(⟨l.toArray⟩:ByteArray));rw[List.map_map]at h1;have h2:L.map ((fun l=>(⟨l.toArray⟩:ByteArray)) ∘ (·.data.toList))=L:=by
    conv=>rhs;rw[<-List.map_id L]
    exact List.map_congr_left (fun x _=>by simp)
   rw[h2]at h1;exact h1
  ·unfold kV;rw[List.pairwise_map];refine hs.imp (fun {a b} h=>?_);have h1:¬b<a:=of_decide_eq_true h;refine NC (fun h2=>h1 ?_);have h3:=VP h2;rw[Lib.toList_data,Lib.toList_data]at h3;simp only[]at h3;rw[bytesLess_eq]at h3;simpa using h3
 rw[<-e1,List.map_map];rfl
theorem agc(ve:Value)(L:List ByteArray)(base:Nat)(w:World)(hL:L.length<=1048576)(hown:w.ownsRow base 9 1 ve L.length (L.map Value.string)) :
  Calls prog 105 #[ve] w fun e w'=>e=.returned (.tuple #[])/\w'.ownsRow base 9 1 ve L.length ((iT L).map Value.string)/\w.grownBy w' ve.ownBlock:=by
 rcases hown.2 with⟨rfl,h0⟩|⟨g,cap,cur,rfl,hb,hg,hn,hm,hs,ht⟩
 ·refine(Any.slices_Sort_string_none Tryz.lays190 none 0 w).mono ?_;rintro e w' ⟨rfl,rfl⟩;have hE:L=[]:=List.eq_nil_of_length_eq_zero h0;subst hE;exact⟨rfl,by rw[show iT []=[] from List.mergeSort_nil];exact hown,⟨rfl,rfl,rfl,Nat.le_refl _,fun _ _ _=>rfl⟩⟩
 ·have hl:(L.map (·.data.toList)).length=L.length:=by simp
  have hH:Holds encStr w g 0 (L.map (·.data.toList)).toArray:=holds_of_block hg (by rw[hl,aga];simpa using ht);have key:=Any.slices_Sort_string Tryz.lays190 g 0 cap (L.map (·.data.toList)) w hH (bz hg) (by rw[hl];omega);rw[hl]at key;refine key.mono ?_;rintro e w' ⟨rfl,n,os,rfl⟩;have h1:=ownsRow_sorted (n:=n) (os:=os) (ss:=L.map (·.data.toList)) (ts:=(L.map (·.data.toList)).mergeSort (fun x y=>decide (x<=y))) (by simp) hb hg (by rw[hl];exact hn) hm hs;rw[hl,agb]at h1;exact⟨rfl,h1,grownBy_sorted _⟩
theorem sortedS(bm:Nat)(o:Option Addr)(c:Nat)(L:List ByteArray)(hL:L.length<=1048576)(w:World)(hbm:w.heap[bm]?=some (.cells #[.slice o L.length c] 41 (0,0)))(htx:TxS w (.slice o L.length c) L) :
  Calls prog 64 #[.func (.func 106) #[] #[.pointer (some ⟨bm,0,none⟩)]] w fun e w'=>∃o c,e=.returned (.slice o L.length c)/\w'.ownsRow w.heap.size 9 1 (.slice o L.length c) L.length ((iT L).map Value.string)/\w.grownBy w' none:=by
 have HA:Hd (Calls prog 153 #[.slice none 0 0,.func (.func 106) #[] #[.pointer (some ⟨bm,0,none⟩)]] w fun e w'=>∃o c,e=.returned (.slice o L.length c)/\w'.ownsRow w.heap.size 9 1 (.slice o L.length c) L.length (L.map Value.string)/\Below w.heap.size w w'):=(callsIn_wide.1 (afS bm o c L hL w hbm htx)).mono fun e w' ⟨v,h1,h2,h3⟩=>by
  obtain⟨o,c,rfl⟩:=Yf h2;exact⟨o,c,h1,h2,h3⟩
 have HC:Hd (Calls prog 104 #[.func (.func 106) #[] #[.pointer (some ⟨bm,0,none⟩)]] w fun e w'=>∃o c,e=.returned (.slice o L.length c)/\w'.ownsRow w.heap.size 9 1 (.slice o L.length c) L.length (L.map Value.string)/\Below w.heap.size w w'):=by
  clear hbm htx;show Calls _ _ _ _ _;go_enter func104,ntmps104;go_wp2_with (go_at_call 153;refine HA.o.mono ?_);rintro e w1 ⟨o1,c1,rfl,h2,h3⟩;go_wp2;go_ret;exact⟨o1,c1,rfl,h2,h3⟩
 clear hbm htx HA;go_enter func64,ntmps64;go_wp2_with (go_at_call 104;refine HC.o.mono ?_);rintro e w1 ⟨o1,c1,rfl,hown,hb⟩;have CS:Hd (Calls prog 105 #[.slice o1 L.length c1] w1 fun e w'=>e=.returned (.tuple #[])/\w'.ownsRow w.heap.size 9 1 (.slice o1 L.length c1) L.length ((iT L).map Value.string)/\w1.grownBy w' (Value.slice o1 L.length c1).ownBlock):=agc _ L w.heap.size w1 hL hown;have HB:Hd (w.grownBy w1 none):=pX hb;have dE:Hd (∀q,(Value.slice o1 L.length c1).ownBlock=some q->w.heap.size<=q):=fun q hq=>(hown.lt q hq).1
 clear hown hb;go_wp2_with (go_at_call 105;refine CS.o.mono ?_);rintro e w2 ⟨rfl,hown2,hg2⟩;go_wp2;go_ret;exact⟨o1,c1,rfl,hown2,NK HB.o hg2 dE.o⟩
open Go.RowKit Go.Shelf Go.Sort
def qd(s:ByteArray):ByteArray:=cat (cat ⟨#[34]⟩ s) ⟨#[34]⟩
theorem IW(s:ByteArray):(qd s).data.toList=34 :: (s.data.toList++[34]):=by
 unfold qd;rw[gX,gX];simp
theorem uS(s:ByteArray):(qd s).size=s.size+2:=by
 unfold qd;rw[gY,gY];show 1+s.size+1=_;omega
theorem Yg(s:ByteArray)(w:World)(hs:s.size<=1048576):Calls prog 32 #[.string s] w fun e w'=>e=.returned (.string (qd s))/\w'=w:=by
 unfold qd;have c1:∀wx,(Op.stringOp .add ⟨#[34]⟩ s).run prog wx=.ok (.string (cat ⟨#[34]⟩ s)) wx:=fun wx=>ig _ _ wx (by show 1+_<=_;omega)
 have z1:(cat ⟨#[34]⟩ s).size=1+s.size:=gY _ _;generalize cat ⟨#[34]⟩ s=Q1 at c1 z1 ⊢;have c2:∀wx,(Op.stringOp .add Q1 ⟨#[34]⟩).run prog wx=.ok (.string (cat Q1 ⟨#[34]⟩)) wx:=fun wx=>ig _ _ wx (by show _+1<=_;omega)
 generalize cat Q1 ⟨#[34]⟩=Q2 at c2 ⊢;go_enter func32,ntmps32;go_wp2;go_ret;exact⟨rfl,rfl⟩
theorem agd(sep:List UInt8)(r:List (List UInt8))(x:List UInt8):Lib.joinTail sep (r++[x])=Lib.joinTail sep r++(sep++x):=by
 unfold Lib.joinTail;simp
theorem Yh(S:List ByteArray):∀k,k<=S.length->Lib.join ((S.take k).map (fun y=>(qd y).data.toList)) [44,32]=gm S k
 | 0,_=>by simp[Lib.join_nil,gm]
 | k+1,hk=>by
  have ih:=Yh S k (by omega);rw[Io S k (by omega),List.take_succ_eq_append_getElem (by omega),List.map_append,List.map_singleton,IW,<-ih]
  cases k with
  | zero=>simp[Lib.join_nil,Lib.join_one]
  | succ k =>
   match hm:(S.take (k+1)).map (fun y=>(qd y).data.toList) with
   | []=>have:=congrArg List.length hm;rw[List.length_map,List.length_take]at this;simp only[List.length_nil]at this;omega
   | z :: r =>
    rw[List.cons_append,Lib.join_cons,Lib.join_cons,agd];simp
theorem Yi(S:List ByteArray):Lib.join ((S.map qd).map (·.data.toList)) [44,32]=gm S S.length:=by
 have:=Yh S S.length (Nat.le_refl _);rw[List.take_length]at this;rw[List.map_map];exact this
theorem age(o:Option Addr)(c:Nat)(S:List ByteArray)(base:Nat)(w:World)(h:w.ownsRow base 9 1 (.slice o S.length c) S.length ((S.map qd).map Value.string))(hl:S.length<=20)(hs:∀y∈S,y.size<=1048576) :
  Calls prog 66 #[.slice o S.length c,.string ⟨#[44,32]⟩] w fun e w'=>e=.returned (.string ⟨(gm S S.length).toArray⟩)/\w.grownBy w' none:=by
 have hlen:(gm S S.length).length<=140737488355328:=by
  have:=Ip S hs S.length (Nat.le_refl _);omega
 rcases h.2 with⟨h1,h0⟩|⟨g,cap,cur,hv,hb,hg,hn,hm,hcs,ht⟩
 ·have hE:S=[]:=List.eq_nil_of_length_eq_zero h0;subst hE;refine(Any.strings_Join_none Tryz.lays156 Tryz.Builder_Extra_156 o c ⟨#[44,32]⟩ w).mono ?_;rintro e w' ⟨rfl,rfl⟩;exact⟨rfl,ai _ _⟩
 ·cases hv
  have e1:(S.map qd).length=S.length:=by simp
  have key:=Any.strings_Join Tryz.lays156 Tryz.Builder_Extra_156 g 0 c (S.map qd) ⟨#[44,32]⟩ w (fun j x hx=>by
   rw[Nat.zero_add];have:=h.cells (g:=g) rfl j (.string x) (by rw[List.getElem?_map,hx];rfl);rw[VU]at this;exact this) (bz hg) (by rw[e1];omega) (by rw[e1];exact hn) (by rw[Yi];exact hlen)
  rw[e1,Yi]at key;refine key.mono ?_;rintro e w' ⟨rfl,hb'⟩;exact⟨rfl,pX hb'⟩
theorem agf(v:Value)(N:List ByteArray)(w:World)(h:TxS w v N)(hN:N.length<=20)(hs:∀y∈N,y.size<=1048576) :
  Calls prog 33 #[v] w fun e w'=>∃T:ByteArray,e=.returned (.string T)/\T.data.toList=91 :: (gm (iT N) (iT N).length++[93])/\w.grownBy w' none:=by
 obtain⟨o,c,rfl⟩:=kT h;obtain⟨n,hn⟩:=zN (N.length);have hb0:=heap_alloc_new w (.cells #[.slice o n c] 41);have Yj:Hd (Calls prog 64 #[.func (.func 106) #[] #[.pointer (some ⟨w.heap.size,0,none⟩)]] (w.alloc (.cells #[.slice o n c] 41)) fun e w'=>∃o c,e=.returned (.slice o n c)/\w'.ownsRow (w.heap.size+1) 9 1 (.slice o n c) n ((iT N).map Value.string)/\w.grownBy w' none):=by
  have key:=sortedS w.heap.size o c N (by omega) (w.alloc (.cells #[.slice o n c] 41)) (by rw[hn];exact hb0) (by rw[<-hn];exact h.grow (aP (ai w none) _));refine key.mono fun e w' ⟨o2,c2,h1,h2,h3⟩=>⟨o2,c2,by rw[<-hn];exact h1,?_,af (aP (ai w none) _) h3⟩
  rw[World.size_alloc,hn]at h2;exact h2
 obtain⟨S,hS⟩:=zN (iT N);have hSl:S.length=n:=by rw[<-hS,(rM N).length_eq,hn]
 have mM:Hd (∀y∈S,y.size<=1048576):=fun y hy=>hs y ((rM N).subset (by rw[hS];exact hy))
 have iO:Hd (S.length=n):=hSl;rw[hS]at Yj ⊢;have CQ:Hd (∀y∈S,∀w,Calls prog 32 #[.string y] w fun e w'=>e=.returned (.string (qd y))/\w'=w):=fun y hy w=>Yg y w (mM.o y hy)
 have CJ:Hd (∀(o:Option Addr) (c:Nat) (wx:World),wx.ownsRow (w.heap.size+1) 9 1 (.slice o n c) n ((S.map qd).map Value.string)->Calls prog 66 #[.slice o n c,.string ⟨#[44,32]⟩] wx fun e w'=>e=.returned (.string ⟨(gm S S.length).toArray⟩)/\wx.grownBy w' none):=fun o c wx h=>by
  have key:=age o c S (w.heap.size+1) wx (by rw[hSl];exact h) (by omega) mM.o;rw[hSl]at key ⊢;exact key
 obtain⟨J,hJ⟩:∃J:ByteArray,⟨(gm S S.length).toArray⟩=J:=⟨_,rfl⟩;have OW:J.data.toList=gm S S.length:=by rw[<-hJ]
 have hJs:J.size<=20*1048580:=by
  have h1:=Ip S mM.o S.length (Nat.le_refl _);have h2:J.size=(gm S S.length).length:=by rw[<-OW];simp
  omega
 rw[hJ]at CJ;have c1:∀wx,(Op.stringOp .add ⟨#[91]⟩ J).run prog wx=.ok (.string (cat ⟨#[91]⟩ J)) wx:=fun wx=>ig _ _ wx (by show 1+_<=_;omega)
 have z1:(cat ⟨#[91]⟩ J).size=1+J.size:=gY _ _;have l1:=gX ⟨#[91]⟩ J;generalize cat ⟨#[91]⟩ J=Q1 at c1 z1 l1;have c2:∀wx,(Op.stringOp .add Q1 ⟨#[93]⟩).run prog wx=.ok (.string (cat Q1 ⟨#[93]⟩)) wx:=fun wx=>ig _ _ wx (by show _+1<=_;omega)
 have l2:=gX Q1 ⟨#[93]⟩;generalize cat Q1 ⟨#[93]⟩=Q2 at c2 l2;have HQ2:Hd (Q2.data.toList=91 :: (gm S S.length++[93])):=by
  show _=_;rw[l2,l1,OW];simp
 rw[hn];rw[hn]at hN;clear h hs hb0 hS hSl hJ OW z1 l1 l2 hn hJs;go_enter func33,ntmps33;go_wp2_with (first|(go_at_call 65;refine(afQ _ _ _ _).mono ?_;rintro e w' ⟨rfl,rfl⟩)|(go_at_call 64;refine Yj.o.mono ?_));rintro e w2 ⟨o2,c2,rfl,hown,hg⟩;have HO:Hd (w2.ownsRow (w.heap.size+1) 9 1 (.slice o2 n c2) n ((((S.take 0).map qd)++S.drop 0).map Value.string)):=hown;have HG:Hd (w.grownBy w2 none):=hg;clear hown hg;go_wp2;go_loopw [11] (fun vi wr=>∃i:Nat,vi=.int .i64 i/\i<=n/\wr.ownsRow (w.heap.size+1) 9 1 (.slice o2 n c2) n ((((S.take i).map qd)++S.drop i).map Value.string)/\w.grownBy wr none) (fun vi _=>n-(intOf vi).toNat)
 case atStart=>exact⟨0,rfl,Nat.zero_le _,HO.o,HG.o⟩
 case round =>
  obtain⟨i,rfl,hi,hrow,hgr⟩:=hrel;have HRW:Hd (wr.ownsRow (w.heap.size+1) 9 1 (.slice o2 n c2) n ((((S.take i).map qd)++S.drop i).map Value.string)):=hrow;have kD:Hd (w.grownBy wr none):=hgr
  by_cases hlt:i<n
  ·have Yk:i<S.length:=by rw[iO.o];exact hlt
   obtain⟨y,hy⟩:=zN (S[i]);have HD:Hd (S.drop i=y :: S.drop (i+1)):=by
    show _=_;rw[List.drop_eq_getElem_cons Yk,hy]
   have CY:Hd (∀w,Calls prog 32 #[.string y] w fun e w'=>e=.returned (.string (qd y))/\w'=w):=fun w=>CQ.o y (by rw[<-hy];exact List.getElem_mem _) w
   have gU:Hd ((S.take (i+1)).map qd=(S.take i).map qd++[qd y]):=by
    show _=_;rw[List.take_succ_eq_append_getElem Yk,List.map_append,hy];rfl
   obtain⟨g,rfl,hgc⟩:∃g,o2=some ⟨g,0,none⟩/\n<=c2:=by
    rcases hrow.2 with⟨h1,h0⟩|⟨g,cap,cur,hv,hb,hgb,hn',_⟩
    ·omega
    ·cases hv;exact⟨g,rfl,hn'⟩
   have EM:Hd (((S.take i).map qd).length=i):=by show _=_;rw[List.length_map,List.length_take];omega
   have d1:wr.cell? ⟨g,i,none⟩=some (.string y):=by
    have h1:=HRW.o;rw[HD.o]at h1;have:=NG h1;rw[EM.o]at this;exact this
   have ff:=VV HRW.o i;have bY:Hd (w.heap.size+1<=g):=(hrow.lt g rfl).1;clear hrow hgr hy;go_wp2_with (go_at_call 32;refine(CY.o _).mono ?_;rintro e w' ⟨rfl,rfl⟩);refine⟨⟨i+1,by go_num,by omega,?_,?_⟩,by simp[intOf];omega⟩
   ·have h1:=NF HRW.o i (.string (qd y)) (by omega);rw[HD.o]at h1;rw[gU.o];have e1:(((S.take i).map qd++y :: S.drop (i+1)).map Value.string).set i (.string (qd y))=(((S.take i).map qd++[qd y])++S.drop (i+1)).map Value.string:=by
     rw[List.map_append,List.set_append_right _ _ (by rw[List.length_map,EM.o];omega),List.length_map,EM.o,Nat.sub_self];simp
    rw[e1]at h1;exact h1
   ·exact NK kD.o (dD (ai _ (some g)) _ _) (fun q hq=>by injection hq with hq;have:=bY.o;omega)
  ·have hie:i=n:=by omega
   have CJJ:Hd (Calls prog 66 #[.slice o2 n c2,.string ⟨#[44,32]⟩] wr fun e w'=>e=.returned (.string J)/\wr.grownBy w' none):=CJ.o o2 c2 wr (by
    rw[hie,<-iO.o,List.take_length,List.drop_length,List.append_nil]at hrow;rw[iO.o]at hrow;exact hrow)
   clear hrow hgr hie hi;go_wp2_with (go_at_call 66;refine CJJ.o.mono ?_;rintro e w3 ⟨rfl,hg3⟩);go_ret;exact⟨Q2,rfl,HQ2.o,af kD.o hg3⟩
end Go.Proofs.YtmkjelchiacogaaGreatDoor
