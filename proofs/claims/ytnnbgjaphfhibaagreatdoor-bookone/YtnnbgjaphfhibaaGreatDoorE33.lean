import Derived.Test.YtnnbgjaphfhibaaGreatDoorE28
import Derived.Sort.OwnSorted
import Derived.Lib.Join
import Derived.Shelf.Strings.Builder1
import Derived.Test.YtnnbgjaphfhibaaGreatDoorE04
import Derived.Shelf.Strings.BuilderK
set_option linter.all false
set_option maxRecDepth 100000
set_option maxHeartbeats 0
open Go.Proofs.Tryz
namespace Go.Proofs.YtnnbgjaphfhibaaGreatDoor
theorem Yo(N:List ByteArray):∀i,i<=N.length->(l7 N i=false↔(N.take i).Nodup)
 | 0,_=>by simp[l7]
 | i+1,h=>by
  have ih:=Yo N i (by omega);have hi:i<N.length:=by omega
  rw[Ot N i hi,Bool.or_eq_false_iff,ih,List.take_succ_eq_append_getElem hi,List.nodup_append];have e1:(N.take i).any (fun y=>decide (y=N[i]))=false↔∀a∈N.take i,a≠N[i]:=by
   rw[List.any_eq_false];constructor
   ·intro h a ha e;exact h a ha (by simpa using e)
   ·intro h a ha e;exact h a ha (by simpa using e)
  rw[e1];constructor
  ·rintro⟨h1,h2⟩;exact⟨h1,by simp,fun a ha b hb=>by rw[List.mem_singleton.1 hb];exact h2 a ha⟩
  ·rintro⟨h1,-,h3⟩;exact⟨h1,fun a ha=>h3 a ha _ (List.mem_singleton.2 rfl)⟩
theorem agE(N:List ByteArray):l7 N N.length=false↔N.Nodup:=by
 have:=Yo N N.length (Nat.le_refl _)
 rwa [List.take_length]at this
theorem Fj(L:List En)(n:ByteArray):aT L n=true↔n∈L.map (·.nm):=by
 unfold aT;rw[List.any_eq_true,List.mem_map];simp
def qM(L:List En):Prop:=L.length<=50/\(L.map (·.nm)).Nodup/\∀x∈L,x.nd.length<=20/\qH x=true/\x.nd.Nodup/\∀y∈x.nd,y∈L.map (·.nm)
theorem agF{L L':List En}(hp:L'.Perm L)(h:qM L):qM L':=by
 obtain⟨h1,h2,h3⟩:=h;refine⟨by rw[hp.length_eq];exact h1,((hp.map (·.nm)).nodup_iff).2 h2,fun x hx=>?_⟩;obtain⟨k1,k2,k3,k4⟩:=h3 x (hp.subset hx);exact⟨k1,k2,k3,fun y hy=>(hp.map (·.nm)).symm.subset (k4 y hy)⟩
open Go.RowKit Go.Shelf Go.Sort
theorem PL(s:ByteArray)(w:World):Calls prog 65 #[.string s] w fun e w'=>e=.returned (.bool false)/\w'=w:=by
 go_enter func65,ntmps65;go_wp2;go_ret;exact⟨rfl,rfl⟩
theorem agG(a b:ByteArray)(w:World):Calls prog 41 #[.string a,.string b] w fun e w'=>e=.returned (.int .i64 (cT a b))/\w'=w:=by
 unfold cT
 cases h1:Op.bytesLess a.toList b.toList with
 | true =>
  rw[aca h1];go_enter func41,ntmps41;go_wp2_with (go_at_call 65;refine(PL _ _).mono ?_;rintro e w' ⟨rfl,rfl⟩);go_ret;exact⟨rfl,rfl⟩
 | false =>
  cases h2:(!a.toList == b.toList) with
  | true =>
   rw[acb h1 h2];go_enter func41,ntmps41;go_wp2_with (go_at_call 65;refine(PL _ _).mono ?_;rintro e w' ⟨rfl,rfl⟩);go_ret;exact⟨rfl,rfl⟩
  | false =>
   rw[acd h2];go_enter func41,ntmps41;go_wp2_with (go_at_call 65;refine(PL _ _).mono ?_;rintro e w' ⟨rfl,rfl⟩);go_ret;exact⟨rfl,rfl⟩
theorem agH{w w':World}(hg:w.grownBy w' none)(hd:w.drawn<=w'.drawn):∃q os,w'=grow (w.drewN q) os:=by
 refine⟨w'.drawn-w.drawn,w'.heap.extract w.heap.size w'.heap.size,?_⟩;have hh:w'.heap=w.heap++w'.heap.extract w.heap.size w'.heap.size:=by
  apply Array.ext_getElem?;intro k
  by_cases hk:k<w.heap.size
  ·rw[Array.getElem?_append_left hk];exact hg.block k hk (by simp)
  ·rw[Array.getElem?_append_right (by omega),Array.getElem?_extract]
   by_cases hk2:k<w'.heap.size
   ·rw[if_pos (by omega)];congr 1;omega
   ·rw[if_neg (by omega),Array.getElem?_eq_none (by omega)]
 have h1:=hg.os;have h2:=hg.tape;have h3:=hg.output
 cases w';cases w
 simp only[grow,World.drewN,World.mk.injEq]at *;exact⟨hh,h2,by omega,h1,h3⟩
theorem agI(x y:Ec)(w:World):Calls prog 40 #[BC x,BC y] w fun e w'=>e=.returned (.int .i64 (cT x.nm y.nm))/\∃q os,w'=grow (w.drewN q) os:=by
 have CC:Hd (∀w,Calls prog 41 #[.string x.nm,.string y.nm] w fun e w'=>e=.returned (.int .i64 (cT x.nm y.nm))/\w'=w):=fun w=>agG _ _ w
 unfold BC;go_enter func40,ntmps40;go_wp2_with (go_at_call 41;refine(CC.o _).mono ?_;rintro e w' ⟨rfl,rfl⟩);go_ret;exact⟨rfl,agH (bC (bC (au w none) _) _) (Nat.le_refl _)⟩
instance:Inhabited Ec:=⟨⟨⟨#[]⟩,⟨#[]⟩,⟨#[]⟩,none,0,0⟩⟩
def BH(x y:Ec):Int:=cT x.nm y.nm
theorem agJ:SWO (ltOf BH) where
 irrefl x:=by
  unfold ltOf BH;apply decide_eq_false;rw[qG.self];omega
 trans x y z h1 h2:=by
  unfold ltOf BH at *;have a1:=of_decide_eq_true h1;have a2:=of_decide_eq_true h2;refine decide_eq_true ?_;have t:=qG.trans x.nm y.nm z.nm (by omega) (by omega);have r:=qG.rng x.nm z.nm
  by_cases h0:cT x.nm z.nm=0
  ·have:=t.2.2 h0;omega
  ·have:=t.1;omega
 ntrans x y z h1 h2:=by
  unfold ltOf BH at *;have a1:=of_decide_eq_false h1;have a2:=of_decide_eq_false h2;apply decide_eq_false;have t:=qG.trans z.nm y.nm x.nm (by have:=qG.anti y.nm z.nm;omega) (by have:=qG.anti x.nm y.nm;omega);have:=qG.anti x.nm z.nm;omega
theorem PM(l:List Ec):∀(i:Nat) (hi:i<l.length) (k:Nat) (u:Value),(eG l[i])[k]?=some u->(l.flatMap eG)[i*4+k]?=some u:=by
 induction l with
 | nil=>intro i hi;simp at hi
 | cons t l ih =>
  intro i hi k u h;rw[List.flatMap_cons];have hl:(eG t).length=4:=rfl
  cases i with
  | zero =>
   simp only[List.getElem_cons_zero]at h;have hk:k<(eG t).length:=(List.getElem?_eq_some_iff.1 h).1;rw[Nat.zero_mul,Nat.zero_add,List.getElem?_append_left hk];exact h
  | succ i =>
   simp only[List.getElem_cons_succ]at h;rw[List.getElem?_append_right (by rw[hl];omega),hl,show(i+1)*4+k-4=i*4+k by omega];exact ih i (by simpa using hi) k u h
theorem agK(w:World)(blk off size:Nat):CmpLays prog 40 #[] eG 4 BH blk off size w:=by
 intro m os dk hdk x y;exact agI x y _
theorem Yp(x:Ec):(eG x).length=4:=rfl
theorem PN(d:Array Ec):(flatK eG 4 d).toList=d.toList.flatMap eG:=by
 apply List.ext_getElem?;intro j;have hl:(d.toList.flatMap eG).length=d.size*4:=by
  have:∀L:List Ec,(L.flatMap eG).length=L.length*4:=by
   intro L
   induction L with
   | nil=>rfl
   | cons e L ih=>rw[List.flatMap_cons,List.length_append,ih,List.length_cons];show 4+_=_;omega
  rw[this];simp
 by_cases hj:j<d.size*4
 ·have hi:j / 4<d.size:=by omega
  have h1:(flatK eG 4 d).toList[j]?=some ((eG d[j / 4]!)[j % 4]!):=by
   rw[Array.getElem?_toList,Array.getElem?_eq_getElem (by simpa using hj)];have:=get_flatK eG 4 d j hj;rw[getElem!_pos _ j (by simpa using hj)]at this;rw[this]
  have h2:=PM d.toList (j / 4) (by simpa using hi) (j % 4) ((eG d[j / 4]!)[j % 4]!) (by
   rw[getElem!_pos d (j / 4) hi];have hk:j % 4<(eG d[j / 4]).length:=by rw[Yp];omega
   rw[getElem!_pos _ (j % 4) hk];rw[Array.getElem_toList];exact List.getElem?_eq_getElem hk)
  rw[show j / 4*4+j % 4=j by omega]at h2;rw[h1,h2]
 ·rw[List.getElem?_eq_none (by simp;omega),List.getElem?_eq_none (by rw[hl];omega)]
theorem egE:∀args w,(callFunc 40 args).run prog w=.ok (.enter 40 args) w:=enters_of func40 (by kernel_rfl) rfl
def JB(E:List Ec):Prop:=E.Pairwise (fun a b=>cT a.nm b.nm<=0)
theorem agL(ve:Value)(E:List Ec)(base:Nat)(w:World)(hown:w.ownsRow base 33 4 ve E.length (E.flatMap eG))(hlen:E.length<=8388608) :
  Calls prog 63 #[ve,.func (.func 40) #[] #[]] w fun e w'=>e=.returned (.tuple #[])/\∃E':List Ec,E'.Perm E/\JB E'/\w'.ownsRow base 33 4 ve E'.length (E'.flatMap eG)/\w.grownBy w' ve.ownBlock:=by
 obtain⟨D,hD⟩:∃D:Array Ec,D.toList=E:=⟨E.toArray,by simp⟩;have hDs:D.size=E.length:=by rw[<-hD];simp
 have hown':=hown
 rcases hown.2 with⟨rfl,h0⟩|⟨g,cap,cur,rfl,hb,hg,hn,hm,hs,ht⟩
 ·refine(AnyF.slices_SortFunc_none Tryz.laysSortE none 0 (.func (.func 40) #[] #[]) w).mono ?_;rintro e w' ⟨rfl,rfl⟩;have hE:E=[]:=List.eq_nil_of_length_eq_zero h0;subst hE;exact⟨rfl,[],List.Perm.refl _,List.Pairwise.nil,hown',⟨rfl,rfl,rfl,Nat.le_refl _,fun _ _ _=>rfl⟩⟩
 ·have hH:HoldsK eG 4 w g 0 D:=by
   intro j hj;have hj':j<(E.flatMap eG).length:=by rw[hown.1,<-hDs];simpa using hj
   refine⟨?_,Lib.frozen_of_heap hg _⟩;have h1:(flatK eG 4 D).toList[j]?=(E.flatMap eG)[j]?:=by rw[PN,hD]
   rw[Array.getElem?_toList,Array.getElem?_eq_getElem hj]at h1;rw[Nat.zero_add,ag hg];rw[getElem!_pos _ j hj];show cur[j]?=some (id _);rw[id,h1,<-ht,List.getElem?_take_of_lt (by rw[hown.1]at hj';exact hj')];simp
  rw[<-hDs];refine(AnyQ.slices_SortFunc Tryz.laysSortE 4 isAgg33 sizeOf33 eG Yp X5 BH agJ 40 #[] g 0 cap D w egE (agK w g 0 D.size) hH (dO hg) (by omega)).mono ?_;rintro e w' ⟨rfl,d',m,os,hperm,hsort,hw'⟩;have hds:d'.size=D.size:=hperm.1;have hgl:g<w.heap.size:=(dO hg);have hheap:w'.heap=(w.heap.modify g (onCells (putCells id 0 (flatK eG 4 d'))))++os:=by rw[hw'];rfl
  have hg':w'.heap[g]?=some (.cells (putCells id 0 (flatK eG 4 d') cur) 33):=by
   rw[hheap,Array.getElem?_append_left (by simpa using hgl),Array.getElem?_modify,if_pos rfl,hg];rfl
  have hFs:(flatK eG 4 d').size=D.size*4:=by simp[hds]
  have hcs:D.size*4<=cur.size:=by rw[hs,hDs];omega
  have hlen2:(d'.toList.flatMap eG).length=D.size*4:=by rw[<-PN,Array.length_toList,hFs]
  refine⟨rfl,d'.toList,?_,?_,⟨?_,.inr ⟨g,cap,_,?_,hb,hg',?_,hm,?_,?_⟩⟩,?_⟩
  ·rw[<-hD];have:=hperm.2.2;rw[Array.extract_size]at this;rw[show d'.extract 0 D.size=d' by rw[<-hds,Array.extract_size]]at this;exact this
  ·unfold JB;rw[List.pairwise_iff_getElem];intro i j hi hj hij;simp only[Array.length_toList]at hi hj;have:=hsort i j (Nat.zero_le _) hij (by omega);rw[getElem!_pos d' j hj,getElem!_pos d' i hi]at this;have h3:=of_decide_eq_false this;simp only[Array.getElem_toList];exact Wn h3
  ·rw[hlen2];simp[hds]
  ·simp[hds]
  ·simp[hds];omega
  ·simp[putCells,hs]
  ·rw[show d'.toList.length=D.size by simp[hds],<-PN];apply List.ext_getElem?;intro j
   by_cases hj:j<D.size*4
   ·rw[List.getElem?_take_of_lt hj,Array.getElem?_toList,Array.getElem?_toList];rw[putCells,Array.getElem?_mapIdx,Array.getElem?_eq_getElem (show j<cur.size by omega)];rw[Option.map_some,if_pos ⟨Nat.zero_le _,by omega⟩,Nat.sub_zero,id,getElem!_pos _ j (by omega)];exact(Array.getElem?_eq_getElem _).symm
   ·rw[List.getElem?_eq_none (by simp;omega),List.getElem?_eq_none (by rw[Array.length_toList];omega)]
  ·refine⟨by rw[hw'];rfl,by rw[hw'];rfl,by rw[hw'];rfl,?_,?_⟩
   ·rw[hheap];simp
   ·intro k hk hne;have hkg:g≠k:=by
     intro h;subst h;exact hne rfl
    rw[hheap,Array.getElem?_append_left (by simpa using hk),Array.getElem?_modify,if_neg hkg]
theorem agM(bm:Nat)(o:Option Addr)(c:Nat)(L:List Ec)(hL:L.length<=1048576)(w:World)(hbm:w.heap[bm]?=some (.cells #[.slice o L.length c] 22 (0,0)))(htx:EcS w (.slice o L.length c) L) :
  Calls prog 94 #[.slice none 0 0,.func (.func 64) #[] #[.pointer (some ⟨bm,0,none⟩)]] w fun e w'=>∃v,e=.returned v/\w'.ownsRow w.heap.size 33 4 v L.length (L.flatMap eG)/\Below w.heap.size w w':=callsIn_wide.1 (afD bm o c L hL w hbm htx)
theorem Yq{w:World}{base:Nat}{e:TypeId}{sz:Nat}{v:Value}{n:Nat}{xs:List Value}(h:w.ownsRow base e sz v n xs):∃o c,v=.slice o n c:=by
 rcases h.2 with⟨rfl,h0⟩|⟨g,cap,cur,rfl,_⟩
 ·exact⟨none,0,by rw[h0]⟩
 ·exact⟨_,_,rfl⟩
theorem agN(bm:Nat)(o:Option Addr)(c:Nat)(L:List Ec)(hL:L.length<=1048576)(w:World)(hbm:w.heap[bm]?=some (.cells #[.slice o L.length c] 22 (0,0)))(htx:EcS w (.slice o L.length c) L) :
  Calls prog 62 #[.func (.func 64) #[] #[.pointer (some ⟨bm,0,none⟩)]] w fun e w'=>∃o c,e=.returned (.slice o L.length c)/\w'.ownsRow w.heap.size 33 4 (.slice o L.length c) L.length (L.flatMap eG)/\Below w.heap.size w w':=by
 have CA:Hd (Calls prog 94 #[.slice none 0 0,.func (.func 64) #[] #[.pointer (some ⟨bm,0,none⟩)]] w fun e w'=>∃o c,e=.returned (.slice o L.length c)/\w'.ownsRow w.heap.size 33 4 (.slice o L.length c) L.length (L.flatMap eG)/\Below w.heap.size w w'):=(agM bm o c L hL w hbm htx).mono fun e w' ⟨v,h1,h2,h3⟩=>by
  obtain⟨o,c,rfl⟩:=Yq h2;exact⟨o,c,h1,h2,h3⟩
 clear hbm htx;go_enter func62,ntmps62;go_wp2_with (go_at_call 94;refine CA.o.mono ?_);rintro e w1 ⟨o1,c1,rfl,h2,h3⟩;go_wp2;go_ret;exact⟨o1,c1,rfl,h2,h3⟩
theorem agO(bm:Nat)(o:Option Addr)(c:Nat)(L:List Ec)(hL:L.length<=1048576)(w:World)(hbm:w.heap[bm]?=some (.cells #[.slice o L.length c] 22 (0,0)))(htx:EcS w (.slice o L.length c) L) :
  Calls prog 38 #[.func (.func 64) #[] #[.pointer (some ⟨bm,0,none⟩)],.func (.func 40) #[] #[]] w fun e w'=>∃(E:List Ec) (o:Option Addr) (c:Nat),e=.returned (.slice o E.length c)/\E.Perm L/\JB E/\w'.ownsRow w.heap.size 33 4 (.slice o E.length c) E.length (E.flatMap eG)/\w.grownBy w' none:=by
 have CC:=agN bm o c L hL w hbm htx;have HC:Hd (Calls prog 62 #[.func (.func 64) #[] #[.pointer (some ⟨bm,0,none⟩)]] w fun e w'=>∃o c,e=.returned (.slice o L.length c)/\w'.ownsRow w.heap.size 33 4 (.slice o L.length c) L.length (L.flatMap eG)/\Below w.heap.size w w'):=CC;clear hbm htx CC;go_enter func38,ntmps38;go_wp2_with (go_at_call 62;refine HC.o.mono ?_);rintro e w1 ⟨o1,c1,rfl,hown,hb⟩;have CS:Hd (Calls prog 63 #[.slice o1 L.length c1,.func (.func 40) #[] #[]] w1 fun e w'=>e=.returned (.tuple #[])/\∃E':List Ec,E'.Perm L/\JB E'/\w'.ownsRow w.heap.size 33 4 (.slice o1 L.length c1) E'.length (E'.flatMap eG)/\w1.grownBy w' (Value.slice o1 L.length c1).ownBlock):=agL _ L w.heap.size w1 hown (by omega);have HB:Hd (w.grownBy w1 none):=DV hb;have bP:Hd (∀q,(Value.slice o1 L.length c1).ownBlock=some q->w.heap.size<=q):=fun q hq=>(hown.lt q hq).1
 clear hown hb;go_wp2_with (go_at_call 63;refine CS.o.mono ?_);rintro e w2 ⟨rfl,E',hp,hr,hown2,hg2⟩;go_wp2;refine bodyPost_ret (results_tmp (t:=4) rfl _ _ _) rfl ⟨E',o1,c1,by rw[hp.length_eq];rfl,hp,hr,by rw[hp.length_eq]at hown2 ⊢;exact hown2,?_⟩;exact⟨hg2.os.trans HB.o.os,hg2.tape.trans HB.o.tape,hg2.output.trans HB.o.output,Nat.le_trans HB.o.size hg2.size,fun k hk hn=>(hg2.block k (Nat.lt_of_lt_of_le hk HB.o.size) (fun e=>by have:=bP.o k e.symm;omega)).trans (HB.o.block k hk hn)⟩
open Go.RowKit Go.Shelf Go.Sort
theorem agP(L:List ByteArray):(L.map (·.data.toList)).map encStr=L.map Value.string:=by
 rw[List.map_map];exact List.map_congr_left (fun x _=>by simp[encStr])
theorem agQ(L:List ByteArray):((L.map (·.data.toList)).mergeSort (fun x y=>decide (x<=y))).map encStr=(kV L).map Value.string:=by
 obtain⟨M,hM⟩:=zN ((L.map (·.data.toList)).mergeSort (fun x y=>decide (x<=y)));have hp:M.Perm (L.map (·.data.toList)):=by rw[<-hM];exact List.mergeSort_perm _ _
 have hs:M.Pairwise (fun x y=>decide (x<=y)=true):=by
  rw[<-hM];refine List.pairwise_mergeSort (le:=fun(x y:List UInt8)=>decide (x<=y)) (fun a b c h1 h2=>?_) (fun a b=>?_) _
  ·simp only[decide_eq_true_eq]at h1 h2 ⊢;exact List.le_trans h1 h2
  ·have:=List.le_total a b;simpa using this
 rw[hM];have e1:M.map (fun l=>(⟨l.toArray⟩:ByteArray))=kV L:=by
  refine XR ?_ ?_
  ·have h1:=hp.map (fun l=>(⟨l.toArray⟩:ByteArray));rw[List.map_map]at h1;have h2:L.map ((fun l=>(⟨l.toArray⟩:ByteArray)) ∘ (·.data.toList))=L:=by
    conv=>rhs;rw[<-List.map_id L]
    exact List.map_congr_left (fun x _=>by simp)
   rw[h2]at h1;exact h1
  ·unfold Ei;rw[List.pairwise_map];refine hs.imp (fun {a b} h=>?_);have h1:¬b<a:=of_decide_eq_true h;refine Wn (fun h2=>h1 ?_);have h3:=ad2 h2;rw[Lib.toList_data,Lib.toList_data]at h3;simp only[]at h3;rw[bytesLess_eq]at h3;simpa using h3
 rw[<-e1,List.map_map];rfl
theorem agR(ve:Value)(L:List ByteArray)(base:Nat)(w:World)(hL:L.length<=1048576)(hown:w.ownsRow base 9 1 ve L.length (L.map Value.string)) :
  Calls prog 100 #[ve] w fun e w'=>e=.returned (.tuple #[])/\w'.ownsRow base 9 1 ve L.length ((kV L).map Value.string)/\w.grownBy w' ve.ownBlock:=by
 rcases hown.2 with⟨rfl,h0⟩|⟨g,cap,cur,rfl,hb,hg,hn,hm,hs,ht⟩
 ·refine(Any.slices_Sort_string_none Tryz.lays190 none 0 w).mono ?_;rintro e w' ⟨rfl,rfl⟩;have hE:L=[]:=List.eq_nil_of_length_eq_zero h0;subst hE;exact⟨rfl,by rw[show kV []=[] from List.mergeSort_nil];exact hown,⟨rfl,rfl,rfl,Nat.le_refl _,fun _ _ _=>rfl⟩⟩
 ·have hl:(L.map (·.data.toList)).length=L.length:=by simp
  have hH:Holds encStr w g 0 (L.map (·.data.toList)).toArray:=holds_of_block hg (by rw[hl,agP];simpa using ht);have key:=Any.slices_Sort_string Tryz.lays190 g 0 cap (L.map (·.data.toList)) w hH (dO hg) (by rw[hl];omega);rw[hl]at key;refine key.mono ?_;rintro e w' ⟨rfl,n,os,rfl⟩;have h1:=ownsRow_sorted (n:=n) (os:=os) (ss:=L.map (·.data.toList)) (ts:=(L.map (·.data.toList)).mergeSort (fun x y=>decide (x<=y))) (by simp) hb hg (by rw[hl];exact hn) hm hs;rw[hl,agQ]at h1;exact⟨rfl,h1,grownBy_sorted _⟩
theorem sortedS(bm:Nat)(o:Option Addr)(c:Nat)(L:List ByteArray)(hL:L.length<=1048576)(w:World)(hbm:w.heap[bm]?=some (.cells #[.slice o L.length c] 31 (0,0)))(htx:TxS w (.slice o L.length c) L) :
  Calls prog 68 #[.func (.func 101) #[] #[.pointer (some ⟨bm,0,none⟩)]] w fun e w'=>∃o c,e=.returned (.slice o L.length c)/\w'.ownsRow w.heap.size 9 1 (.slice o L.length c) L.length ((kV L).map Value.string)/\w.grownBy w' none:=by
 have HA:Hd (Calls prog 144 #[.slice none 0 0,.func (.func 101) #[] #[.pointer (some ⟨bm,0,none⟩)]] w fun e w'=>∃o c,e=.returned (.slice o L.length c)/\w'.ownsRow w.heap.size 9 1 (.slice o L.length c) L.length (L.map Value.string)/\Below w.heap.size w w'):=(callsIn_wide.1 (afw bm o c L hL w hbm htx)).mono fun e w' ⟨v,h1,h2,h3⟩=>by
  obtain⟨o,c,rfl⟩:=Yq h2;exact⟨o,c,h1,h2,h3⟩
 have HC:Hd (Calls prog 99 #[.func (.func 101) #[] #[.pointer (some ⟨bm,0,none⟩)]] w fun e w'=>∃o c,e=.returned (.slice o L.length c)/\w'.ownsRow w.heap.size 9 1 (.slice o L.length c) L.length (L.map Value.string)/\Below w.heap.size w w'):=by
  clear hbm htx;show Calls _ _ _ _ _;go_enter func99,ntmps99;go_wp2_with (go_at_call 144;refine HA.o.mono ?_);rintro e w1 ⟨o1,c1,rfl,h2,h3⟩;go_wp2;go_ret;exact⟨o1,c1,rfl,h2,h3⟩
 clear hbm htx HA;go_enter func68,ntmps68;go_wp2_with (go_at_call 99;refine HC.o.mono ?_);rintro e w1 ⟨o1,c1,rfl,hown,hb⟩;have CS:Hd (Calls prog 100 #[.slice o1 L.length c1] w1 fun e w'=>e=.returned (.tuple #[])/\w'.ownsRow w.heap.size 9 1 (.slice o1 L.length c1) L.length ((kV L).map Value.string)/\w1.grownBy w' (Value.slice o1 L.length c1).ownBlock):=agR _ L w.heap.size w1 hL hown;have HB:Hd (w.grownBy w1 none):=DV hb;have bP:Hd (∀q,(Value.slice o1 L.length c1).ownBlock=some q->w.heap.size<=q):=fun q hq=>(hown.lt q hq).1
 clear hown hb;go_wp2_with (go_at_call 100;refine CS.o.mono ?_);rintro e w2 ⟨rfl,hown2,hg2⟩;go_wp2;go_ret;exact⟨o1,c1,rfl,hown2,XX HB.o hg2 bP.o⟩
open Go.RowKit Go.Shelf Go.Sort
def qd(s:ByteArray):ByteArray:=cat (cat ⟨#[34]⟩ s) ⟨#[34]⟩
theorem JC(s:ByteArray):(qd s).data.toList=34 :: (s.data.toList++[34]):=by
 unfold qd;rw[BA,BA];simp
theorem BI(s:ByteArray):(qd s).size=s.size+2:=by
 unfold qd;rw[zA,zA];show 1+s.size+1=_;omega
theorem Yr(s:ByteArray)(w:World)(hs:s.size<=1048576):Calls prog 44 #[.string s] w fun e w'=>e=.returned (.string (qd s))/\w'=w:=by
 unfold qd;have c1:∀wx,(Op.stringOp .add ⟨#[34]⟩ s).run prog wx=.ok (.string (cat ⟨#[34]⟩ s)) wx:=fun wx=>BB _ _ wx (by show 1+_<=_;omega)
 have z1:(cat ⟨#[34]⟩ s).size=1+s.size:=zA _ _;generalize cat ⟨#[34]⟩ s=Q1 at c1 z1 ⊢;have c2:∀wx,(Op.stringOp .add Q1 ⟨#[34]⟩).run prog wx=.ok (.string (cat Q1 ⟨#[34]⟩)) wx:=fun wx=>BB _ _ wx (by show _+1<=_;omega)
 generalize cat Q1 ⟨#[34]⟩=Q2 at c2 ⊢;go_enter func44,ntmps44;go_wp2;go_ret;exact⟨rfl,rfl⟩
theorem agS(sep:List UInt8)(r:List (List UInt8))(x:List UInt8):Lib.joinTail sep (r++[x])=Lib.joinTail sep r++(sep++x):=by
 unfold Lib.joinTail;simp
theorem Yt(S:List ByteArray):∀k,k<=S.length->Lib.join ((S.take k).map (fun y=>(qd y).data.toList)) [44,32]=jP S k
 | 0,_=>by simp[Lib.join_nil,jP]
 | k+1,hk=>by
  have ih:=Yt S k (by omega);rw[Pg S k (by omega),List.take_succ_eq_append_getElem (by omega),List.map_append,List.map_singleton,JC,<-ih]
  cases k with
  | zero=>simp[Lib.join_nil,Lib.join_one]
  | succ k =>
   match hm:(S.take (k+1)).map (fun y=>(qd y).data.toList) with
   | []=>have:=congrArg List.length hm;rw[List.length_map,List.length_take]at this;simp only[List.length_nil]at this;omega
   | z :: r =>
    rw[List.cons_append,Lib.join_cons,Lib.join_cons,agS];simp
theorem Yu(S:List ByteArray):Lib.join ((S.map qd).map (·.data.toList)) [44,32]=jP S S.length:=by
 have:=Yt S S.length (Nat.le_refl _);rw[List.take_length]at this;rw[List.map_map];exact this
theorem agT(o:Option Addr)(c:Nat)(S:List ByteArray)(base:Nat)(w:World)(h:w.ownsRow base 9 1 (.slice o S.length c) S.length ((S.map qd).map Value.string))(hl:S.length<=20)(hs:∀y∈S,y.size<=1048576) :
  Calls prog 70 #[.slice o S.length c,.string ⟨#[44,32]⟩] w fun e w'=>e=.returned (.string ⟨(jP S S.length).toArray⟩)/\w.grownBy w' none:=by
 have hlen:(jP S S.length).length<=140737488355328:=by
  have:=Jm S hs S.length (Nat.le_refl _);omega
 rcases h.2 with⟨h1,h0⟩|⟨g,cap,cur,hv,hb,hg,hn,hm,hcs,ht⟩
 ·have hE:S=[]:=List.eq_nil_of_length_eq_zero h0;subst hE;refine(Any.strings_Join_none Tryz.lays156 Tryz.Builder_Extra_156 o c ⟨#[44,32]⟩ w).mono ?_;rintro e w' ⟨rfl,rfl⟩;exact⟨rfl,au _ _⟩
 ·cases hv
  have e1:(S.map qd).length=S.length:=by simp
  have key:=Any.strings_Join Tryz.lays156 Tryz.Builder_Extra_156 g 0 c (S.map qd) ⟨#[44,32]⟩ w (fun j x hx=>by
   rw[Nat.zero_add];have:=h.cells (g:=g) rfl j (.string x) (by rw[List.getElem?_map,hx];rfl);rw[Wp]at this;exact this) (dO hg) (by rw[e1];omega) (by rw[e1];exact hn) (by rw[Yu];exact hlen)
  rw[e1,Yu]at key;refine key.mono ?_;rintro e w' ⟨rfl,hb'⟩;exact⟨rfl,DV hb'⟩
theorem agU(v:Value)(N:List ByteArray)(w:World)(h:TxS w v N)(hN:N.length<=20)(hs:∀y∈N,y.size<=1048576) :
  Calls prog 45 #[v] w fun e w'=>∃T:ByteArray,e=.returned (.string T)/\T.data.toList=91 :: (jP (kV N) (kV N).length++[93])/\w.grownBy w' none:=by
 obtain⟨o,c,rfl⟩:=xB h;obtain⟨n,hn⟩:=zN (N.length);have hb0:=heap_alloc_new w (.cells #[.slice o n c] 31);have Yv:Hd (Calls prog 68 #[.func (.func 101) #[] #[.pointer (some ⟨w.heap.size,0,none⟩)]] (w.alloc (.cells #[.slice o n c] 31)) fun e w'=>∃o c,e=.returned (.slice o n c)/\w'.ownsRow (w.heap.size+1) 9 1 (.slice o n c) n ((kV N).map Value.string)/\w.grownBy w' none):=by
  have key:=sortedS w.heap.size o c N (by omega) (w.alloc (.cells #[.slice o n c] 31)) (by rw[hn];exact hb0) (by rw[<-hn];exact h.grow (bC (au w none) _));refine key.mono fun e w' ⟨o2,c2,h1,h2,h3⟩=>⟨o2,c2,by rw[<-hn];exact h1,?_,ai (bC (au w none) _) h3⟩
  rw[World.size_alloc,hn]at h2;exact h2
 obtain⟨S,hS⟩:=zN (kV N);have hSl:S.length=n:=by rw[<-hS,(zy N).length_eq,hn]
 have jr:Hd (∀y∈S,y.size<=1048576):=fun y hy=>hs y ((zy N).subset (by rw[hS];exact hy))
 have iJ:Hd (S.length=n):=hSl;rw[hS]at Yv ⊢;have CQ:Hd (∀y∈S,∀w,Calls prog 44 #[.string y] w fun e w'=>e=.returned (.string (qd y))/\w'=w):=fun y hy w=>Yr y w (jr.o y hy)
 have CJ:Hd (∀(o:Option Addr) (c:Nat) (wx:World),wx.ownsRow (w.heap.size+1) 9 1 (.slice o n c) n ((S.map qd).map Value.string)->Calls prog 70 #[.slice o n c,.string ⟨#[44,32]⟩] wx fun e w'=>e=.returned (.string ⟨(jP S S.length).toArray⟩)/\wx.grownBy w' none):=fun o c wx h=>by
  have key:=agT o c S (w.heap.size+1) wx (by rw[hSl];exact h) (by omega) jr.o;rw[hSl]at key ⊢;exact key
 obtain⟨J,hJ⟩:∃J:ByteArray,⟨(jP S S.length).toArray⟩=J:=⟨_,rfl⟩;have PO:J.data.toList=jP S S.length:=by rw[<-hJ]
 have hJs:J.size<=20*1048580:=by
  have h1:=Jm S jr.o S.length (Nat.le_refl _);have h2:J.size=(jP S S.length).length:=by rw[<-PO];simp
  omega
 rw[hJ]at CJ;have c1:∀wx,(Op.stringOp .add ⟨#[91]⟩ J).run prog wx=.ok (.string (cat ⟨#[91]⟩ J)) wx:=fun wx=>BB _ _ wx (by show 1+_<=_;omega)
 have z1:(cat ⟨#[91]⟩ J).size=1+J.size:=zA _ _;have l1:=BA ⟨#[91]⟩ J;generalize cat ⟨#[91]⟩ J=Q1 at c1 z1 l1;have c2:∀wx,(Op.stringOp .add Q1 ⟨#[93]⟩).run prog wx=.ok (.string (cat Q1 ⟨#[93]⟩)) wx:=fun wx=>BB _ _ wx (by show _+1<=_;omega)
 have l2:=BA Q1 ⟨#[93]⟩;generalize cat Q1 ⟨#[93]⟩=Q2 at c2 l2;have jf:Hd (Q2.data.toList=91 :: (jP S S.length++[93])):=by
  show _=_;rw[l2,l1,PO];simp
 rw[hn];rw[hn]at hN;clear h hs hb0 hS hSl hJ PO z1 l1 l2 hn hJs;go_enter func45,ntmps45;go_wp2_with (first|(go_at_call 69;refine(afu _ _ _ _).mono ?_;rintro e w' ⟨rfl,rfl⟩)|(go_at_call 68;refine Yv.o.mono ?_));rintro e w2 ⟨o2,c2,rfl,hown,hg⟩;have HO:Hd (w2.ownsRow (w.heap.size+1) 9 1 (.slice o2 n c2) n ((((S.take 0).map qd)++S.drop 0).map Value.string)):=hown;have HG:Hd (w.grownBy w2 none):=hg;clear hown hg;go_wp2;go_loopw [11] (fun vi wr=>∃i:Nat,vi=.int .i64 i/\i<=n/\wr.ownsRow (w.heap.size+1) 9 1 (.slice o2 n c2) n ((((S.take i).map qd)++S.drop i).map Value.string)/\w.grownBy wr none) (fun vi _=>n-(intOf vi).toNat)
 case atStart=>exact⟨0,rfl,Nat.zero_le _,HO.o,HG.o⟩
 case round =>
  obtain⟨i,rfl,hi,hrow,hgr⟩:=hrel;have HRW:Hd (wr.ownsRow (w.heap.size+1) 9 1 (.slice o2 n c2) n ((((S.take i).map qd)++S.drop i).map Value.string)):=hrow;have JD:Hd (w.grownBy wr none):=hgr
  by_cases hlt:i<n
  ·have Yw:i<S.length:=by rw[iJ.o];exact hlt
   obtain⟨y,hy⟩:=zN (S[i]);have HD:Hd (S.drop i=y :: S.drop (i+1)):=by
    show _=_;rw[List.drop_eq_getElem_cons Yw,hy]
   have CY:Hd (∀w,Calls prog 44 #[.string y] w fun e w'=>e=.returned (.string (qd y))/\w'=w):=fun w=>CQ.o y (by rw[<-hy];exact List.getElem_mem _) w
   have gq:Hd ((S.take (i+1)).map qd=(S.take i).map qd++[qd y]):=by
    show _=_;rw[List.take_succ_eq_append_getElem Yw,List.map_append,hy];rfl
   obtain⟨g,rfl,hgc⟩:∃g,o2=some ⟨g,0,none⟩/\n<=c2:=by
    rcases hrow.2 with⟨h1,h0⟩|⟨g,cap,cur,hv,hb,hgb,hn',_⟩
    ·omega
    ·cases hv;exact⟨g,rfl,hn'⟩
   have yh:Hd (((S.take i).map qd).length=i):=by show _=_;rw[List.length_map,List.length_take];omega
   have d1:wr.cell? ⟨g,i,none⟩=some (.string y):=by
    have h1:=HRW.o;rw[HD.o]at h1;have:=ad7 h1;rw[yh.o]at this;exact this
   have ff:=ad6 HRW.o i;have aH:Hd (w.heap.size+1<=g):=(hrow.lt g rfl).1;clear hrow hgr hy;go_wp2_with (go_at_call 44;refine(CY.o _).mono ?_;rintro e w' ⟨rfl,rfl⟩);refine⟨⟨i+1,by go_num,by omega,?_,?_⟩,by simp[intOf];omega⟩
   ·have h1:=ad5 HRW.o i (.string (qd y)) (by omega);rw[HD.o]at h1;rw[gq.o];have e1:(((S.take i).map qd++y :: S.drop (i+1)).map Value.string).set i (.string (qd y))=(((S.take i).map qd++[qd y])++S.drop (i+1)).map Value.string:=by
     rw[List.map_append,List.set_append_right _ _ (by rw[List.length_map,yh.o];omega),List.length_map,yh.o,Nat.sub_self];simp
    rw[e1]at h1;exact h1
   ·exact XX JD.o (aS (au _ (some g)) _ _) (fun q hq=>by injection hq with hq;have:=aH.o;omega)
  ·have hie:i=n:=by omega
   have CJJ:Hd (Calls prog 70 #[.slice o2 n c2,.string ⟨#[44,32]⟩] wr fun e w'=>e=.returned (.string J)/\wr.grownBy w' none):=CJ.o o2 c2 wr (by
    rw[hie,<-iJ.o,List.take_length,List.drop_length,List.append_nil]at hrow;rw[iJ.o]at hrow;exact hrow)
   clear hrow hgr hie hi;go_wp2_with (go_at_call 70;refine CJJ.o.mono ?_;rintro e w3 ⟨rfl,hg3⟩);go_ret;exact⟨Q2,rfl,jf.o,ai JD.o hg3⟩
open Go.RowKit Go.Shelf Go.Sort
theorem agV{α β:Type}(f:α->β){A B:List β}(h:A.Perm B):∀Z:List α,Z.map f=B->∃Z':List α,Z'.map f=A/\Z'.Perm Z:=by
 induction h with
 | nil=>intro Z hZ;exact⟨Z,hZ,List.Perm.refl _⟩
 | cons x _ ih =>
  intro Z hZ
  match Z,hZ with
  | z :: Z,hZ =>
   rw[List.map_cons]at hZ;injection hZ with h1 h2
   obtain⟨Z',h3,h4⟩:=ih Z h2;exact⟨z :: Z',by rw[List.map_cons,h1,h3],h4.cons z⟩
 | swap x y l =>
  intro Z hZ
  match Z,hZ with
  | z1 :: z2 :: Z,hZ =>
   rw[List.map_cons,List.map_cons]at hZ;injection hZ with h1 h2
   injection h2 with h2 h3
   exact⟨z2 :: z1 :: Z,by rw[List.map_cons,List.map_cons,h1,h2,h3],List.Perm.swap _ _ _⟩
 | trans _ _ ih1 ih2 =>
  intro Z hZ;obtain⟨Z2,h3,h4⟩:=ih2 Z hZ;obtain⟨Z1,h5,h6⟩:=ih1 Z2 h3;exact⟨Z1,h5,h6.trans h4⟩
theorem agW{w:World}{E E':List Ec}{L:List En}(hl:E.length=L.length)(hi:∀i (h1:i<E.length) (h2:i<L.length),EcIs w E[i] L[i])(hp:E'.Perm E):∃M:List En,M.Perm L/\M.length=E'.length/\∀i (h1:i<E'.length) (h2:i<M.length),EcIs w E'[i] M[i]:=by
 obtain⟨Z,hZ1,hZ2⟩:=agV Prod.fst hp (E.zip L) (List.map_fst_zip (by omega));have hz:∀z∈Z,EcIs w z.1 z.2:=fun z hz=>by
  obtain⟨i,hi2,rfl⟩:=List.getElem_of_mem (hZ2.subset hz);rw[List.getElem_zip];rw[List.length_zip]at hi2;exact hi i (by omega) (by omega)
 refine⟨Z.map Prod.snd,?_,by rw[<-hZ1];simp,fun i h1 h2=>?_⟩
 ·have:=hZ2.map Prod.snd;rw[List.map_snd_zip (by omega)]at this;exact this
 ·have hiZ:i<Z.length:=by simpa using h2
  have e1:E'[i]=Z[i].1:=by simp only[<-hZ1,List.getElem_map]
  rw[e1,List.getElem_map];exact hz _ (List.getElem_mem _)
theorem agX{w:World}{base:Nat}{o:Option Addr}{c:Nat}{E:List Ec}(h:w.ownsRow base 33 4 (.slice o E.length c) E.length (E.flatMap eG)):EcS w (.slice o E.length c) E:=by
 rcases h.2 with⟨h1,h2⟩|⟨g,cap,cur,hv,hb,hc,h3,h4,h5,h6⟩
 ·exact Or.inl ⟨h1,List.length_eq_zero_iff.1 h2⟩
 ·refine Or.inr ⟨⟨g,0,none⟩,cap,hv,h3,fun i hi=>?_⟩;have h':=h;rw[hv]at h';have key:∀k u,0<k->(eG E[i])[k]?=some u->w.cell? ⟨((⟨g,0,none⟩:Addr).add (i*4)).block,((⟨g,0,none⟩:Addr).add (i*4)).off+k,none⟩=some u:=fun k u hk hu=>by
   have:=h'.cells (g:=g) rfl (i*4+k) u (PM E i hi k u hu);rw[acQ _ _ k hk]at this;exact this
  have k0:=h'.cells (g:=g) rfl (i*4+0) _ (PM E i hi 0 _ rfl);exact⟨by simpa using k0,key 1 _ (by omega) rfl,key 2 _ (by omega) rfl,key 3 _ (by omega) rfl⟩
def Bld(B:Nat)(l:List UInt8)(w:World):Prop:=Lib.IsBuilderF 92 5 B B (Lib.byteCells l) w
theorem Bld.alloc{B:Nat}{l:List UInt8}{w:World}(h:Bld B l w)(o:Obj):Bld B l (w.alloc o):=Lib.IsBuilderF.alloc h o
theorem Bld.grow{B:Nat}{l:List UInt8}{w w':World}(h:Bld B l w)(hg:w.grownBy w' none):Bld B l w':=by
 have key:∀p,Lib.BuilderAtF 92 5 B B p (Lib.byteCells l) w->Lib.BuilderAtF 92 5 B B p (Lib.byteCells l) w':=fun p h=>by
  obtain⟨h1,v,h2,h3,h4⟩:=h;exact⟨h1,v,(hg.block B (dO h2) (by simp)).trans h2,h3.kept hg (by cases v.ownBlock<;>simp),h4⟩
 exact h.imp (key _) (key _)
theorem agY(w:World):Bld w.heap.size [] (w.alloc (.cells #[.pointer none,.slice none 0 0] 92)):=Lib.IsBuilderF.of (Lib.fresh_isBuilder _ _ w)
def PQ(B:Nat)(l:List UInt8)(w:World)(e:Ending)(w':World):Prop:=(∃k:Int,e=.returned (.tuple #[.int .i64 k,.nilIface]))/\Bld B l w'/\Below B w w'/\∀K nm ve dg o n c,w.heap[K]?=some (.cells #[.string nm,.string ve,.string dg,.slice o n c] 33 (0,0))->¬K=B->w'.heap[K]?=some (.cells #[.string nm,.string ve,.string dg,.slice o n c] 33 (0,0))
theorem agZ(B:Nat)(l:List UInt8)(s:ByteArray)(w:World)(h:Bld B l w)(hlen:l.length+s.size<=140737488355328)(hB:B<=w.heap.size) :
  Calls prog 42 #[.pointer (some ⟨B,0,none⟩),.string s] w (PQ B (l++s.data.toList) w):=by
 refine(Any.Builder_WriteString_k Tryz.lays166 Tryz.Builder_Extra_166 B B (Lib.byteCells l) s w h (by rw[Lib.byteCells_length];exact hlen) hB).mono ?_;rintro e w' ⟨rfl,h1,h2,h3⟩;refine⟨⟨_,rfl⟩,Or.inr ?_,h2,fun K nm ve dg o n c hK hne=>h3 K _ hK (by simpa using hne) (fun c fz e=>by
  injection e with _ e2 _
  have e3:Tryz.lays166_ren.t 5=5:=rfl;rw[e3]at e2
  cases e2)⟩
 have e1:Lib.byteCells l++Lib.strCells s=Lib.byteCells (l++s.data.toList):=by simp[Lib.byteCells,Lib.strCells]
 rw[e1]at h1;exact h1
theorem ag0(B:Nat)(l:List UInt8)(w:World)(h:Bld B l w)(hB:B<=w.heap.size) :
  Calls prog 46 #[.pointer (some ⟨B,0,none⟩)] w fun e w'=>e=.returned (.string ⟨l.toArray⟩)/\Below B w w':=(Any.Builder_String_any_k Tryz.lays169 Tryz.Builder_Extra_169 B B l w h hB).mono fun e w' ⟨h1,_,h2,_⟩=>⟨h1,h2⟩
theorem ag1(y:En)(T:ByteArray)(hT:T.data.toList=91 :: (jP (kV y.nd) (kV y.nd).length++[93])):[10,91,91,112,97,99,107,97,103,101,93,93,10]++(([100,105,103,101,115,116,32,61,32]++((qd y.dg).data.toList++[10]))++(([110,97,109,101,32,61,32]++((qd y.nm).data.toList++[10]))++(([110,101,101,100,115,32,61,32]++(T.data.toList++[10]))++([118,101,114,115,105,111,110,32,61,32]++((qd y.ve).data.toList++[10])))))=lD (jI y):=by
 rw[hT,JC,JC,JC];unfold lD jI;simp
def Rnd(B K:Nat)(nm ve dg:ByteArray)(o:Option Addr)(n c:Nat)(W2:World)(l:List UInt8)(w:World):Prop:=Bld B l w/\B<=w.heap.size/\Below B W2 w/\K<w.heap.size/\w.heap[K]?=some (.cells #[.string nm,.string ve,.string dg,.slice o n c] 33 (0,0))
theorem Rnd.wr{B K:Nat}{nm ve dg:ByteArray}{o:Option Addr}{n c:Nat}{W2:World}{l l':List UInt8}{w w':World}{e:Ending}(h:Rnd B K nm ve dg o n c W2 l w)(hK:¬K=B)(hw:PQ B l' w e w'):Rnd B K nm ve dg o n c W2 l' w' :=
 ⟨hw.2.1,Nat.le_trans h.2.1 hw.2.2.1.size,h.2.2.1.trans hw.2.2.1,Nat.lt_of_lt_of_le h.2.2.2.1 hw.2.2.1.size,hw.2.2.2 K nm ve dg o n c h.2.2.2.2 hK⟩
theorem Rnd.grow{B K:Nat}{nm ve dg:ByteArray}{o:Option Addr}{n c:Nat}{W2:World}{l:List UInt8}{w w':World}(h:Rnd B K nm ve dg o n c W2 l w)(hg:w.grownBy w' none):Rnd B K nm ve dg o n c W2 l w' :=
 ⟨h.1.grow hg,Nat.le_trans h.2.1 hg.size,h.2.2.1.trans ⟨hg.os,hg.tape,hg.output,hg.size,fun k hk=>hg.block k (Nat.lt_of_lt_of_le hk h.2.1) (by simp)⟩,Nat.lt_of_lt_of_le h.2.2.2.1 hg.size,(hg.block K h.2.2.2.1 (by simp)).trans h.2.2.2.2⟩
theorem Fp(K V:ByteArray){k:Nat}(hk:K.size=k)(h:k+V.size+1<=140737488355328):∃A S,(∀wx,(Op.stringOp .add K V).run prog wx=.ok (.string A) wx)/\(∀wx,(Op.stringOp .add A ⟨#[10]⟩).run prog wx=.ok (.string S) wx)/\Hd (S.data.toList=K.data.toList++(V.data.toList++[10]))/\S.size=k+V.size+1 :=
 ⟨cat K V,cat (cat K V) ⟨#[10]⟩,fun wx=>BB _ _ wx (by omega),fun wx=>BB _ _ wx (by rw[zA,hk];exact h),by show _=_;rw[BA,BA];simp,by rw[zA,zA,hk];rfl⟩
theorem ag2(v:Value)(L:List En)(w:World)(h:EnS w v L)(hl:L.length<=50)(hsh:∀x∈L,Short x)(hnd:(L.map (·.nm)).Nodup) :
  Calls prog 19 #[v] w fun e w'=>e=.returned (.string (vX L))/\w.grownBy w' none:=by
 obtain⟨E,hE,hEl,hEi⟩:=afA h;obtain⟨o,c,rfl⟩:=DU h;obtain⟨n,hn⟩:=zN (L.length);have hb0:=heap_alloc_new w (.cells #[.slice o n c] 22);have Yx:Hd (Calls prog 38 #[.func (.func 64) #[] #[.pointer (some ⟨w.heap.size,0,none⟩)],.func (.func 40) #[] #[]] (w.alloc (.cells #[.slice o n c] 22)) fun e w'=>∃(E':List Ec) (o2:Option Addr) (c2:Nat),e=.returned (.slice o2 n c2)/\E'.length=n/\EcS w' (.slice o2 n c2) E'/\(∀i (h1:i<E'.length) (h2:i<(pK L).length),EcIs w' E'[i] (pK L)[i])/\w.grownBy w' none):=by
  have yj:=hEl.trans hn;have key:=agO w.heap.size o c E (by omega) (w.alloc (.cells #[.slice o n c] 22)) (by rw[yj];exact hb0) (by rw[hEl];exact hE.grow (bC (au w none) _));refine key.mono fun e w' ⟨E',o2,c2,h1,hp,hr,hown,hg⟩=>?_
  have PS:=hp.length_eq.trans yj;have hgw:=ai (bC (au w none) _) hg;obtain⟨M,hM1,hM2,PT⟩:=agW hEl hEi hp;have hMr:Bz M:=by
   unfold Bz;rw[List.pairwise_iff_getElem];intro i j hi hj hij;have:=List.pairwise_iff_getElem.1 hr i j (by omega) (by omega) hij;rw[(PT i (by omega) hi).1,(PT j (by omega) hj).1]at this;exact this
  have hMs:=XW hnd hM1 hMr;subst hMs;refine⟨E',o2,c2,by rw[<-PS];exact h1,PS,by rw[<-PS];exact agX hown,fun i h1 h2=>(PT i h1 h2).grow hgw,hgw⟩
 have PU:=(ET L).length_eq.trans hn;have PV:=fun y (hy:y∈pK L)=>hsh y ((ET L).subset hy)
 have Yy:vX L=⟨(x8 ((pK L).map jI)).toArray⟩:=rfl;rw[Yy];obtain⟨M,hM⟩:=zN (pK L);rw[hM]at Yx PU PV ⊢;have zh:=ae PV;have Yz:=ae PU;rw[hn];rw[hn]at hl;have CI:Hd (∀wx,Calls prog 43 #[.int .i64 1] wx fun e w'=>e=.returned (.string ⟨(Lib.decDigits 1).toArray⟩)/\w'=wx):=fun wx=>Any.strconv_Itoa_small { Tryz.lays171 with } 1 (by decide) wx
 have hdd:(⟨(Lib.decDigits 1).toArray⟩:ByteArray)=⟨#[49]⟩:=by
  rw[Lib.decDigits];rfl
 rw[hdd]at CI;have CQ:=ae Yr;have CL:=ae agU;obtain⟨Z1,Z2,c1,c2,HZ,hz2⟩:=Fp ⟨#[102,111,114,109,97,116,32,61,32]⟩ ⟨#[49]⟩ (k:=9) rfl (by decide);have HZ2:Hd ([]++Z2.data.toList=[102,111,114,109,97,116,32,61,32,49,10]++((M.map jI).take 0).flatMap lD):=by
  show _=_;rw[HZ.o];rfl
 replace hz2:Z2.size=11:=hz2;clear h hE hEl hEi hb0 hsh hnd hM PU PV Yy hdd HZ hn;go_enter func19,ntmps19;go_wp2_with (first|(go_at_call 39;refine(afB _ _ _ _).mono ?_;rintro e w' ⟨rfl,rfl⟩)|(go_at_call 38;refine Yx.o.mono ?_));rintro e W2 ⟨E',o2,c2',rfl,yj,Fv,hpt,hg2⟩;have HEC:Hd (E'.length=n/\EcS W2 (.slice o2 n c2') E'/\∀i (h1:i<E'.length) (h2:i<M.length),EcIs W2 E'[i] M[i]):=⟨yj,Fv,hpt⟩;have HG2:=ae hg2;obtain⟨B,hB⟩:=zN (W2.heap.size);have HB:=ae hB;have hbn:=agY W2;rw[hB]at hbn;have CW:=ae (agZ B);have PW:Hd (Bld B [] (W2.alloc (.cells #[.pointer none,.slice none 0 0] 92))/\B<=(W2.alloc (.cells #[.pointer none,.slice none 0 0] 92)).heap.size):=⟨hbn,by rw[World.size_alloc,hB];omega⟩;clear yj Fv hpt hg2 hbn;have HCB:=ae (ag0 B);go_wp2_with (first|(go_at_call 43;refine(CI.o _).mono ?_;rintro e w' ⟨rfl,rfl⟩)|(go_at_call 42;refine(CW.o [] Z2 _ PW.o.1 (by rw[hz2];decide) PW.o.2).mono ?_))
 rintro e W3 ⟨⟨k0,rfl⟩,hb3,hw3,-⟩;have HI3:Hd (Bld B ([102,111,114,109,97,116,32,61,32,49,10]++((M.map jI).take 0).flatMap lD) W3/\Below B W2 W3/\B<W3.heap.size):=by
  refine⟨?_,((Below.refl B W2).alloc (by rw[hB];exact Nat.le_refl _) _).trans hw3,?_⟩
  ·rw[<-HZ2.o];exact hb3
  ·have:=hw3.size;rw[World.size_alloc,hB]at this;omega
 clear hb3 hw3 PW hB c1 c2;go_wp2;go_loopw [16] (fun vi wr=>∃i:Nat,vi=.int .i64 i/\i<=n/\(Bld B ([102,111,114,109,97,116,32,61,32,49,10]++((M.map jI).take i).flatMap lD) wr/\Below B W2 wr/\B<wr.heap.size)/\([102,111,114,109,97,116,32,61,32,49,10]++((M.map jI).take i).flatMap lD).length<=11+i*67108864) (fun vi _=>n-(intOf vi).toNat)
 case atStart=>exact⟨0,rfl,Nat.zero_le _,HI3.o,by simp⟩
 case round =>
  obtain⟨i,rfl,hi,⟨hbl,hbw,hbs⟩,hln⟩:=hrel;have fJ:Hd (W2.grownBy wr none):=by
   refine⟨hbw.os,hbw.tape,hbw.output,hbw.size,fun k hk _=>hbw.block k (by rw[<-HB.o];exact hk)⟩
  have wV:=ae hbw
  by_cases hlt:i<n
  ·obtain⟨yj,Fv,hpt⟩:=HEC.o;have hix:i<E'.length:=by omega
   have YA:EcS wr (.slice o2 E'.length c2') E':=by rw[yj];exact Fv.grow fJ.o
   obtain⟨a,rfl,hcp,hat⟩:=X4 YA hix;have hiM:i<M.length:=by rw[Yz.o];exact hlt
   obtain⟨p1,p2,p3,p4⟩:=hpt i hix hiM;obtain⟨e0,e1,e2,e3⟩:=hat i hix;obtain⟨q1,q2,q3,q4,q5⟩:=zh.o M[i] (List.getElem_mem _);have gq:Hd (((M.map jI).take (i+1)).flatMap lD=((M.map jI).take i).flatMap lD++lD (jI M[i])):=by
    show _=_;rw[aft (M.map jI) i (by rw[List.length_map];exact hiM),List.getElem_map]
   obtain⟨y,hy⟩:=zN (M[i]);rw[hy]at p1 p2 p3 p4 q1 q2 q3 q4 q5 gq;obtain⟨x,hx⟩:=zN (E'[i]);rw[hx]at p1 p2 p3 p4 e0 e1 e2 e3;obtain⟨xn,xv,xd,xo,xm,xc⟩:=x;obtain⟨yn,yv,yd,N⟩:=y;simp only[]at p1 p2 p3 p4 q1 q2 q3 q4 q5 e0 e1 e2 e3;subst p1 p2 p3;have ag3:=ae p4;have uG:=ae q5;have ajD:n<=c2':=by omega
   obtain⟨l0,hl0⟩:=zN ([102,111,114,109,97,116,32,61,32,49,10]++((M.map jI).take i).flatMap lD);have AP:=ae hl0;rw[hl0]at hbl hln;obtain⟨K,hK⟩:=zN (wr.heap.size);have HKB:Hd (¬K=B):=by show ¬_;omega
   have YB:=ae hK;have hBK:B<K:=by omega
   have hnew:=heap_alloc_new wr (.cells #[.string xn,.string xv,.string xd,.slice xo xm xc] 33);rw[hK]at hnew;have um:Hd (Bld B l0 (wr.alloc (.cells #[.string xn,.string xv,.string xd,.slice xo xm xc] 33))/\B<=(wr.alloc (.cells #[.string xn,.string xv,.string xd,.slice xo xm xc] 33)).heap.size/\Below B W2 (wr.alloc (.cells #[.string xn,.string xv,.string xd,.slice xo xm xc] 33))/\K<(wr.alloc (.cells #[.string xn,.string xv,.string xd,.slice xo xm xc] 33)).heap.size/\(wr.alloc (.cells #[.string xn,.string xv,.string xd,.slice xo xm xc] 33)).heap[K]?=some (.cells #[.string xn,.string xv,.string xd,.slice xo xm xc] 33 (0,0))) :=
    ⟨hbl.alloc _,by rw[World.size_alloc];omega,hbw.alloc (by omega) _,by rw[World.size_alloc];omega,hnew⟩
   have ui:=ae hln;clear hbl hbw hln Fv YA hpt hat p4 q5 hy hx hl0 hnew hK hcp yj hix hiM;obtain⟨S2a,S2,c2a,c2,HS2,hs2⟩:=Fp ⟨#[100,105,103,101,115,116,32,61,32]⟩ (qd xd) (k:=9) rfl (by have:=BI xd;omega);obtain⟨S3a,S3,c3a,c3,jQ,hs3⟩:=Fp ⟨#[110,97,109,101,32,61,32]⟩ (qd xn) (k:=7) rfl (by have:=BI xn;omega);obtain⟨S5a,S5,c5a,c5,yH,hs5⟩:=Fp ⟨#[118,101,114,115,105,111,110,32,61,32]⟩ (qd xv) (k:=10) rfl (by have:=BI xv;omega);have hqd:=BI xd;have AZ:=BI xn;have hqv:=BI xv;have hln:=ui.o;have Jc:Hd (∀wx,Bld B l0 wx->B<=wx.heap.size->Calls prog 42 #[.pointer (some ⟨B,0,none⟩),.string ⟨#[10,91,91,112,97,99,107,97,103,101,93,93,10]⟩] wx (PQ B (l0++[10,91,91,112,97,99,107,97,103,101,93,93,10]) wx)):=fun wx h1 h2=>CW.o l0 ⟨#[10,91,91,112,97,99,107,97,103,101,93,93,10]⟩ wx h1 (by show _+13<=_;omega) h2
   obtain⟨WA,PX⟩:=zN (wr.alloc (.cells #[.string xn,.string xv,.string xd,.slice xo xm xc] 33));have PY:=ae PX;rw[PX]at um;clear PX hln;go_wp2_with (go_at_call 42;(try rw[YB.o]);rw[PY.o];refine(Jc.o WA um.o.1 um.o.2.1).mono ?_);rintro e w1 ⟨⟨k1,rfl⟩,hh⟩;have HR1:=ae (Rnd.wr (show Rnd B K xn xv xd xo xm xc W2 l0 WA from um.o) HKB.o (e:=.returned (.tuple #[.int .i64 k1,.nilIface])) ⟨⟨_,rfl⟩,hh⟩);obtain⟨l1,hl1⟩:=zN (l0++[10,91,91,112,97,99,107,97,103,101,93,93,10]);have uS:=ae hl1;have n1:l1.length=l0.length+13:=by rw[<-hl1];simp
   rw[hl1]at HR1;clear hh hl1 Jc;have f2:=(zx HR1.o.2.2.2.2).2.2.1;go_wp2_with (first|(go_at_call 44;refine(CQ.o xd _ q3).mono ?_;rintro e w' ⟨rfl,rfl⟩)|(go_at_call 42;refine(CW.o l1 S2 _ HR1.o.1 (by have:=ui.o;omega) HR1.o.2.1).mono ?_));rintro e w2 ⟨⟨k2,rfl⟩,hh⟩;have HR2:=ae (Rnd.wr HR1.o HKB.o (e:=.returned (.tuple #[.int .i64 k2,.nilIface])) ⟨⟨_,rfl⟩,hh⟩);obtain⟨l2,hl2⟩:=zN (l1++S2.data.toList);have HL2:=ae hl2;have n2:l2.length=l1.length+S2.size:=by rw[<-hl2];simp
   rw[hl2]at HR2;clear hh hl2;have f0:=(zx HR2.o.2.2.2.2).1;go_wp2_with (first|(go_at_call 44;refine(CQ.o xn _ q1).mono ?_;rintro e w' ⟨rfl,rfl⟩)|(go_at_call 42;refine(CW.o l2 S3 _ HR2.o.1 (by have:=ui.o;omega) HR2.o.2.1).mono ?_));rintro e w3 ⟨⟨k3,rfl⟩,hh⟩;have HR3:=ae (Rnd.wr HR2.o HKB.o (e:=.returned (.tuple #[.int .i64 k3,.nilIface])) ⟨⟨_,rfl⟩,hh⟩);obtain⟨l3,hl3⟩:=zN (l2++S3.data.toList);have rJ:=ae hl3;have n3:l3.length=l2.length+S3.size:=by rw[<-hl3];simp
   rw[hl3]at HR3;clear hh hl3;have f3:=(zx HR3.o.2.2.2.2).2.2.2;have ag4:Hd (TxS w3 (.slice xo xm xc) N):=by
    have hb:=HR3.o.2.2.1;exact ag3.o.grow ⟨hb.os,hb.tape,hb.output,hb.size,fun k hk _=>hb.block k (by rw[<-HB.o];exact hk)⟩
   go_wp2_with (go_at_call 45;refine(CL.o _ N _ ag4.o q4 uG.o).mono ?_);rintro e w4 ⟨T,rfl,hT,hg4⟩;have PZ:=ae (HR3.o.grow hg4);have HT:=ae hT;have hTs:T.size<=20*1048580+2:=by
    have h1:=Jm (kV N) (fun y hy=>uG.o y ((zy N).subset hy)) _ (Nat.le_refl _);rw[(zy N).length_eq]at h1;have h2:=congrArg List.length hT;rw[(zy N).length_eq]at h2;simp only[List.length_cons,List.length_append,List.length_nil]at h2;have h3:T.data.toList.length=T.size:=by simp
    have h4:N.length*1048580<=20*1048580:=Nat.mul_le_mul_right _ q4;omega
   clear hT hg4;obtain⟨S4a,S4,c4a,c4,uO,hs4⟩:=Fp ⟨#[110,101,101,100,115,32,61,32]⟩ T (k:=8) rfl (by omega);go_wp2_with (go_at_call 42;refine(CW.o l3 S4 _ PZ.o.1 (by have:=ui.o;omega) PZ.o.2.1).mono ?_);rintro e w5 ⟨⟨k4,rfl⟩,hh⟩;have HR4:=ae (Rnd.wr PZ.o HKB.o (e:=.returned (.tuple #[.int .i64 k4,.nilIface])) ⟨⟨_,rfl⟩,hh⟩);obtain⟨l4,hl4⟩:=zN (l3++S4.data.toList);have Ee:=ae hl4;have n4:l4.length=l3.length+S4.size:=by rw[<-hl4];simp
   rw[hl4]at HR4;clear hh hl4;have f1:=(zx HR4.o.2.2.2.2).2.1;go_wp2_with (first|(go_at_call 44;refine(CQ.o xv _ q2).mono ?_;rintro e w' ⟨rfl,rfl⟩)|(go_at_call 42;refine(CW.o l4 S5 _ HR4.o.1 (by have:=ui.o;omega) HR4.o.2.1).mono ?_));rintro e w6 ⟨⟨k5,rfl⟩,hh⟩;have kP:=ae (Rnd.wr HR4.o HKB.o (e:=.returned (.tuple #[.int .i64 k5,.nilIface])) ⟨⟨_,rfl⟩,hh⟩);obtain⟨l5,hl5⟩:=zN (l4++S5.data.toList);have AV:=ae hl5;have n5:l5.length=l4.length+S5.size:=by rw[<-hl5];simp
   rw[hl5]at kP;clear hh hl5;have wY:Hd ([102,111,114,109,97,116,32,61,32,49,10]++((M.map jI).take (i+1)).flatMap lD=l5):=by
    show _=_;rw[<-AV.o,<-Ee.o,<-rJ.o,<-HL2.o,<-uS.o,<-AP.o,gq.o,HS2.o,jQ.o,uO.o,yH.o,<-ag1 ⟨xn,xv,xd,N⟩ T HT.o];simp only[List.append_assoc]
   have hfl:l5.length<=11+(i+1)*67108864:=by have:=ui.o;omega
   have Ae:Hd (B<w6.heap.size):=by
    have h1:=kP.o.2.1;have h2:=kP.o.2.2.2.1;have h3:=YB.o;show B < _;omega
   clear c2a c2 c3a c3 c5a c5 c4a c4;go_wp2;go_roundw
   case rel=>exact⟨i+1,by go_num,by omega,by rw[wY.o];exact⟨kP.o.1,kP.o.2.2.1,Ae.o⟩,by rw[wY.o];exact hfl⟩
   case measure=>simp[intOf];omega
  ·have hie:i=n:=by omega
   have uw:Hd ([102,111,114,109,97,116,32,61,32,49,10]++((M.map jI).take i).flatMap lD=x8 (M.map jI)):=by
    show _=_;rw[hie,List.take_of_length_le (by rw[List.length_map,Yz.o];exact Nat.le_refl _)];rfl
   have fP:Hd (Bld B (x8 (M.map jI)) wr/\B<=wr.heap.size):=by
    rw[<-uw.o];exact⟨hbl,by omega⟩
   clear hbl hbw hln hie;go_wp2_with (go_at_call 46;refine(HCB.o _ _ fP.o.1 fP.o.2).mono ?_;rintro e w9 ⟨rfl,hb9⟩);go_ret;refine⟨rfl,ai HG2.o ?_⟩;have hb:=wV.o.trans hb9;exact⟨hb.os,hb.tape,hb.output,hb.size,fun k hk _=>hb.block k (by rw[<-HB.o];exact hk)⟩
end Go.Proofs.YtnnbgjaphfhibaaGreatDoor
