import Derived.Test.YtiinliaoojfjaaaGreatDoorF19
import Derived.Test.YtiinliaoojfjaaaGreatDoorF05
set_option linter.all false
set_option maxRecDepth 100000
set_option maxHeartbeats 0
open Go.Proofs.Tryz
namespace Go.Proofs.YtiinliaoojfjaaaGreatDoor
open Go.RowKit
def wF(x y:Int):Int:=if x=0 then y else x
theorem afa(x y:Int)(b:Nat)(w:World)(h0:w.cell? ⟨b,0,none⟩=some (.int .i64 x))(h1:w.cell? ⟨b,1,none⟩=some (.int .i64 y)) :
  Calls prog 121 #[.slice (some ⟨b,0,none⟩) 2 2] w fun e w'=>e=.returned (.int .i64 (wF x y))/\w'=w:=by
 obtain⟨R,hR⟩:∃R,R=wF x y:=⟨_,rfl⟩;have HR:=ae hR;rw[<-hR];clear hR;go_enter func121,ntmps121;go_wp2
 go_loop [8] (fun i=>∃k:Nat,k<=2/\i=.int .i64 k/\(1<=k->x=0)/\(2<=k->y=0)) (fun i=>2-(intOf i).toNat)
 case atStart=>exact⟨0,by omega,rfl,by omega,by omega⟩
 case round =>
  obtain⟨k,hk,rfl,k1,k2⟩:=hrel
  rcases(show k=0\/k=1\/k=2 by omega) with rfl|rfl|rfl
  ·clear k1 k2 hk
   cases hz:(x == 0) with
   | true =>
    have hx:x=0:=by simpa using hz
    go_wp2
    go_round
    case rel=>exact⟨1,by omega,rfl,fun _=>hx,by omega⟩
    case measure=>simp[intOf]
   | false =>
    have HZ:Hd (R=x):=by show R=x;rw[HR.o];unfold wF;rw[if_neg (by simpa using hz)]
    go_wp2;go_ret;exact⟨bF HZ.o.symm,rfl⟩
  ·have hx:=ae (k1 (by omega));clear k1 k2 hk;have HZ:Hd (R=y):=by show R=y;rw[HR.o];unfold wF;rw[if_pos hx.o]
   cases hz:(y == 0) with
   | true =>
    have hy:y=0:=by simpa using hz
    go_wp2
    go_round
    case rel=>exact⟨2,by omega,rfl,fun _=>hx.o,fun _=>hy⟩
    case measure=>simp[intOf]
   | false =>
    go_wp2;go_ret;exact⟨bF HZ.o.symm,rfl⟩
  ·have HZ:Hd (R=0):=by show R=0;rw[HR.o];unfold wF;rw[if_pos (k1 (by omega)),k2 (by omega)]
   clear k1 k2 hk;go_wp2;go_ret;exact⟨bF HZ.o.symm,rfl⟩
def eF(x y:It):Int:=wF (aB (cutV y.v) (cutV x.v)) (Lib.compareInt (x.k:Int) (y.k:Int))
theorem afb{p q:Nat}{x0 x1 x2 x3 y0 y1 y2 y3:Int}{x4 x5 y4 y5:ByteArray}{w w':World}(hg:w.grownBy w' none)(h:w.cell? ⟨p,0,none⟩=some (.int .i64 x0)/\w.cell? ⟨p,1,none⟩=some (.int .i64 x1)/\w.cell? ⟨p,2,none⟩=some (.int .i64 x2)/\w.cell? ⟨p,3,none⟩=some (.int .i64 x3)/\w.cell? ⟨p,4,none⟩=some (.string x4)/\w.cell? ⟨p,5,none⟩=some (.string x5)/\w.cell? ⟨q,0,none⟩=some (.int .i64 y0)/\w.cell? ⟨q,1,none⟩=some (.int .i64 y1)/\w.cell? ⟨q,2,none⟩=some (.int .i64 y2)/\w.cell? ⟨q,3,none⟩=some (.int .i64 y3)/\w.cell? ⟨q,4,none⟩=some (.string y4)/\w.cell? ⟨q,5,none⟩=some (.string y5)) :
  w'.cell? ⟨p,0,none⟩=some (.int .i64 x0)/\w'.cell? ⟨p,1,none⟩=some (.int .i64 x1)/\w'.cell? ⟨p,2,none⟩=some (.int .i64 x2)/\w'.cell? ⟨p,3,none⟩=some (.int .i64 x3)/\w'.cell? ⟨p,4,none⟩=some (.string x4)/\w'.cell? ⟨p,5,none⟩=some (.string x5)/\w'.cell? ⟨q,0,none⟩=some (.int .i64 y0)/\w'.cell? ⟨q,1,none⟩=some (.int .i64 y1)/\w'.cell? ⟨q,2,none⟩=some (.int .i64 y2)/\w'.cell? ⟨q,3,none⟩=some (.int .i64 y3)/\w'.cell? ⟨q,4,none⟩=some (.string y4)/\w'.cell? ⟨q,5,none⟩=some (.string y5):=by
 obtain⟨h0,h1,h2,h3,h4,h5,h6,h7,h8,h9,h10,h11⟩:=h;exact⟨hg.cell h0 (by simp),hg.cell h1 (by simp),hg.cell h2 (by simp),hg.cell h3 (by simp),hg.cell h4 (by simp),hg.cell h5 (by simp),hg.cell h6 (by simp),hg.cell h7 (by simp),hg.cell h8 (by simp),hg.cell h9 (by simp),hg.cell h10 (by simp),hg.cell h11 (by simp)⟩
theorem afc(x y:It)(w:World)(hx:x.v.pre.length<=100)(hy:y.v.pre.length<=100) :
  Calls prog 120 #[.agg (jJ x).toArray,.agg (jJ y).toArray] w fun e w'=>e=.returned (.int .i64 (eF x y))/\Gr w w':=by
 obtain⟨k,⟨a1,a2,a3,a4,a5⟩⟩:=x;obtain⟨l,⟨b1,b2,b3,b4,b5⟩⟩:=y;simp only[]at hx hy;have CV:Hd (∀w,Calls prog 122 #[.agg #[.int .i64 b1,.int .i64 b2,.int .i64 b3,.string ⟨b4.toArray⟩,.string ⟨b5.toArray⟩],.agg #[.int .i64 a1,.int .i64 a2,.int .i64 a3,.string ⟨a4.toArray⟩,.string ⟨a5.toArray⟩]] w fun e w'=>e=.returned (.int .i64 (aB ⟨b1,b2,b3,b4⟩ ⟨a1,a2,a3,a4⟩))/\Gr w w'):=fun w=>by
  have:=G.compare_any b1 b2 b3 a1 a2 a3 ⟨b4.toArray⟩ ⟨b5.toArray⟩ ⟨a4.toArray⟩ ⟨a5.toArray⟩ w (by show b4.toArray.size < _;simp;omega) (by show a4.toArray.size < _;simp;omega);simpa using this
 have CI:Hd (∀w,Calls prog 123 #[.int .i64 (k:Int),.int .i64 (l:Int)] w fun e w'=>e=.returned (.int .i64 (Lib.compareInt (k:Int) (l:Int)))/\w'=w):=fun w=>yO _ _ w
 show Calls prog 120 #[.agg #[.int .i64 (k:Int),.int .i64 a1,.int .i64 a2,.int .i64 a3,.string ⟨a4.toArray⟩,.string ⟨a5.toArray⟩],.agg #[.int .i64 (l:Int),.int .i64 b1,.int .i64 b2,.int .i64 b3,.string ⟨b4.toArray⟩,.string ⟨b5.toArray⟩]] w fun e w'=>e=.returned (.int .i64 (wF (aB ⟨b1,b2,b3,b4⟩ ⟨a1,a2,a3,a4⟩) (Lib.compareInt (k:Int) (l:Int))))/\Gr w w'
 obtain⟨r,hr⟩:=zN (aB (⟨b1,b2,b3,b4⟩:V) ⟨a1,a2,a3,a4⟩);obtain⟨c,hc⟩:=zN (Lib.compareInt (k:Int) (l:Int));rw[hr]at CV ⊢;rw[hc]at CI ⊢;have CO:=ae (afa r c);obtain⟨o,ho⟩:=zN (wF r c);rw[ho]at CO ⊢;obtain⟨A4,VH⟩:∃s:ByteArray,s=⟨a4.toArray⟩:=⟨_,rfl⟩;obtain⟨A5,VI⟩:∃s:ByteArray,s=⟨a5.toArray⟩:=⟨_,rfl⟩;obtain⟨B4,hB4⟩:∃s:ByteArray,s=⟨b4.toArray⟩:=⟨_,rfl⟩;obtain⟨B5,Cj⟩:∃s:ByteArray,s=⟨b5.toArray⟩:=⟨_,rfl⟩;rw[<-VH,<-VI,<-hB4,<-Cj]at CV ⊢;clear hr hc ho hx hy VH VI hB4 Cj;go_enter func120,ntmps120;go_wp2;obtain⟨W,hW⟩:=zN ((w.alloc (.cells #[.int .i64 (k:Int),.int .i64 a1,.int .i64 a2,.int .i64 a3,.string A4,.string A5] 183)).alloc (.cells #[.int .i64 (l:Int),.int .i64 b1,.int .i64 b2,.int .i64 b3,.string B4,.string B5] 183));rw[hW];have g1:W.heap[w.heap.size]?=some (.cells #[.int .i64 (k:Int),.int .i64 a1,.int .i64 a2,.int .i64 a3,.string A4,.string A5] 183 (0,0)):=by
  rw[<-hW,Lib.alloc_old _ _ _ (by simp)];exact heap_alloc_new w _
 have g2:W.heap[w.heap.size+1]?=some (.cells #[.int .i64 (l:Int),.int .i64 b1,.int .i64 b2,.int .i64 b3,.string B4,.string B5] 183 (0,0)):=by
  rw[<-hW];exact hrow2 w _ _
 have bD:Hd (Gr w W):=by
  show Gr w W;rw[<-hW];exact Em (Em (Ej w) _) _
 obtain⟨A,hA⟩:=zN (w.heap.size);rw[hA]at g1 g2;rw[hA];have c0:W.cell? ⟨A,0,none⟩=some (.int .i64 (k:Int)):=by rw[ah g1];rfl
 have c1:W.cell? ⟨A,1,none⟩=some (.int .i64 a1):=by rw[ah g1];rfl
 have c2:W.cell? ⟨A,2,none⟩=some (.int .i64 a2):=by rw[ah g1];rfl
 have c3:W.cell? ⟨A,3,none⟩=some (.int .i64 a3):=by rw[ah g1];rfl
 have c4:W.cell? ⟨A,4,none⟩=some (.string A4):=by rw[ah g1];rfl
 have c5:W.cell? ⟨A,5,none⟩=some (.string A5):=by rw[ah g1];rfl
 have d0:W.cell? ⟨A+1,0,none⟩=some (.int .i64 (l:Int)):=by rw[ah g2];rfl
 have d1:W.cell? ⟨A+1,1,none⟩=some (.int .i64 b1):=by rw[ah g2];rfl
 have d2:W.cell? ⟨A+1,2,none⟩=some (.int .i64 b2):=by rw[ah g2];rfl
 have d3:W.cell? ⟨A+1,3,none⟩=some (.int .i64 b3):=by rw[ah g2];rfl
 have d4:W.cell? ⟨A+1,4,none⟩=some (.string B4):=by rw[ah g2];rfl
 have d5:W.cell? ⟨A+1,5,none⟩=some (.string B5):=by rw[ah g2];rfl
 clear hW hA g1 g2
 go_region_held3 (fun w'=>w'.cell? ⟨A,0,none⟩=some (.int .i64 (k:Int))/\w'.cell? ⟨A,1,none⟩=some (.int .i64 a1)/\w'.cell? ⟨A,2,none⟩=some (.int .i64 a2)/\w'.cell? ⟨A,3,none⟩=some (.int .i64 a3)/\w'.cell? ⟨A,4,none⟩=some (.string A4)/\w'.cell? ⟨A,5,none⟩=some (.string A5)/\w'.cell? ⟨A+1,0,none⟩=some (.int .i64 (l:Int))/\w'.cell? ⟨A+1,1,none⟩=some (.int .i64 b1)/\w'.cell? ⟨A+1,2,none⟩=some (.int .i64 b2)/\w'.cell? ⟨A+1,3,none⟩=some (.int .i64 b3)/\w'.cell? ⟨A+1,4,none⟩=some (.string B4)/\w'.cell? ⟨A+1,5,none⟩=some (.string B5)) ((first|exact afb (by assumption) (by assumption)|go_keep)) (first|(go_at_call 122;refine(CV.o _).mono ?_;rintro e w1 ⟨rfl,hg1,hd1⟩)|(go_at_call 123;refine(CI.o _).mono ?_;rintro e w' ⟨rfl,rfl⟩)|(go_at_call 121;refine(CO.o _ _ (by simp) (by simp)).mono ?_;rintro e w' ⟨rfl,rfl⟩))
 have hgr:Hd (Gr W w'):=⟨dF hg1,Nat.le_trans (Nat.le_succ _) hd1⟩;clear hg1 hd1 c0 c1 c2 c3 c4 c5 d0 d1 d2 d3 d4 d5;go_wp2;go_ret;exact⟨rfl,Em (xy bD.o hgr.o) _⟩
open Go.RowKit Go.Shelf Go.Sort
def afd:Prop:=∀(ve:Value) (E:List It) (base:Nat) (w:World),w.ownsRow base 183 6 ve E.length (E.flatMap jJ)->E.length<=8388608->(∀e∈E,e.v.pre.length<=100) →
 Calls prog 119 #[ve,.func (.func 120) #[] #[]] w fun e w'=>e=.returned (.tuple #[])/\∃E':List It,E'.Perm E/\E'.Pairwise (fun a b=>0<=eF b a)/\w'.ownsRow base 183 6 ve E'.length (E'.flatMap jJ)/\w.grownBy w' ve.ownBlock
abbrev Ib:={e:It // e.v.pre.length<=100}
instance:Inhabited Ib:=⟨⟨⟨0,zeroV⟩,by show(0:Nat)<=_;omega⟩⟩
def encI(x:Ib):List Value:=jJ x.1
def Cm(x y:Ib):Int:=eF x.1 y.1
theorem afe{a b:Int}:Lib.compareInt a b<0↔a<b:=by
 unfold Lib.compareInt
 repeat' split
 all_goals omega
theorem qW(x y:It):eF x y<0↔aB (cutV y.v) (cutV x.v)<0\/(aB (cutV y.v) (cutV x.v)=0/\x.k<y.k):=by
 unfold eF wF;split
 ·rename_i h;rw[afe];omega
 ·rename_i h;omega
theorem aff:SWO (ltOf Cm) where
 irrefl x:=by
  unfold ltOf Cm;apply decide_eq_false;rw[qW,Ef];omega
 trans x y z h1 h2:=by
  unfold ltOf Cm at *;have a1:=(qW _ _).1 (of_decide_eq_true h1);have a2:=(qW _ _).1 (of_decide_eq_true h2);refine decide_eq_true ((qW _ _).2 ?_)
  rcases a1 with a1|⟨a1,b1⟩
  ·rcases a2 with a2|⟨a2,b2⟩
   ·exact Or.inl (Eh a2 a1)
   ·exact Or.inl (Eg (by omega) a1)
  ·rcases a2 with a2|⟨a2,b2⟩
   ·exact Or.inl (AB a2 (by omega))
   ·refine Or.inr ⟨?_,by omega⟩;have c1:=rE (show aB (cutV z.1.v) (cutV y.1.v)<=0 by omega) (show aB (cutV y.1.v) (cutV x.1.v)<=0 by omega);have c2:=rE (show aB (cutV x.1.v) (cutV y.1.v)<=0 by have:=dN (cutV x.1.v) (cutV y.1.v);omega) (show aB (cutV y.1.v) (cutV z.1.v)<=0 by have:=dN (cutV y.1.v) (cutV z.1.v);omega);have c3:=dN (cutV x.1.v) (cutV z.1.v);omega
 ntrans x y z h1 h2:=by
  unfold ltOf Cm at *;have a1:=of_decide_eq_false h1;have a2:=of_decide_eq_false h2;rw[qW]at a1 a2;apply decide_eq_false;rw[qW];have d1:=dN (cutV x.1.v) (cutV y.1.v);have d2:=dN (cutV y.1.v) (cutV z.1.v);have d3:=dN (cutV x.1.v) (cutV z.1.v);have e1:=rE (show aB (cutV x.1.v) (cutV y.1.v)<=0 by omega) (show aB (cutV y.1.v) (cutV z.1.v)<=0 by omega)
  by_cases h0:aB (cutV x.1.v) (cutV z.1.v)=0
  ·have f1:aB (cutV x.1.v) (cutV y.1.v)=0:=by
    by_cases hh:aB (cutV x.1.v) (cutV y.1.v)<0
    ·have:=AB hh (show aB (cutV y.1.v) (cutV z.1.v)<=0 by omega);omega
    ·omega
   have f2:aB (cutV y.1.v) (cutV z.1.v)=0:=by
    by_cases hh:aB (cutV y.1.v) (cutV z.1.v)<0
    ·have:=Eg (show aB (cutV x.1.v) (cutV y.1.v)<=0 by omega) hh;omega
    ·omega
   omega
  ·omega
theorem afg{w w':World}(h:Gr w w'):∃q os,w'=grow (w.drewN q) os:=by
 refine⟨w'.drawn-w.drawn,w'.heap.extract w.heap.size w'.heap.size,?_⟩;obtain⟨hg,hd⟩:=h;have hh:w'.heap=w.heap++w'.heap.extract w.heap.size w'.heap.size:=by
  apply Array.ext_getElem?;intro k
  by_cases hk:k<w.heap.size
  ·rw[Array.getElem?_append_left hk];exact hg.block k hk (by simp)
  ·rw[Array.getElem?_append_right (by omega),Array.getElem?_extract]
   by_cases hk2:k<w'.heap.size
   ·rw[if_pos (by omega)];congr 1;omega
   ·rw[if_neg (by omega),Array.getElem?_eq_none (by omega)]
 have h1:=hg.os;have h2:=hg.tape;have h3:=hg.output
 cases w';cases w
 simp only[grow,World.drewN,World.mk.injEq]at *;exact⟨hh,h2,by omega,h1,h3⟩
theorem afh(w:World)(blk off size:Nat):CmpLays prog 120 #[] encI 6 Cm blk off size w:=by
 intro m os dk hdk x y;refine(afc x.1 y.1 _ x.2 y.2).mono ?_;rintro e w' ⟨rfl,hg⟩;exact⟨rfl,afg hg⟩
theorem VJ(x:Ib):(encI x).length=6:=rfl
theorem afi(x:Ib):∀v∈encI x,v.oneCell'=true:=UI x.1
theorem NH(d:Array Ib):(flatK encI 6 d).toList=(d.toList.map (·.1)).flatMap jJ:=by
 apply List.ext_getElem?;intro j;have hl:((d.toList.map (·.1)).flatMap jJ).length=d.size*6:=by
  have:∀L:List It,(L.flatMap jJ).length=L.length*6:=by
   intro L
   induction L with
   | nil=>rfl
   | cons e L ih=>rw[List.flatMap_cons,List.length_append,ih,List.length_cons];show 6+_=_;omega
  rw[this];simp
 by_cases hj:j<d.size*6
 ·have hi:j / 6<d.size:=by omega
  have h1:(flatK encI 6 d).toList[j]?=some ((encI d[j / 6]!)[j % 6]!):=by
   rw[Array.getElem?_toList,Array.getElem?_eq_getElem (by simpa using hj)];have:=get_flatK encI 6 d j hj;rw[getElem!_pos _ j (by simpa using hj)]at this;rw[this]
  have h2:=MI (d.toList.map (·.1)) (j / 6) (by simpa using hi) (j % 6) ((encI d[j / 6]!)[j % 6]!) (by
   rw[getElem!_pos d (j / 6) hi];have hk:j % 6<(encI d[j / 6]).length:=by rw[VJ];omega
   rw[getElem!_pos _ (j % 6) hk];rw[List.getElem_map,Array.getElem_toList];exact List.getElem?_eq_getElem hk)
  rw[show j / 6*6+j % 6=j by omega]at h2;rw[h1,h2]
 ·rw[List.getElem?_eq_none (by simp;omega),List.getElem?_eq_none (by rw[hl];omega)]
theorem egI:∀args w,(callFunc 120 args).run prog w=.ok (.enter 120 args) w:=enters_of func120 (by kernel_rfl) rfl
theorem afj:afd:=by
 intro ve E base w hown hlen hsmall;obtain⟨D,hD⟩:∃D:Array Ib,D.toList.map (·.1)=E:=⟨(E.attach.map fun e=>(⟨e.1,hsmall e.1 e.2⟩:Ib)).toArray,by simp⟩;have hDs:D.size=E.length:=by rw[<-hD];simp
 have hown':=hown
 rcases hown.2 with⟨rfl,h0⟩|⟨g,cap,cur,rfl,hb,hg,hn,hm,hs,ht⟩
 ·refine(AnyF.slices_SortFunc_none Tryz.laysSortT none 0 (.func (.func 120) #[] #[]) w).mono ?_;rintro e w' ⟨rfl,rfl⟩;have hE:=List.eq_nil_of_length_eq_zero h0;subst hE;exact⟨rfl,[],List.Perm.refl _,List.Pairwise.nil,hown',⟨rfl,rfl,rfl,Nat.le_refl _,fun _ _ _=>rfl⟩⟩
 ·have hH:HoldsK encI 6 w g 0 D:=by
   intro j hj;have hj':j<(E.flatMap jJ).length:=by rw[hown.1,<-hDs];simpa using hj
   refine⟨?_,Lib.frozen_of_heap hg _⟩;have h1:(flatK encI 6 D).toList[j]?=(E.flatMap jJ)[j]?:=by rw[NH,hD]
   rw[Array.getElem?_toList,Array.getElem?_eq_getElem hj]at h1;rw[Nat.zero_add,ah hg];rw[getElem!_pos _ j hj];show cur[j]?=some (id _);rw[id,h1,<-ht,List.getElem?_take_of_lt (by rw[hown.1]at hj';exact hj')];simp
  rw[<-hDs];refine(AnyQ.slices_SortFunc Tryz.laysSortT 6 isAgg183 sizeOf183 encI VJ afi Cm aff 120 #[] g 0 cap D w egI (afh w g 0 D.size) hH (aC hg) (by omega)).mono ?_;rintro e w' ⟨rfl,d',m,os,hperm,hsort,hw'⟩;have hds:=hperm.1;have hgl:=(aC hg);have hheap:w'.heap=(w.heap.modify g (onCells (putCells id 0 (flatK encI 6 d'))))++os:=by rw[hw'];rfl
  have hg':w'.heap[g]?=some (.cells (putCells id 0 (flatK encI 6 d') cur) 183):=by
   rw[hheap,Array.getElem?_append_left (by simpa using hgl),Array.getElem?_modify,if_pos rfl,hg];rfl
  have KO:(flatK encI 6 d').size=D.size*6:=by simp[hds]
  have hcs:D.size*6<=cur.size:=by rw[hs,hDs];omega
  have hlen2:((d'.toList.map (·.1)).flatMap jJ).length=D.size*6:=by rw[<-NH,Array.length_toList,KO]
  refine⟨rfl,d'.toList.map (·.1),?_,?_,⟨?_,.inr ⟨g,cap,_,?_,hb,hg',?_,hm,?_,?_⟩⟩,?_⟩
  ·rw[<-hD];apply List.Perm.map;have:=hperm.2.2;rw[Array.extract_size]at this;rw[show d'.extract 0 D.size=d' by rw[<-hds,Array.extract_size]]at this;exact this
  ·rw[List.pairwise_iff_getElem];intro i j hi hj hij;simp only[List.length_map,Array.length_toList]at hi hj;have:=hsort i j (Nat.zero_le _) hij (by omega);rw[getElem!_pos d' j hj,getElem!_pos d' i hi]at this;have h3:=of_decide_eq_false this;simp only[List.getElem_map,Array.getElem_toList];exact Int.not_lt.1 h3
  ·rw[hlen2];simp[hds]
  ·simp[hds]
  ·simp[hds];omega
  ·simp[putCells,hs]
  ·rw[show(d'.toList.map (·.1)).length=D.size by simp[hds],<-NH];apply List.ext_getElem?;intro j
   by_cases hj:j<D.size*6
   ·rw[List.getElem?_take_of_lt hj,Array.getElem?_toList,Array.getElem?_toList];rw[putCells,Array.getElem?_mapIdx,Array.getElem?_eq_getElem (show j<cur.size by omega)];rw[Option.map_some,if_pos ⟨Nat.zero_le _,by omega⟩,Nat.sub_zero,id,getElem!_pos _ j (by omega)];exact(Array.getElem?_eq_getElem _).symm
   ·rw[List.getElem?_eq_none (by simp;omega),List.getElem?_eq_none (by rw[Array.length_toList];omega)]
  ·refine⟨by rw[hw'];rfl,by rw[hw'];rfl,by rw[hw'];rfl,?_,?_⟩
   ·rw[hheap];simp
   ·intro k hk hne;have hkg:g≠k:=by
     intro h;subst h;exact hne rfl
    rw[hheap,Array.getElem?_append_left (by simpa using hk),Array.getElem?_modify,if_neg hkg]
end Go.Proofs.YtiinliaoojfjaaaGreatDoor
