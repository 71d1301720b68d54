import Derived.Test.YtbcfhgpfgdbjgaaGreatDoorK01
import Derived.Below
import Derived.Lib.ConvBytes
import Derived.Maps.OwnOps
import Derived.Maps.Views
import Derived.DeepKeys4
import Derived.Deep.AppendLies
import Derived.Test.YtbcfhgpfgdbjgaaGreatDoorK04
import Derived.Test.YtbcfhgpfgdbjgaaGreatDoorK02
set_option linter.all false
set_option maxRecDepth 100000
set_option maxHeartbeats 0
open Go.Proofs.Tryz
namespace Go.Proofs.YtbcfhgpfgdbjgaaGreatDoor
open Go.RowKit
variable{a a4 a5 s x4 x5:ByteArray}{a1 a2 a3 y1 y2 y3:Int}{ns:List Tn}{k:List UInt8}{A M b i n q t v:Nat}{W w w':World}
theorem y8(h:w.grownBy w' none):Below w.heap.size w w':=⟨h.os,h.tape,h.output,h.size,fun k hk=>h.block k hk (by simp)⟩
theorem jJ{r:Option Nat}(h:w.drew.grownBy w' r):w.grownBy w' r:=⟨h.os,h.tape,h.output,h.size,h.block⟩
theorem aH(h:w.grownBy w' none)(o:Obj):w.grownBy (w'.alloc o) none :=
 ⟨h.os,h.tape,h.output,by have:=h.size;simp;omega,fun k hk hn=>by rw[Lib.alloc_old _ _ _ (Nat.lt_of_lt_of_le hk h.size)];exact h.block k hk hn⟩
theorem MP(w:World)(e:TypeId)(s:ByteArray):w.grownBy (Lib.bytesWorld w e s) none :=
 ⟨rfl,rfl,rfl,by rw[Lib.bytesWorld_size];omega,fun k hk _=>Lib.bytesWorld_at_old w e s k hk⟩
theorem iy(h:w.grownBy w' none)(r:Option Nat):w.grownBy w' r:=⟨h.os,h.tape,h.output,h.size,fun k hk _=>h.block k hk (by simp)⟩
theorem II(s:ByteArray)(w:World)(hs:s.size<2 ^ 62) :
  Calls prog 170 #[.string s] w fun e w'=>e=.returned (.bool (ik s.data.toList))/\w.grownBy w' none:=by
 have kc:=fun(w:World)=>Lib.run_convert_string_bytes (P:=prog) w 9 245 5 s underlying9 underlying245 underlying5
 obtain⟨W,hW⟩:=zN (Lib.bytesWorld w 5 s);have HC:Hd (∀j,(hj:j<s.size)->W.cell? ⟨w.heap.size,j,none⟩=some (.int .u8 (s[j].toNat:Int))):=by
  show ∀j,(hj:j<s.size)->W.cell? ⟨w.heap.size,j,none⟩=some (.int .u8 (s[j].toNat:Int));intro j hj;rw[<-hW,Lib.bytesWorld_cell w _ s j hj];have:s.data.toList.getD j 0=s[j]:=by
   rw[List.getD_eq_getElem?_getD,lZ s j hj];rfl
  rw[this]
 have HG:Hd (w.grownBy W none):=by show w.grownBy W none;rw[<-hW];exact MP w _ s
 have kw:=kc w;rw[hW]at kw;clear kc hW;go_enter func170,ntmps170;go_wp2
 go_loop [8] (fun i=>∃k:Nat,k<=s.size/\i=.int .i64 k/\∀j,(hj:j<s.size)->j<k->aY s[j]=true) (fun i=>s.size-(intOf i).toNat)
 case atStart=>exact⟨0,Nat.zero_le _,rfl,fun j hj h=>absurd h (by omega)⟩
 case round=>
  obtain⟨k,hk,rfl,hp⟩:=hrel;have HP:=ae hp;clear hp
  by_cases hlt:k<s.size
  ·have ck:=HC.o k hlt
   cases hd:aY s[k] with
   |true=>
    go_wp2_with (go_at_call 142;refine(A7 _ _).mono ?_;rintro e w' ⟨rfl,rfl⟩)
    go_round
    case rel=>
     refine⟨k+1,by omega,by go_num,fun j hj hjk=>?_⟩
     by_cases hjk':j<k
     ·exact HP.o j hj hjk'
     ·have e:j=k:=by omega
      subst e;exact hd
    case measure=>simp[intOf];omega
   |false=>
    have HN:Hd (ik s.data.toList=false):=by
     show ik s.data.toList=false;unfold ik;have:s.data.toList.all aY=false:=by
      rw[List.all_eq_false];exact⟨s[k],List.mem_of_getElem? (lZ s k hlt),by simp[hd]⟩
     rw[this,Bool.and_false]
    go_wp2_with (go_at_call 142;refine(A7 _ _).mono ?_;rintro e w' ⟨rfl,rfl⟩);go_ret;exact⟨bu HN.o.symm,HG.o⟩
  ·have hks:k=s.size:=by omega
   have HA:Hd (s.data.toList.all aY=true):=by
    show s.data.toList.all aY=true;rw[List.all_eq_true];intro c hc;obtain⟨j,hj,rfl⟩:=List.getElem_of_mem hc;exact HP.o j (by simpa using hj) (by simp at hj;have:s.size=s.data.size:=rfl;omega)
   clear hks hk;go_wp2;go_ret;refine⟨bu ?_,HG.o⟩;unfold ik;rw[Lib.toList_data,HA.o,Bool.and_true]
theorem abv(s:ByteArray)(k:Nat)(hk:k<=s.size)(w:World) :
  (Instr.slice 9 (.string s) none (some (.int .i64 (k:Int))) none).run prog w=.ok (.string ⟨(s.data.toList.take k).toArray⟩) w:=by
 have h5:(k:Int)<=(s.size:Int):=by omega
 have e:s.extract 0 k=⟨(s.data.toList.take k).toArray⟩:=by
  apply ByteArray.ext;rw[ByteArray.data_extract];apply Array.ext';simp
 rw[<-e];simp[go_sem,underlying9,h5]
theorem TL(s:ByteArray)(k:Nat)(hk:k<=s.size)(w:World) :
  (Instr.slice 9 (.string s) (some (.int .i64 (k:Int))) none none).run prog w=.ok (.string ⟨(s.data.toList.drop k).toArray⟩) w:=by
 have h1:(0:Int)<=(k:Int):=by omega
 have h5:(k:Int)<=(s.size:Int):=by omega
 have e:s.extract k s.size=⟨(s.data.toList.drop k).toArray⟩:=by
  apply ByteArray.ext;rw[ByteArray.data_extract];apply Array.ext';simp;exact List.take_of_length_le (by simp)
 rw[<-e];simp[go_sem,underlying9,h1,h5]
def aA(ns:List Tn)(p:Nat):List Nat:=match ns[p]? with|some u=>u.ks|none=>[]
def iC(ns:List Tn)(k:List UInt8)(q:Nat):Bool:=match ns[q]? with|some x=>decide (x.ky=k)|none=>false
theorem qI(ns:List Tn)(t:Nat)(k:List UInt8):aK ns t k=(aA ns t).find? (iC ns k):=by
 unfold aK aA
 cases ns[t]?<;>rfl
theorem MQ(ns:List Tn)(up:Nat)(n:Tn):∃X:List Tn,X.length=ns.length/\∀m,addN ns up m=X++[m]:=by
 unfold addN
 cases h:ns[up]? with
 |none=>exact⟨ns,rfl,fun _=>rfl⟩
 |some u=>exact⟨ns.set up { u with ks:=u.ks++[ns.length] },by simp,fun _=>rfl⟩
theorem bW(ns:List Tn)(up:Nat)(n:Tn):(addN ns up n).length=ns.length+1:=by
 obtain⟨X,h1,h2⟩:=MQ ns up n;rw[h2];simp[h1]
theorem MR(ns:List Tn)(up:Nat)(n m:Tn):(addN ns up n).set ns.length m=addN ns up m:=by
 obtain⟨X,h1,h2⟩:=MQ ns up n;rw[h2,h2,<-h1];simp
theorem vP(ns:List Tn)(up:Nat)(n:Tn)(hu:up<ns.length)(i:Nat):(addN ns up n)[i]?=if i=ns.length then some n else if i=up then some { ns[up] with ks:=ns[up].ks++[ns.length] } else ns[i]?:=by
 unfold addN;rw[List.getElem?_eq_getElem hu];simp only[]
 by_cases h:i=ns.length
 ·rw[if_pos h,h,List.getElem?_append_right (by simp)];simp
 ·rw[if_neg h]
  by_cases hl:i<ns.length
  ·rw[List.getElem?_append_left (by simpa using hl)]
   by_cases hup:i=up
   ·subst hup;rw[if_pos rfl,List.getElem?_set_self hl]
   ·rw[if_neg hup,List.getElem?_set_ne (fun e=>hup e.symm)]
  ·rw[List.getElem?_append_right (by simp;omega),if_neg (by omega),List.getElem?_eq_none (l:=ns) (by omega)];rw[List.getElem?_eq_none];simp;omega
theorem jR(ns:List Tn)(up:Nat)(n:Tn)(hu:up<ns.length)(p:Nat):aA (addN ns up n) p=if p=ns.length then n.ks else if p=up then aA ns up++[ns.length] else aA ns p:=by
 unfold aA;rw[vP ns up n hu]
 by_cases h:p=ns.length
 ·simp only[if_pos h]
 ·rw[if_neg h,if_neg h]
  by_cases h2:p=up
  ·rw[if_pos h2,if_pos h2,List.getElem?_eq_getElem hu]
  ·rw[if_neg h2,if_neg h2]
theorem eX(ns:List Tn)(up:Nat)(n:Tn)(hu:up<ns.length)(p:Nat):ay (addN ns up n) p=if p=ns.length then n.kd else ay ns p:=by
 unfold ay;rw[vP ns up n hu]
 by_cases h:p=ns.length
 ·simp only[if_pos h]
 ·rw[if_neg h,if_neg h]
  by_cases h2:p=up
  ·subst h2;rw[if_pos rfl,List.getElem?_eq_getElem hu]
  ·rw[if_neg h2]
theorem TM(ns:List Tn)(up:Nat)(n:Tn)(hu:up<ns.length)(k:List UInt8)(q:Nat):iC (addN ns up n) k q=if q=ns.length then decide (n.ky=k) else iC ns k q:=by
 unfold iC;rw[vP ns up n hu]
 by_cases h:q=ns.length
 ·simp only[if_pos h]
 ·rw[if_neg h,if_neg h]
  by_cases h2:q=up
  ·subst h2;rw[if_pos rfl,List.getElem?_eq_getElem hu]
  ·rw[if_neg h2]
structure WF(ns:List Tn)(own:List Nat):Prop where
 par:∀p p' q,q∈aA ns p->q∈aA ns p'->p=p'
 lt:∀p q,q∈aA ns p->q<ns.length
 own:∀q∈own,q<ns.length
 len:∀p,(aA ns p).length<=ns.length
theorem Ba(ns:List Tn)(p:Nat)(h:ns.length<=p):aA ns p=[]:=by
 unfold aA;rw[List.getElem?_eq_none h]
theorem MS{α:Type}{p q:α->Bool}:∀(l:List α),(∀x∈l,p x=q x)->l.find? p=l.find? q
 | [],_=>rfl
 | a :: r,h=>by
  rw[List.find?_cons,List.find?_cons,h a (by simp),MS r fun x hx=>h x (by simp[hx])]
theorem MW(ns:List Tn)(own:List Nat)(up:Nat)(n:Tn)(hn:n.ks=[])(hu:up<ns.length)(W:WF ns own)(t:Nat)(k:List UInt8) :
  aK (addN ns up n) t k=if t=up then(match aK ns up k with|some q=>some q|none=>if n.ky=k then some ns.length else none) else if t=ns.length then none else aK ns t k:=by
 have hc:∀p,(aA ns p).find? (iC (addN ns up n) k)=aK ns p k:=fun p=>by
  rw[qI];refine MS _ fun x hx=>?_
  have:=W.lt p x hx;rw[TM ns up n hu,if_neg (by omega)]
 rw[qI,jR ns up n hu]
 by_cases h1:t=up
 ·subst h1;rw[if_neg (by omega),if_pos rfl,if_pos rfl,List.find?_append,hc]
  cases aK ns t k with
  |some q=>rfl
  |none=>
   simp only[Option.none_or,List.find?_cons,TM ns t n hu,if_true,List.find?_nil]
   by_cases hk:n.ky=k
   ·rw[if_pos hk,decide_eq_true hk]
   ·rw[if_neg hk,decide_eq_false hk]
 ·rw[if_neg h1,if_neg h1]
  by_cases h2:t=ns.length
  ·rw[if_pos h2,if_pos h2,hn];rfl
  ·rw[if_neg h2,if_neg h2,hc]
def hold(ns:List Tn)(own:List Nat)(t:Nat)(k:List UInt8):Option (Nat × Bool):=if ay ns t=0 then(aK ns t k).map fun q=>(q,decide (q∈own)) else none
def Bc(f:Nat->List UInt8->Option (Nat × Bool))(t:Nat)(k:List UInt8)(v:Nat × Bool):Nat->List UInt8->Option (Nat × Bool):=fun t' k'=>if t'=t/\k'=k then some v else f t' k'
theorem ui(h:aK ns t k=some q):q∈aA ns t/\iC ns k q=true:=by
 rw[qI]at h;exact⟨List.mem_of_find?_eq_some h,List.find?_some h⟩
theorem abw(ns:List Tn)(own:List Nat)(up:Nat)(n:Tn)(hn:n.ks=[])(hu:up<ns.length)(W:WF ns own)(h0:ay ns up=0)(hno:aK ns up n.ky=none):hold (addN ns up n) own=Bc (hold ns own) up n.ky (ns.length,false):=by
 funext t k;unfold Bc hold;rw[eX ns up n hu,MW ns own up n hn hu W]
 by_cases h1:t=up
 ·subst h1;have hne:¬t=ns.length:=by omega
  simp only[if_neg hne,if_pos h0,true_and,if_true]
  by_cases hk:k=n.ky
  ·subst hk;rw[hno];simp only[if_true,Option.map_some];rw[decide_eq_false (fun hm=>by have:=W.own _ hm;omega)]
  ·have hk':¬n.ky=k:=fun e=>hk e.symm
   simp only[if_neg hk]
   cases aK ns t k with
   |some q=>rfl
   |none=>simp only[if_neg hk']
 ·have h1':¬(t=up/\k=n.ky):=fun h=>h1 h.1
  simp only[if_neg h1,if_neg h1']
  by_cases h2:t=ns.length
  ·have:aK ns t k=none:=by rw[qI,Ba ns t (by omega)];rfl
   rw[this];simp only[if_pos h2];simp
  ·simp only[if_neg h2]
theorem abx(ns:List Tn)(own:List Nat)(up:Nat)(n:Tn)(hn:n.ks=[])(hu:up<ns.length)(W:WF ns own)(h0:¬ay ns up=0):hold (addN ns up n) own=hold ns own:=by
 funext t k;unfold hold;rw[eX ns up n hu,MW ns own up n hn hu W]
 by_cases h1:t=up
 ·subst h1;have hne:¬t=ns.length:=by omega
  simp only[if_neg hne,if_neg h0]
 ·simp only[if_neg h1]
  by_cases h2:t=ns.length
  ·have:aK ns t k=none:=by rw[qI,Ba ns t (by omega)];rfl
   rw[this];simp only[if_pos h2];simp
  ·simp only[if_neg h2]
theorem rU(ns:List Tn)(own:List Nat)(up:Nat)(n:Tn)(hn:n.ks=[])(hu:up<ns.length)(W:WF ns own):WF (addN ns up n) own:=by
 have hk:∀p q,q∈aA (addN ns up n) p->(q=ns.length/\p=up)\/(q∈aA ns p/\q<ns.length):=fun p q h=>by
  rw[jR ns up n hu]at h
  by_cases h1:p=ns.length
  ·rw[if_pos h1,hn]at h;simp at h
  ·rw[if_neg h1]at h
   by_cases h2:p=up
   ·subst h2;rw[if_pos rfl]at h
    rcases List.mem_append.1 h with h|h
    ·exact Or.inr ⟨h,W.lt _ _ h⟩
    ·exact Or.inl ⟨by simpa using h,rfl⟩
   ·rw[if_neg h2]at h;exact Or.inr ⟨h,W.lt _ _ h⟩
 refine⟨fun p p' q h h'=>?_,fun p q h=>?_,fun q h=>?_,fun p=>?_⟩
 ·rcases hk p q h with⟨e1,e2⟩|⟨e1,e2⟩<;>rcases hk p' q h' with⟨e3,e4⟩|⟨e3,e4⟩
  ·rw[e2,e4]
  ·omega
  ·omega
  ·exact W.par p p' q e1 e3
 ·rw[bW]
  rcases hk p q h with⟨e1,e2⟩|⟨e1,e2⟩<;>omega
 ·rw[bW];have:=W.own q h;omega
 ·rw[bW,jR ns up n hu];have h1:=W.len p;have h2:=W.len up;split
  ·rw[hn];simp
  ·split
   ·simp;omega
   ·omega
theorem TP(ns:List Tn)(own:List Nat)(W:WF ns own)(t q:Nat)(k:List UInt8)(h0:ay ns t=0)(h:aK ns t k=some q):hold ns (q :: own)=Bc (hold ns own) t k (q,true):=by
 funext t' k';unfold Bc hold;obtain⟨hm,hy⟩:=ui h
 by_cases h1:t'=t/\k'=k
 ·rw[if_pos h1,h1.1,h1.2,if_pos h0,h];simp
 ·rw[if_neg h1]
  by_cases h2:ay ns t'=0
  ·rw[if_pos h2,if_pos h2]
   cases hq:aK ns t' k' with
   |none=>rfl
   |some q'=>
    obtain⟨hm',hy'⟩:=ui hq;have hne:¬q'=q:=fun e=>by
     subst e;have e1:=W.par _ _ _ hm' hm;unfold iC at hy hy'
     cases hx:ns[q']? with
     |none=>rw[hx]at hy;cases hy
     |some x=>
      rw[hx]at hy hy';exact h1 ⟨e1,(of_decide_eq_true hy').symm.trans (of_decide_eq_true hy)⟩
    simp[hne]
  ·rw[if_neg h2,if_neg h2]
theorem aby(ns:List Tn)(own:List Nat)(W:WF ns own)(t q:Nat)(h0:¬ay ns t=0)(h:q∈aA ns t):hold ns (q :: own)=hold ns own:=by
 funext t' k';unfold hold
 by_cases h2:ay ns t'=0
 ·rw[if_pos h2,if_pos h2]
  cases hq:aK ns t' k' with
  |none=>rfl
  |some q'=>
   obtain⟨hm',hy'⟩:=ui hq;have hne:¬q'=q:=fun e=>by
    subst e;have e1:=W.par _ _ _ hm' h;subst e1;exact h0 h2
   simp[hne]
 ·rw[if_neg h2,if_neg h2]
theorem TQ(ns:List Tn)(own:List Nat)(W:WF ns own)(q:Nat)(h:q<ns.length):WF ns (q :: own) :=
 ⟨W.par,W.lt,fun x hx=>by
  rcases List.mem_cons.1 hx with rfl|hx
  ·exact h
  ·exact W.own x hx,W.len⟩
def WT(ns:List Tn):Prop:=∀q,ay ns q=2->aA ns q≠[]/\∀x∈aA ns q,ay ns x=0
theorem abz(ns:List Tn)(q:Nat)(n:Tn)(hq:q<ns.length)(h1:n.kd=ns[q].kd)(h2:n.ky=ns[q].ky)(h3:n.ks=ns[q].ks):(∀p,aA (ns.set q n) p=aA ns p)/\(∀p,ay (ns.set q n) p=ay ns p)/\(∀k p,iC (ns.set q n) k p=iC ns k p):=by
 have key:∀p,p=q\/(ns.set q n)[p]?=ns[p]?:=fun p=>by
  by_cases h:p=q
  ·exact Or.inl h
  ·exact Or.inr (List.getElem?_set_ne (fun e=>h e.symm))
 have hs:(ns.set q n)[q]?=some n:=List.getElem?_set_self hq;have hn:=List.getElem?_eq_getElem hq;refine⟨fun p=>?_,fun p=>?_,fun k p=>?_⟩
 ·unfold aA
  rcases key p with rfl|h
  ·rw[hs,hn];exact h3
  ·rw[h]
 ·unfold ay
  rcases key p with rfl|h
  ·rw[hs,hn];exact h1
  ·rw[h]
 ·unfold iC
  rcases key p with rfl|h
  ·rw[hs,hn];simp only[h2]
  ·rw[h]
theorem abA{ns':List Tn}(own:List Nat)(h1:∀p,aA ns' p=aA ns p)(h2:∀p,ay ns' p=ay ns p)(h3:∀k p,iC ns' k p=iC ns k p):hold ns' own=hold ns own:=by
 funext t k;unfold hold;rw[h2,qI,qI,h1,MS (p:=iC ns' k) (q:=iC ns k) _ fun x _=>h3 k x]
def ja(ns:List Tn)(q:Nat):List UInt8:=match ns[q]? with|some u=>u.ky|none=>[]
def KD(ns:List Tn)(t:Nat):Prop:=(aA ns t).Pairwise fun a b=>ja ns a≠ja ns b
theorem TR(h:q<ns.length):ja ns q=ns[q].ky:=by
 unfold ja;rw[List.getElem?_eq_getElem h]
open Go.Maps Go.WideMaps
theorem abB:laidOutB prog=true:=by kernel_rfl
theorem TS:(214:TypeId)<prog.types.size:=of_decide_eq_true (by kernel_rfl)
theorem abC:KeyLaw prog 214:=deep_law_laid abB (m:=2) (by omega) TS (by kernel_rfl) (by rw[underlying214])
theorem IJ:Keyed prog 214:=Keyed.of_law abC
def holdL:List Value->Option (DataW Unit × List MemPlace)
 | [.int q n,.bool b]=>some (.agg [.lit (.int q n),.lit (.bool b)],[])
 |_=>none
def IK(v:Value):Option (DataW Unit × List MemPlace) :=
 match v with
 | .agg cs=>holdL cs.toList
 |_=>none
theorem abD(q:IntKind)(n:Int)(b:Bool):IK (.agg #[.int q n,.bool b])=some (.agg [.lit (.int q n),.lit (.bool b)],[]):=rfl
theorem abE{l:List Value}{q:IntKind}{n:Int}{b:Bool}{ps:List MemPlace}(h:holdL l=some (.agg [.lit (.int q n),.lit (.bool b)],ps)):l=[.int q n,.bool b]:=by
 unfold holdL at h;split at h
 ·injection h with h
  injection h with h _
  injection h with h
  injection h with h1 h2
  injection h2 with h2 _
  injection h1 with h1
  injection h2 with h2
  injection h1 with h3 h4
  injection h2 with h5
  rw[h3,h4,h5]
 ·cases h
theorem abG{v:Value}{q:IntKind}{n:Int}{b:Bool}{ps:List MemPlace}(h:IK v=some (.agg [.lit (.int q n),.lit (.bool b)],ps)):v=.agg #[.int q n,.bool b]:=by
 unfold IK at h;split at h
 ·rename_i cs;have:=abE h;congr 1;exact Array.ext' this
 ·cases h
def pI(t:Nat)(k:List UInt8):Value:=.agg #[.int .i64 t,.string ⟨k.toArray⟩]
noncomputable def Be(t:Nat)(k:List UInt8):Lit:=(keyOf prog 214 (pI t k)).getD (.bool false)
theorem abH(t:Nat)(k:List UInt8)(ht:t<4611686018427387904)(hk:k.length<=1048576):∃l,keyOf prog 214 (pI t k)=some l:=by
 have h1:prog.keyType 214=true:=by kernel_rfl
 have h2:∀a b:Value,(Value.agg #[a,b]).formed prog 214=true:=fun a b=>by
  have hc:prog.cellsOf 214=2:=by kernel_rfl
  simp[Value.formed,underlying214,hc]
 obtain⟨m,hm⟩:∃m,prog.types.size=m+1:=⟨prog.types.size-1,by have h0:0<prog.types.size:=Nat.lt_of_le_of_lt (Nat.zero_le _) TS;omega⟩;have hc:prog.cellsOf 214=2:=by kernel_rfl
 have hci:prog.cellsOf 3=1:=by kernel_rfl
 have hcs:prog.cellsOf 9=1:=by kernel_rfl
 have hw:(Lit.int .i64 t).wf=true:=by
  have h1:IntKind.i64.min=-9223372036854775808:=by decide
  have h2:IntKind.i64.max=9223372036854775807:=by decide
  simp only[Lit.wf,h1,h2];simp;omega
 have hz:(⟨k.toArray⟩:ByteArray).size<=maxLen:=by
  show k.toArray.size<=_;unfold maxLen;simp;omega
 unfold keyOf pI;simp only[underlying214,h1,h2,Bool.and_self,if_true,hm];have e1:prog.keyLits (m+1) 3 [.int .i64 t]=some [.int .i64 t]:=by
  simp[Program.keyLits,underlying3,hw]
 have e2:prog.keyLits (m+1) 9 [.string ⟨k.toArray⟩]=some [.string k]:=by
  simp[Program.keyLits,underlying9,hz]
 refine⟨.string (keyBytes ([.int .i64 t]++[.string k])),?_⟩;unfold Program.keyLits;simp[underlying214,hc,hci,hcs,e1,e2,Value.cells]
theorem ED(t:Nat)(k:List UInt8)(ht:t<4611686018427387904)(hk:k.length<=1048576):keyOf prog 214 (pI t k)=some (Be t k):=by
 obtain⟨l,hl⟩:=abH t k ht hk;unfold Be;rw[hl];rfl
theorem abI{t':Nat}{k':List UInt8}(ht:t<4611686018427387904)(hk:k.length<=1048576)(ht':t'<4611686018427387904)(hk':k'.length<=1048576)(h:Be t k=Be t' k'):t=t'/\k=k':=by
 have h1:=ED t k ht hk;have h2:=ED t' k' ht' hk';rw[<-h]at h2;have h3:=IJ.inj h1 h2;unfold pI at h3;injection h3 with h3
 have h4:=congrArg Array.toList h3;simp only[List.cons.injEq,Value.int.injEq,Value.string.injEq,true_and,and_true]at h4;obtain⟨h5,h6⟩:=h4;refine⟨Int.ofNat_inj.1 h5,?_⟩;have h7:=congrArg (fun b:ByteArray=>b.data.toList) h6;simpa using h7
def HM(w:World)(M n:Nat)(f:Nat->List UInt8->Option (Nat × Bool)):Prop:=∃D:DataW Unit,w.ownsMap prog 214 IK M n D/\IsMap D/\∀t k,t<4611686018427387904->k.length<=1048576->∀zd,D.atKey (Be t k) zd=match f t k with|some v=>.agg [.lit (.int .i64 (v.1:Nat)),.lit (.bool v.2)]|none=>zd
theorem HM.mono{n':Nat}{f:Nat->List UInt8->Option (Nat × Bool)}(h:HM w M n f)(hn:n<=n'):HM w M n' f:=by
 obtain⟨D,h1,h2,h3⟩:=h;exact⟨D,h1.mono hn,h2,h3⟩
theorem HM.block{f:Nat->List UInt8->Option (Nat × Bool)}(h:HM w M n f)(hb:w'.heap[M]?=w.heap[M]?):HM w' M n f:=by
 obtain⟨D,⟨es,c,h1,h1'⟩,h2,h3⟩:=h;exact⟨D,⟨es,c,hb.trans h1,h1'⟩,h2,h3⟩
theorem HM.map{f:Nat->List UInt8->Option (Nat × Bool)}(h:HM w M n f):∃es c,w.heap[M]?=some (.map es c):=by
 obtain⟨D,⟨es,c,h1,h1'⟩,h2,h3⟩:=h;exact⟨es,c,h1⟩
theorem HM.made(w:World):HM (w.alloc (.map #[] 0)) w.heap.size 0 (fun _ _=>none):=⟨.map [],World.ownsMap_made w _ _ _,isMap_empty,fun _ _ _ _ _=>rfl⟩
theorem abJ(w:World):(zeroValue 211).run prog w=.ok (.agg #[.int .i64 0,.bool false]) w:=by kernel_rfl
theorem HM.look{w:World}{M n:Nat}{f:Nat->List UInt8->Option (Nat × Bool)}(h:HM w M n f)(t:Nat)(k:List UInt8)(ht:t<4611686018427387904)(hk:k.length<=1048576) :
  (Instr.lookup 96 (.map (some M)) (pI t k) true).run prog w=.ok (match f t k with|some v=>.tuple #[.agg #[.int .i64 (v.1:Nat),.bool v.2],.bool true]|none=>.tuple #[.agg #[.int .i64 0,.bool false],.bool false]) w:=by
 obtain⟨D,⟨es,c,h1,F,hs,rfl⟩,h2,h3⟩:=h;have h4:=h3 t k ht hk
 rcases Maps.fit_look true IJ underlying96 (abJ w) h1 F (ED t k ht hk) with⟨hrun,-,hat⟩|⟨e0,y,-,-,hrun,hRv,hat,-⟩
 ·rw[hrun]
  cases hf:f t k with
  |none=>rfl
  |some v=>
   exfalso;have:=h4 .nil;rw[hf,hat .nil]at this
   cases this
 ·rw[hrun]
  cases hf:f t k with
  |none=>
   exfalso;have a1:=h4 .nil;have a2:=h4 (.map []);rw[hf,hat]at a1 a2;simp only[]at a1 a2;rw[a1]at a2
   cases a2
  |some v=>
   have a1:=h4 .nil;rw[hf,hat]at a1;obtain⟨y1,y2⟩:=y;simp only[]at a1;subst a1;have:=abG hRv;rw[this];rfl
theorem HM.put{f:Nat->List UInt8->Option (Nat × Bool)}(h:HM w M n f)(t:Nat)(k:List UInt8)(ht:t<4611686018427387904)(hk:k.length<=1048576)(hn:n<1099511627776)(q:Nat)(b:Bool) :
  ∃w',(Instr.mapUpdate 96 (.map (some M)) (pI t k) (.agg #[.int .i64 q,.bool b])).run prog w=.ok () w'/\HM w' M (n+1) (Bc f t k (q,b))/\w.grownBy w' (some M):=by
 obtain⟨D,h1,h2,h3⟩:=h;obtain⟨w',hr,ho,hg⟩:=h1.update IJ underlying96 (by unfold maxLen;omega) (ED t k ht hk) (abD .i64 q b);refine⟨w',hr,⟨_,ho,h2.put _ _,fun t' k' ht' hk' zd=>?_⟩,hg⟩;unfold Bc
 by_cases he:t'=t/\k'=k
 ·rw[if_pos he];obtain⟨rfl,rfl⟩:=he;have hk1:=ED t' k' ht hk;have hk2:=Keyed.key IJ hk1;generalize Be t' k'=kl at hk2;rw[atKey_put_same h2 hk2]
 ·rw[if_neg he,atKey_put_other (fun e=>he (abI ht' hk' ht hk e))];exact h3 t' k' ht' hk' zd
theorem abK(c:UInt8)(w:World):Calls prog 169 #[.int .u8 (c.toNat:Int)] w fun e w'=>e=.returned (.bool (aS c))/\w'=w:=by
 go_enter func169,ntmps169;go_wp2_with (go_at_call 142;refine(A7 _ _).mono ?_;rintro e w' ⟨rfl,rfl⟩)
 all_goals go_ret
 all_goals (refine⟨bu ?_,rfl⟩;rw[Bool.eq_iff_iff];unfold aS;simp_all;try omega)
def RS(b:Nat)(s:ByteArray)(i:Nat)(w:World):Prop:=∃t,w.heap[b]?=some (.cells #[.string s,.int .i64 (i:Int)] t (0,0))
theorem RS.c0(h:RS b s i w):w.cell? ⟨b,0,none⟩=some (.string s):=by obtain⟨t,h⟩:=h;rw[aj h];rfl
theorem RS.c1(h:RS b s i w):w.cell? ⟨b,1,none⟩=some (.int .i64 (i:Int)):=by obtain⟨t,h⟩:=h;rw[aj h];rfl
theorem RS.f1(h:RS b s i w):w.frozen? ⟨b,1,none⟩=false:=by obtain⟨t,h⟩:=h;exact Lib.frozen_of_heap h 1
theorem RS.drew(h:RS b s i w)(n:Nat):RS b s i (w.drewN n):=h
theorem RS.set(h:RS b s i w)(j:Nat):RS b s j (w.setCell ⟨b,1,none⟩ (.int .i64 (j:Int))):=by
 obtain⟨t,h⟩:=h;exact⟨t,by simp[World.setCell,Array.getElem?_modify,h]⟩
theorem abL(s p:ByteArray)(w:World) :
  Calls prog 158 #[.string s,.string p] w fun e w'=>e=.returned (.bool (Lib.hasPrefix s.data.toList p.data.toList))/\w'=w:=Any.strings_HasPrefix Tryz.lays99 s p w
theorem next_any(b:Nat)(s t:ByteArray)(i:Nat)(w:World)(hi:i<=s.size)(h:RS b s i w) :
  Calls prog 131 #[.pointer (some ⟨b,0,none⟩),.string t] w fun e w'=>e=.returned (.bool (Lib.hasPrefix (s.data.toList.drop i) t.data.toList))/\∃n,w'=w.drewN n:=by
 have h0:=h.c0;have h1:=h.c1;obtain⟨X,hX⟩:∃X:ByteArray,X=⟨(s.data.toList.drop i).toArray⟩:=⟨_,rfl⟩;have sl:∀wx,(Instr.slice 9 (.string s) (some (.int .i64 (i:Int))) none none).run prog wx=.ok (.string X) wx:=fun wx=>by rw[hX];exact TL s i hi wx
 obtain⟨p,hp⟩:=zN (Lib.hasPrefix (s.data.toList.drop i) t.data.toList);have CP:Hd (∀w,Calls prog 158 #[.string X,.string t] w fun e w'=>e=.returned (.bool p)/\w'=w):=fun w=>by
  rw[<-hp];have:=abL X t w;rw[hX]at this ⊢;exact this
 rw[hp];clear h hX hp hi;go_enter func131,ntmps131;go_wp2;go_quiet (first|(go_at_call 158;exact Calls.quiet_of_same (CP.o _)));go_wp2;go_ret;exact⟨rfl,_,rfl⟩
theorem take_any(b:Nat)(s t:ByteArray)(i:Nat)(w:World)(hi:i<=s.size)(h:RS b s i w)(hs:s.size<2 ^ 62)(ht:t.size<2 ^ 62) :
  Calls prog 109 #[.pointer (some ⟨b,0,none⟩),.string t] w fun e w'=>e=.returned (.bool (Lib.hasPrefix (s.data.toList.drop i) t.data.toList))/\RS b s (if Lib.hasPrefix (s.data.toList.drop i) t.data.toList then i+t.size else i) w'/\w.grownBy w' (some b):=by
 obtain⟨p,hp⟩:=zN (Lib.hasPrefix (s.data.toList.drop i) t.data.toList);have CN:Hd (Calls prog 131 #[.pointer (some ⟨b,0,none⟩),.string t] w fun e w'=>e=.returned (.bool p)/\∃n,w'=w.drewN n):=by
  show Calls _ _ _ _ _;rw[<-hp];exact next_any b s t i w hi h
 rw[hp];have HR:=ae h;have hw:IntKind.i64.wrap ((i:Int)+(t.size:Int))=((i+t.size:Nat):Int):=by rw[IntKind.wrap_i64];omega
 clear hp h hs ht hi
 cases p with
 |true=>
  go_enter func109,ntmps109;go_wp2_with (go_at_call 131;refine CN.o.mono ?_);rintro e w1 ⟨rfl,n,hn⟩;have HR1:Hd (RS b s i w1):=by show RS b s i w1;rw[hn];exact HR.o.drew n
  have aC:Hd (w.grownBy w1 (some b)):=by show w.grownBy w1 (some b);rw[hn];exact az (ax w _) n
  have d1:=HR1.o.c1;have df:=HR1.o.f1;clear hn;go_wp2;go_ret;exact⟨rfl,HR1.o.set (i+t.size),aT aC.o _ _⟩
 |false=>
  go_enter func109,ntmps109;go_wp2_with (go_at_call 131;refine CN.o.mono ?_);rintro e w1 ⟨rfl,n,hn⟩;have HR1:Hd (RS b s i w1):=by show RS b s i w1;rw[hn];exact HR.o.drew n
  have aC:Hd (w.grownBy w1 (some b)):=by show w.grownBy w1 (some b);rw[hn];exact az (ax w _) n
  clear hn;go_wp2;go_ret;exact⟨rfl,HR1.o,aC.o⟩
theorem IL(b:Nat)(s:ByteArray)(i:Nat)(w:World)(h:RS b s i w) :
  Calls prog 83 #[.pointer (some ⟨b,0,none⟩)] w fun e w'=>e=.returned (.bool (decide (i=s.size)))/\∃n,w'=w.drewN n:=by
 have h0:=h.c0;have h1:=h.c1;clear h
 by_cases hc:i=s.size
 ·have hd:((i:Int) == (s.size:Int))=true:=by simp;omega
  have HD:=ae (decide_eq_true hc);rw[HD.o];clear hc;go_enter func83,ntmps83;go_wp2;go_quiet (fail);go_wp2;go_ret;exact⟨rfl,_,rfl⟩
 ·have hd:((i:Int) == (s.size:Int))=false:=by simp;omega
  have HD:=ae (decide_eq_false hc);rw[HD.o];clear hc;go_enter func83,ntmps83;go_wp2;go_quiet (fail);go_wp2;go_ret;exact⟨rfl,_,rfl⟩
theorem qJ(l:List UInt8)(i:Nat)(c:UInt8):Lib.hasPrefix (l.drop i) [c]=decide (l[i]?=some c):=by
 have e:l[i]?=(l.drop i)[0]?:=by rw[List.getElem?_drop];rfl
 rw[e]
 cases l.drop i with
 |nil=>rfl
 |cons x r=>
  show(c == x && true)=decide (some x=some c);rw[Bool.and_true]
  by_cases h:x=c
  ·subst h;rw[decide_eq_true rfl];exact beq_self_eq_true x
  ·rw[decide_eq_false (fun e=>h (Option.some.inj e))];exact beq_eq_false_iff_ne.2 (fun e=>h e.symm)
theorem uj(b:Nat)(s:ByteArray)(i:Nat)(c:UInt8)(w:World)(hc:s.data.toList[i]?=some c)(h:RS b s i w)(hs:s.size<2 ^ 62) :
  Calls prog 109 #[.pointer (some ⟨b,0,none⟩),.string ⟨#[c]⟩] w fun e w'=>e=.returned (.bool true)/\RS b s (i+1) w'/\w.grownBy w' (some b):=by
 have hlt:i<s.size:=by have:=(List.getElem?_eq_some_iff.1 hc).1;simpa using this
 have:=take_any b s ⟨#[c]⟩ i w (Nat.le_of_lt hlt) h hs (by show 1 < _;decide);rw[show(ByteArray.mk #[c]).data.toList=[c] from rfl,qJ,decide_eq_true hc]at this;exact this
theorem pJ(b:Nat)(s:ByteArray)(i:Nat)(c:UInt8)(w:World)(hi:i<=s.size)(hc:¬s.data.toList[i]?=some c)(h:RS b s i w)(hs:s.size<2 ^ 62) :
  Calls prog 109 #[.pointer (some ⟨b,0,none⟩),.string ⟨#[c]⟩] w fun e w'=>e=.returned (.bool false)/\RS b s i w'/\w.grownBy w' (some b):=by
 have:=take_any b s ⟨#[c]⟩ i w hi h hs (by show 1 < _;decide);rw[show(ByteArray.mk #[c]).data.toList=[c] from rfl,qJ,decide_eq_false hc]at this;exact this
def placeOf(b:Nat)(w:World):Nat:=match w.cell? ⟨b,1,none⟩ with|some (.int .i64 x)=>x.toNat|_=>0
theorem RS.place(h:RS b s i w):placeOf b w=i:=by unfold placeOf;rw[h.c1];simp
theorem MX(F:Nat)(is:UInt8->Bool)(eF:∀args w,(callFunc F args).run prog w=.ok (.enter F args) w)(CF:∀(c:UInt8) (w:World),Calls prog F #[.int .u8 (c.toNat:Int)] w fun e w'=>e=.returned (.bool (is c))/\w'=w)(b:Nat)(s:ByteArray)(i:Nat)(w:World)(hi:i<=s.size)(h:RS b s i w)(hs:s.size<2 ^ 62) :
  Calls prog 135 #[.pointer (some ⟨b,0,none⟩),.func (.func F) #[] #[]] w fun e w'=>e=.returned (.string ⟨(au s.data.toList i (runN is s.data.toList i)).toArray⟩)/\RS b s (i+runN is s.data.toList i) w'/\w.grownBy w' (some b):=by
 have TT:=ae CF;have HEF:=ae eF;clear CF;have h0:=h.c0;have h1:=h.c1;have HR:=ae h;obtain⟨N,hN⟩:=zN (i+runN is s.data.toList i);have HN:Hd (N<=s.size):=by
  show N<=s.size;have:=pF is s.data.toList i (by simpa using hi);simp at this;omega
 have HA:Hd (∀j,i<=j->(hj:j<s.size)->j<N->is s[j]=true):=by
  show ∀j,i<=j->(hj:j<s.size)->j<N->is s[j]=true;intro j h1 hj h2;obtain⟨g1,g2⟩:=Io is s.data.toList i (j-i) (by omega);have e:i+(j-i)=j:=by omega
  simp only[e]at g2;exact g2
 have HS:Hd (∀hj:N<s.size,is s[N]=false):=by
  show ∀hj:N<s.size,is s[N]=false;intro hj;have:=AX is s.data.toList i (by rw[hN];simpa using hj);simp only[hN]at this;exact this
 have HT:Hd (runN is s.data.toList i=N-i/\i<=N):=⟨by omega,by omega⟩;have HI:=ae hi;rw[show runN is s.data.toList i=N-i by omega];obtain⟨X,hX⟩:∃X:List UInt8,X=au s.data.toList i (N-i):=⟨_,rfl⟩;have hsl:∀wx,(Instr.slice 9 (.string s) (some (.int .i64 (i:Int))) (some (.int .i64 (N:Int))) none).run prog wx=.ok (.string ⟨X.toArray⟩) wx:=fun wx=>by rw[hX];exact mM s i N (by omega) HN.o wx
 rw[<-hX,show i+(N-i)=N by omega];clear h hN hi hX;go_enter func135,ntmps135;go_wp2;go_loopw [] (fun wr=>∃j:Nat,i<=j/\j<=N/\RS b s j wr/\w.grownBy wr (some b)) (fun wr=>s.size-placeOf b wr)
 case atStart=>exact⟨i,Nat.le_refl _,HT.o.2,HR.o,ax _ _⟩
 case round=>
  obtain⟨j,hij,hjn,hrs,hgb⟩:=hrel;have d0:=hrs.c0;have d1:=hrs.c1;have df:=hrs.f1;have aN:=ae hrs;have aW:=ae hgb;have hns:=HN.o;clear hrs hgb h0 h1
  by_cases hlt:j<N
  ·have hjs:j<s.size:=by omega
   have hD:=HA.o j hij hjs hlt;have HK:Hd (i<=j/\j<N):=⟨hij,hlt⟩;clear hlt hjn hns hij;have hlt2:(j:Int)<(s.size:Int):=by omega
   go_wp2;go_quiet (first|(exact Calls.quiet_of_same (TT.o _ _)));go_wp2;go_roundw
   case rel=>
    have:=HK.o;exact⟨j+1,by omega,by omega,(aN.o.drew _).set (j+1),aT (az aW.o _) _ _⟩
   case measure=>
    have e1:=aN.o.place;have e2:=((aN.o.drew nq).set (j+1)).place;rw[e1];exact Nat.lt_of_le_of_lt (Nat.le_of_eq (congrArg (s.size - ·) e2)) (by omega)
  ·have hjN:j=N:=by omega
   subst hjN
   by_cases hjs:j<s.size
   ·have hD:=HS.o hjs;have hlt2:(j:Int)<(s.size:Int):=by omega
    clear hlt hjn hns hij;go_wp2;go_quiet (first|(exact Calls.quiet_of_same (TT.o _ _)));go_wp2;obtain⟨W,hW⟩:=zN (wr.drewN nq);have e0:W.cell? ⟨b,0,none⟩=some (.string s):=by rw[<-hW];exact d0
    have e1:W.cell? ⟨b,1,none⟩=some (.int .i64 (j:Int)):=by rw[<-hW];exact d1
    have HW:Hd (RS b s j W/\w.grownBy W (some b)):=by
     show RS b s j W/\w.grownBy W (some b);rw[<-hW];exact⟨aN.o.drew _,az aW.o _⟩
    rw[hW];clear hW d0 d1 df aN aW;go_quiet (fail);go_wp2;go_ret;exact⟨rfl,HW.o.1.drew _,az HW.o.2 _⟩
   ·have hd2:decide ((j:Int)<(s.size:Int))=false:=by simp;omega
    clear hlt hjn hns hij;go_wp2;go_quiet (fail);go_wp2;obtain⟨W,hW⟩:=zN (wr.drewN nq);have e0:W.cell? ⟨b,0,none⟩=some (.string s):=by rw[<-hW];exact d0
    have e1:W.cell? ⟨b,1,none⟩=some (.int .i64 (j:Int)):=by rw[<-hW];exact d1
    have HW:Hd (RS b s j W/\w.grownBy W (some b)):=by
     show RS b s j W/\w.grownBy W (some b);rw[<-hW];exact⟨aN.o.drew _,az aW.o _⟩
    rw[hW];clear hW d0 d1 df aN aW;go_quiet (fail);go_wp2;go_ret;exact⟨rfl,HW.o.1.drew _,az HW.o.2 _⟩
theorem abM:∀args w,(callFunc 142 args).run prog w=.ok (.enter 142 args) w:=enters_of func142 (by kernel_rfl) rfl
theorem abN:∀args w,(callFunc 169 args).run prog w=.ok (.enter 169 args) w:=enters_of func169 (by kernel_rfl) rfl
theorem abO(b:Nat)(s:ByteArray)(i:Nat)(w:World)(hi:i<=s.size)(h:RS b s i w)(hs:s.size<2 ^ 62) :
  Calls prog 135 #[.pointer (some ⟨b,0,none⟩),.func (.func 142) #[] #[]] w fun e w'=>e=.returned (.string ⟨(au s.data.toList i (runN aY s.data.toList i)).toArray⟩)/\RS b s (i+runN aY s.data.toList i) w'/\w.grownBy w' (some b):=MX _ aY abM A7 b s i w hi h hs
theorem run_parts(b:Nat)(s:ByteArray)(i:Nat)(w:World)(hi:i<=s.size)(h:RS b s i w)(hs:s.size<2 ^ 62) :
  Calls prog 135 #[.pointer (some ⟨b,0,none⟩),.func (.func 169) #[] #[]] w fun e w'=>e=.returned (.string ⟨(au s.data.toList i (runN aS s.data.toList i)).toArray⟩)/\RS b s (i+runN aS s.data.toList i) w'/\w.grownBy w' (some b):=MX _ aS abN abK b s i w hi h hs
def St(A:Nat)(a1 a2 a3:Int)(a4 a5:ByteArray)(w:World):Prop:=w.cell? ⟨A,0,none⟩=some (.int .i64 a1)/\w.cell? ⟨A,1,none⟩=some (.int .i64 a2)/\w.cell? ⟨A,2,none⟩=some (.int .i64 a3)/\w.cell? ⟨A,3,none⟩=some (.string a4)/\w.cell? ⟨A,4,none⟩=some (.string a5)
theorem St.grow(h:St A a1 a2 a3 a4 a5 w)(hg:w.grownBy w' none):St A a1 a2 a3 a4 a5 w' :=
 ⟨hg.cell h.1 (by simp),hg.cell h.2.1 (by simp),hg.cell h.2.2.1 (by simp),hg.cell h.2.2.2.1 (by simp),hg.cell h.2.2.2.2 (by simp)⟩
theorem abP(h:w.heap[A]?=some (.cells #[.int .i64 a1,.int .i64 a2,.int .i64 a3,.string a4,.string a5] t (0,0))):St A a1 a2 a3 a4 a5 w :=
 ⟨by rw[aj h];rfl,by rw[aj h];rfl,by rw[aj h];rfl,by rw[aj h];rfl,by rw[aj h];rfl⟩
theorem pK(c:UInt8)(w:World):Calls prog 47 #[.int .u8 (c.toNat:Int)] w fun e w'=>e=.returned (.bool (aY c))/\w'=w:=by
 go_enter func47,ntmps47;go_wp2
 all_goals go_ret
 all_goals (refine⟨bu ?_,rfl⟩;rw[Bool.eq_iff_iff];unfold aY;simp;omega)
theorem TU(c:UInt8)(w:World):Calls prog 148 #[.int .u8 (c.toNat:Int)] w fun e w'=>e=.returned (.bool (aS c))/\w'=w:=by
 go_enter func148,ntmps148;go_wp2_with (go_at_call 47;refine(pK _ _).mono ?_;rintro e w' ⟨rfl,rfl⟩)
 all_goals go_ret
 all_goals (refine⟨bu ?_,rfl⟩;rw[Bool.eq_iff_iff];unfold aS;simp_all;try omega)
theorem abQ(s:ByteArray)(w:World)(hs:s.size<2 ^ 62) :
  Calls prog 149 #[.string s] w fun e w'=>e=.returned (.bool (s.data.toList.all aY))/\w'=w:=by
 obtain⟨R,hR⟩:∃R,R=s.data.toList.all aY:=⟨_,rfl⟩;have HR:=ae hR;rw[<-hR];clear hR;go_enter func149,ntmps149;go_wp2
 go_loop [3] (fun i=>∃k:Nat,k<=s.size/\i=.int .i64 k/\∀j,(hj:j<s.size)->j<k->aY s[j]=true) (fun i=>s.size-(intOf i).toNat)
 case atStart=>exact⟨0,Nat.zero_le _,rfl,fun j hj h=>absurd h (by omega)⟩
 case round=>
  obtain⟨k,hk,rfl,hp⟩:=hrel;have HP:=ae hp;clear hp
  by_cases hlt:k<s.size
  ·cases hd:aY s[k] with
   |true=>
    go_wp2_with (go_at_call 47;refine(pK _ _).mono ?_;rintro e w' ⟨rfl,rfl⟩)
    go_round
    case rel=>
     refine⟨k+1,by omega,by go_num,fun j hj hjk=>?_⟩
     by_cases hjk':j<k
     ·exact HP.o j hj hjk'
     ·have e:j=k:=by omega
      subst e;exact hd
    case measure=>simp[intOf];omega
   |false=>
    have HN:Hd (R=false):=by
     show R=false;rw[HR.o,List.all_eq_false];exact⟨s[k],List.mem_of_getElem? (lZ s k hlt),by simp[hd]⟩
    go_wp2_with (go_at_call 47;refine(pK _ _).mono ?_;rintro e w' ⟨rfl,rfl⟩);go_ret;exact⟨bu HN.o.symm,rfl⟩
  ·have HN:Hd (R=true):=by
    show R=true;rw[HR.o,List.all_eq_true];intro c hc;obtain⟨j,hj,rfl⟩:=List.getElem_of_mem hc;exact HP.o j (by simpa using hj) (by simp at hj;have:s.size=s.data.size:=rfl;omega)
   clear hk;go_wp2;go_ret;exact⟨bu HN.o.symm,rfl⟩
open Go.Shelf
theorem abR(s:ByteArray)(w:World)(hlim:s.size<=281474976710656) :
  Calls prog 155 #[.string s] w fun e w'=>e=.returned (.string s)/\Below w.heap.size w w':=Any.stringslite_Clone Tryz.lays316 s w hlim
theorem clone_any(s:ByteArray)(w:World)(hlim:s.size<=281474976710656) :
  Calls prog 123 #[.string s] w fun e w'=>e=.returned (.string s)/\w.grownBy w' none:=by
 have C:=ae (fun w=>abR s w hlim);clear hlim;go_enter func123,ntmps123;go_wp2_with (go_at_call 155;refine(C.o _).mono ?_;rintro e w1 ⟨rfl,hb⟩);go_ret;exact⟨rfl,⟨hb.os,hb.tape,hb.output,hb.size,fun k hk _=>hb.block k hk⟩⟩
def VX(v:Nat)(y1 y2 y3:Int)(x4 x5:ByteArray)(w:World):Prop:=w.heap[v]?=some (.cells #[.int .i64 y1,.int .i64 y2,.int .i64 y3,.string x4,.string x5] 84 (0,0))
theorem VX.cells(h:VX v y1 y2 y3 x4 x5 w):w.cell? ⟨v,0,none⟩=some (.int .i64 y1)/\w.cell? ⟨v,1,none⟩=some (.int .i64 y2)/\w.cell? ⟨v,2,none⟩=some (.int .i64 y3)/\w.cell? ⟨v,3,none⟩=some (.string x4)/\w.cell? ⟨v,4,none⟩=some (.string x5) :=
 ⟨by rw[aj h];rfl,by rw[aj h];rfl,by rw[aj h];rfl,by rw[aj h];rfl,by rw[aj h];rfl⟩
theorem VX.f(h:VX v y1 y2 y3 x4 x5 w)(o:Nat):w.frozen? ⟨v,o,none⟩=false:=Lib.frozen_of_heap h o
theorem VX.grow(h:VX v y1 y2 y3 x4 x5 w)(hg:w.grownBy w' (some b))(hn:v≠b):VX v y1 y2 y3 x4 x5 w':=by
 unfold VX at h ⊢;rw[hg.block v ((bJ h)) (by simpa using hn)];exact h
theorem VX.set3(h:VX v y1 y2 y3 x4 x5 w)(z:ByteArray):VX v y1 y2 y3 z x5 (w.setCell ⟨v,3,none⟩ (.string z)):=by
 unfold VX at h ⊢;simp[World.setCell,Array.getElem?_modify,h]
theorem VX.set4(h:VX v y1 y2 y3 x4 x5 w)(z:ByteArray):VX v y1 y2 y3 x4 z (w.setCell ⟨v,4,none⟩ (.string z)):=by
 unfold VX at h ⊢;simp[World.setCell,Array.getElem?_modify,h]
theorem VX.other{u:Nat}(h:VX v y1 y2 y3 x4 x5 w)(hn:v≠u)(o:Nat)(x:Value):VX v y1 y2 y3 x4 x5 (w.setCell ⟨u,o,none⟩ x):=by
 unfold VX at h ⊢;rw[<-h];exact heap_setCell_other w _ v x hn
def vS(w:World)(A:Nat)(y1 y2 y3:Int)(x4 x5:ByteArray):World:=((((w.setCell ⟨A,0,none⟩ (.int .i64 y1)).setCell ⟨A,1,none⟩ (.int .i64 y2)).setCell ⟨A,2,none⟩ (.int .i64 y3)).setCell ⟨A,3,none⟩ (.string x4)).setCell ⟨A,4,none⟩ (.string x5)
theorem IM{z1 z2 z3:Int}{z4 z5:ByteArray}(h:VX A z1 z2 z3 z4 z5 w)(y1 y2 y3:Int)(x4 x5:ByteArray):VX A y1 y2 y3 x4 x5 (vS w A y1 y2 y3 x4 x5):=by
 unfold VX at h ⊢;unfold vS;simp[World.setCell,Array.getElem?_modify,h]
theorem dQ(h:w.grownBy W (some b))(hA:w.heap.size<=A)(o:Nat)(x:Value):w.grownBy (W.setCell ⟨A,o,none⟩ x) (some b) :=
 ⟨h.os,h.tape,h.output,by simpa [World.setCell] using h.size,fun k hk hn=>by rw[<-h.block k hk hn];exact heap_setCell_other W _ k x (by simp;omega)⟩
theorem abS(h:w.grownBy W (some b))(hA:w.heap.size<=A)(y1 y2 y3:Int)(x4 x5:ByteArray):w.grownBy (vS W A y1 y2 y3 x4 x5) (some b):=dQ (dQ (dQ (dQ (dQ h hA _ _) hA _ _) hA _ _) hA _ _) hA _ _
theorem Bf{P:Program}{fn:Func}{p u:Tmp}{ty:TypeId}(h:fn.results=#[.cell p ty,.tmp u])(tmps:Array Value)(w:World)(g:Nat)(t:TypeId)(cs:Array Value)(fr:Nat × Nat)(d:TypeDesc)
  (hp:tmps.getD p undef=.pointer (some ⟨g,0,none⟩)) (hg:w.heap[g]?=some (.cells cs t fr)) (hu:P.underlying ty=some d) (hd:(match d with | .struct _ | .array _ _=>true|_=>false)=true) (hi:(P.info? ty).map (·.size)=some cs.size) :
  (results fn tmps).run P w=.ok (.tuple #[.agg cs,tmps.getD u undef]) w:=by
 rw[results_cell_tmp h,hp];simp[asAddr,run_loadVar_row w g t ty cs fr d hg hu hd hi,Result.andThen]
theorem jS{P:Program}{fn:Func}{p u r:Tmp}{ty:TypeId}(h:fn.results=#[.cell p ty,.tmp u,.tmp r])(tmps:Array Value)(w:World)(g:Nat)(t:TypeId)(cs:Array Value)(fr:Nat × Nat)(d:TypeDesc)
  (hp:tmps.getD p undef=.pointer (some ⟨g,0,none⟩)) (hg:w.heap[g]?=some (.cells cs t fr)) (hu:P.underlying ty=some d) (hd:(match d with | .struct _ | .array _ _=>true|_=>false)=true) (hi:(P.info? ty).map (·.size)=some cs.size) :
  (results fn tmps).run P w=.ok (.tuple #[.agg cs,tmps.getD u undef,tmps.getD r undef]) w:=by
 have hp':tmps[p]?.getD undef=.pointer (some ⟨g,0,none⟩):=by simpa using hp
 simp[results,h,Result.andThen,hp',asAddr,run_loadVar_row w g t ty cs fr d hg hu hd hi]
theorem kD(h:w.grownBy W none)(hA:w.heap.size<=A)(o:Nat)(x:Value):w.grownBy (W.setCell ⟨A,o,none⟩ x) none :=
 ⟨h.os,h.tape,h.output,by simpa [World.setCell] using h.size,fun k hk hn=>by rw[<-h.block k hk hn];exact heap_setCell_other W _ k x (by simp;omega)⟩
theorem Bg(h:w.grownBy W none)(hA:w.heap.size<=A)(y1 y2 y3:Int)(x4 x5:ByteArray):w.grownBy (vS W A y1 y2 y3 x4 x5) none:=kD (kD (kD (kD (kD h hA _ _) hA _ _) hA _ _) hA _ _) hA _ _
theorem vT(h:a.size=0):a.toList.isEmpty=true:=by
 rw[Lib.toList_data,List.isEmpty_iff];exact List.length_eq_zero_iff.1 (by simpa using h)
theorem nR(h:a.size≠0):a.toList.isEmpty=false:=by
 rw[Lib.toList_data]
 cases hl:a.data.toList with
 |nil=>exact absurd (show a.size=0 from by show a.data.size=0;rw[<-Array.length_toList,hl];rfl) h
 |cons c l=>rfl
theorem RS.grow(h:RS b s i w)(hg:w.grownBy w' none):RS b s i w':=by
 obtain⟨t,h⟩:=h;exact⟨t,by rw[hg.block b ((bJ h)) (by simp)];exact h⟩
theorem TV(s:ByteArray)(w:World):Calls prog 143 #[.string s] w fun e w'=>e=.returned (.bool (decide (1<s.data.toList.length) && decide (s.data.toList[0]?=some 48)))/\w'=w:=by
 by_cases h1:1<s.size
 ·have h0:0<s.size:=by omega
  have hl:decide (1<s.data.toList.length)=true:=by simp;exact h1
  rw[hl,Bool.true_and,lZ s 0 h0]
  cases hz:((s[0].toNat:Int) == 48) with
  |true=>
   have hc:s[0]=48:=UInt8.toNat_inj.1 (by have:=eq_of_beq hz;have e48:(48:UInt8).toNat=48:=rfl;omega);have HZ:Hd (decide (some s[0]=some (48:UInt8))=true):=by show decide _=true;rw[hc];rfl
   rw[HZ.o];clear hc hl;go_enter func143,ntmps143;go_wp2;go_ret;exact⟨rfl,rfl⟩
  |false=>
   have HZ:Hd (decide (some s[0]=some (48:UInt8))=false):=by
    show decide _=false;apply decide_eq_false;intro e;rw[Option.some.inj e]at hz;exact absurd hz (by decide)
   rw[HZ.o];clear hl;go_enter func143,ntmps143;go_wp2;go_ret;exact⟨rfl,rfl⟩
 ·have hl:decide (1<s.data.toList.length)=false:=by simp;exact Nat.le_of_not_lt h1
  rw[hl,Bool.false_and];clear hl;go_enter func143,ntmps143;go_wp2;go_ret;exact⟨rfl,rfl⟩
theorem TW(b:Nat)(s:ByteArray)(i:Nat)(w:World)(hi:i<=s.size)(h:RS b s i w)(hs:s.size<2 ^ 62) :
  Calls prog 144 #[.pointer (some ⟨b,0,none⟩),.int .i64 0] w fun e w'=>e=.returned (.int .i64 (aX true s.data.toList i).1)/\RS b s (aX true s.data.toList i).2 w'/\w.grownBy w' (some b):=by
 have HI:Hd (RS b s i w/\i<=s.size):=⟨h,hi⟩;obtain⟨E,Q,jK⟩:∃E Q,aX true s.data.toList i=(E,Q):=⟨_,_,rfl⟩;rw[jK];have zl:=ae jK;have hsl:s.data.toList.length=s.size:=by simp
 have jc:=ae hsl;clear h hi jK hsl;go_enter func144,ntmps144;go_wp2;go_loopw [] (fun wr=>∃j:Nat,j<=s.size/\RS b s j wr/\w.grownBy wr (some b)/\aX true s.data.toList j=(E,Q)) (fun wr=>s.size-placeOf b wr)
 case atStart=>exact⟨i,HI.o.2,HI.o.1,ax _ _,zl.o⟩
 case round=>
  obtain⟨j,hj,hrs,hgb,hrd⟩:=hrel;have CR:=ae (run_parts b s j wr hj hrs hs);have gX:=ae hrs.place;have d1:=hrs.c1;have hle:j+runN aS s.data.toList j<=s.size:=by have:=pF aS s.data.toList j (by rw[jc.o];exact hj);rw[jc.o]at this;exact this
  have hln:=tZ s.data.toList j (runN aS s.data.toList j) (by rw[jc.o];exact hle);rw[Ej]at hrd;obtain⟨k,hk⟩:=zN (runN aS s.data.toList j);rw[hk]at CR hrd hle hln;obtain⟨T,hT⟩:=zN (au s.data.toList j k);rw[hT]at CR hrd hln;obtain⟨X,hX⟩:∃X:ByteArray,X=⟨T.toArray⟩:=⟨_,rfl⟩;rw[<-hX]at CR;have Bh:Hd (X.data.toList=T):=by show X.data.toList=T;rw[hX]
  have iD:X.size=k:=by rw[hX];show T.toArray.size=k;simpa using hln
  have aW:=ae hgb;have aN:=ae hrs;have dJ:=ae hrd;clear hk hT hX hgb hrs hrd hln
  by_cases hk0:k=0
  ·have e1:=vT (iD.trans hk0);have HZ:Hd (E=2/\Q=j):=by
    have:=dJ.o;rw[if_pos hk0]at this;exact⟨(congrArg Prod.fst this).symm,(congrArg Prod.snd this).symm⟩
   have HK:=ae hk0;clear hk0 iD hle;go_wp2_with (go_at_call 135;refine CR.o.mono ?_);rintro e w1 ⟨rfl,hr1,hg1⟩;have HF:Hd (RS b s Q w1/\w.grownBy w1 (some b)):=by
    refine⟨?_,ak aW.o hg1⟩;rw[HZ.o.2];rw[HK.o]at hr1;exact hr1
   clear hr1 hg1;go_wp2;go_ret;exact⟨dm HZ.o.1.symm,HF.o.1,HF.o.2⟩
  ·have e1:=nR (fun h=>hk0 (iD.symm.trans h));have nP:Hd (X.data.toList.isEmpty=false):=by show X.data.toList.isEmpty=false;rw[<-Lib.toList_data];exact e1
   have HK:=ae hk0;have TZ:X.size<2 ^ 62:=by omega
   have IP:=ae hle;clear hk0 iD hle;go_wp2_with (go_at_call 135;refine CR.o.mono ?_);rintro e w1 ⟨rfl,hr1,hg1⟩;have HR1:=ae hr1;have aC:=ae (ak aW.o hg1);clear hr1 hg1;have CD:=ae (fun w=>II X w TZ);obtain⟨dX,MZ⟩:=zN (ik X.data.toList);rw[MZ]at CD;have HDX:Hd (T.all aY=dX):=by
    show T.all aY=dX;rw[<-MZ];unfold ik;rw[nP.o,Bh.o];rfl
   obtain⟨z,hz⟩:=zN ((decide (1<X.data.toList.length) && decide (X.data.toList[0]?=some 48)));have CZ:Hd (∀w,Calls prog 143 #[.string X] w fun e w'=>e=.returned (.bool z)/\w'=w):=fun w=>by rw[<-hz];exact TV X w
   have oK:Hd (jh true T=(dX && z)):=by
    show jh true T=_;rw[<-hz,<-HDX.o,Bh.o];rfl
   clear MZ hz;go_wp2_with (go_at_call 170;refine(CD.o _).mono ?_);rintro e w2 ⟨rfl,hg2⟩;replace HR1:=ae (HR1.o.grow hg2);replace aC:=ae (ak aC.o (iy hg2 _));clear hg2
   cases dX with
   |false=>
    have HB:Hd (jh true T=false):=by show jh true T=false;rw[oK.o];rfl
    cases hc:decide (s.data.toList[j+k]?=some 46) with
    |true=>
     have hc':=of_decide_eq_true hc;have HT:Hd (aX true s.data.toList (j+k+1)=(E,Q)):=by
      have:=dJ.o;rw[if_neg HK.o,if_neg (by rw[HB.o];simp),if_pos hc']at this;exact this
     have CT:=ae (uj b s (j+k) 46 w2 hc' HR1.o hs);have dC:Hd (j+k<s.size):=by have:=(List.getElem?_eq_some_iff.1 hc').1;rw[jc.o]at this;exact this
     clear hc hc';go_wp2_with (go_at_call 109;refine CT.o.mono ?_);rintro e w3 ⟨rfl,hr3,hg3⟩;have HF:Hd (RS b s (j+k+1) w3/\w.grownBy w3 (some b)):=⟨hr3,ak aC.o hg3⟩;clear hr3 hg3;go_wp2;go_roundw
     case rel=>exact⟨j+k+1,dC.o,HF.o.1,HF.o.2,HT.o⟩
     case measure=>
      rw[gX.o,HF.o.1.place];have:=dC.o;omega
    |false=>
     have hc':=of_decide_eq_false hc;have HT:Hd (E=0/\Q=j+k):=by
      have:=dJ.o;rw[if_neg HK.o,if_neg (by rw[HB.o];simp),if_neg hc']at this;exact⟨(congrArg Prod.fst this).symm,(congrArg Prod.snd this).symm⟩
     have CT:=ae (pJ b s (j+k) 46 w2 IP.o hc' HR1.o hs);clear hc hc';go_wp2_with (go_at_call 109;refine CT.o.mono ?_);rintro e w3 ⟨rfl,hr3,hg3⟩;have HF:Hd (RS b s (j+k) w3/\w.grownBy w3 (some b)):=⟨hr3,ak aC.o hg3⟩;clear hr3 hg3;go_wp2;go_ret;exact⟨dm HT.o.1.symm,by rw[HT.o.2];exact HF.o.1,HF.o.2⟩
   |true=>
    cases z with
    |true=>
     have HZ:Hd (E=2/\Q=j):=by
      have:=dJ.o;rw[if_neg HK.o,if_pos (by rw[oK.o];rfl)]at this;exact⟨(congrArg Prod.fst this).symm,(congrArg Prod.snd this).symm⟩
     have f1:=HR1.o.c1;have f2:=HR1.o.f1;go_wp2_with (go_at_call 143;refine(CZ.o _).mono ?_;rintro e w' ⟨rfl,rfl⟩);go_ret;exact⟨dm HZ.o.1.symm,by rw[HZ.o.2];exact HR1.o.set j,aT aC.o _ _⟩
    |false=>
     have HB:Hd (jh true T=false):=by show jh true T=false;rw[oK.o];rfl
     cases hc:decide (s.data.toList[j+k]?=some 46) with
     |true=>
      have hc':=of_decide_eq_true hc;have HT:Hd (aX true s.data.toList (j+k+1)=(E,Q)):=by
       have:=dJ.o;rw[if_neg HK.o,if_neg (by rw[HB.o];simp),if_pos hc']at this;exact this
      have CT:=ae (uj b s (j+k) 46 w2 hc' HR1.o hs);have dC:Hd (j+k<s.size):=by have:=(List.getElem?_eq_some_iff.1 hc').1;rw[jc.o]at this;exact this
      clear hc hc';go_wp2_with (first|(go_at_call 143;refine(CZ.o _).mono ?_;rintro e w' ⟨rfl,rfl⟩)|(go_at_call 109;refine CT.o.mono ?_));rintro e w3 ⟨rfl,hr3,hg3⟩;have HF:Hd (RS b s (j+k+1) w3/\w.grownBy w3 (some b)):=⟨hr3,ak aC.o hg3⟩;clear hr3 hg3;go_wp2;go_roundw
      case rel=>exact⟨j+k+1,dC.o,HF.o.1,HF.o.2,HT.o⟩
      case measure=>
       rw[gX.o,HF.o.1.place];have:=dC.o;omega
     |false=>
      have hc':=of_decide_eq_false hc;have HT:Hd (E=0/\Q=j+k):=by
       have:=dJ.o;rw[if_neg HK.o,if_neg (by rw[HB.o];simp),if_neg hc']at this;exact⟨(congrArg Prod.fst this).symm,(congrArg Prod.snd this).symm⟩
      have CT:=ae (pJ b s (j+k) 46 w2 IP.o hc' HR1.o hs);clear hc hc';go_wp2_with (first|(go_at_call 143;refine(CZ.o _).mono ?_;rintro e w' ⟨rfl,rfl⟩)|(go_at_call 109;refine CT.o.mono ?_));rintro e w3 ⟨rfl,hr3,hg3⟩;have HF:Hd (RS b s (j+k) w3/\w.grownBy w3 (some b)):=⟨hr3,ak aC.o hg3⟩;clear hr3 hg3;go_wp2;go_ret;exact⟨dm HT.o.1.symm,by rw[HT.o.2];exact HF.o.1,HF.o.2⟩
theorem Ua(b:Nat)(s:ByteArray)(i:Nat)(w:World)(hi:i<=s.size)(h:RS b s i w)(hs:s.size<2 ^ 62) :
  Calls prog 144 #[.pointer (some ⟨b,0,none⟩),.int .i64 1] w fun e w'=>e=.returned (.int .i64 (aX false s.data.toList i).1)/\RS b s (aX false s.data.toList i).2 w'/\w.grownBy w' (some b):=by
 have HI:Hd (RS b s i w/\i<=s.size):=⟨h,hi⟩;obtain⟨E,Q,jK⟩:∃E Q,aX false s.data.toList i=(E,Q):=⟨_,_,rfl⟩;rw[jK];have zl:=ae jK;have hsl:s.data.toList.length=s.size:=by simp
 have jc:=ae hsl;clear h hi jK hsl;go_enter func144,ntmps144;go_wp2;go_loopw [] (fun wr=>∃j:Nat,j<=s.size/\RS b s j wr/\w.grownBy wr (some b)/\aX false s.data.toList j=(E,Q)) (fun wr=>s.size-placeOf b wr)
 case atStart=>exact⟨i,HI.o.2,HI.o.1,ax _ _,zl.o⟩
 case round=>
  obtain⟨j,hj,hrs,hgb,hrd⟩:=hrel;have CR:=ae (run_parts b s j wr hj hrs hs);have gX:=ae hrs.place;have d1:=hrs.c1;have hle:j+runN aS s.data.toList j<=s.size:=by have:=pF aS s.data.toList j (by rw[jc.o];exact hj);rw[jc.o]at this;exact this
  have hln:=tZ s.data.toList j (runN aS s.data.toList j) (by rw[jc.o];exact hle);rw[Ej]at hrd;obtain⟨k,hk⟩:=zN (runN aS s.data.toList j);rw[hk]at CR hrd hle hln;obtain⟨T,hT⟩:=zN (au s.data.toList j k);rw[hT]at CR hrd hln;obtain⟨X,hX⟩:∃X:ByteArray,X=⟨T.toArray⟩:=⟨_,rfl⟩;rw[<-hX]at CR;have Bh:Hd (X.data.toList=T):=by show X.data.toList=T;rw[hX]
  have iD:X.size=k:=by rw[hX];show T.toArray.size=k;simpa using hln
  have aW:=ae hgb;have aN:=ae hrs;have dJ:=ae hrd;clear hk hT hX hgb hrs hrd hln
  by_cases hk0:k=0
  ·have e1:=vT (iD.trans hk0);have HZ:Hd (E=2/\Q=j):=by
    have:=dJ.o;rw[if_pos hk0]at this;exact⟨(congrArg Prod.fst this).symm,(congrArg Prod.snd this).symm⟩
   have HK:=ae hk0;clear hk0 iD hle;go_wp2_with (go_at_call 135;refine CR.o.mono ?_);rintro e w1 ⟨rfl,hr1,hg1⟩;have HF:Hd (RS b s Q w1/\w.grownBy w1 (some b)):=by
    refine⟨?_,ak aW.o hg1⟩;rw[HZ.o.2];rw[HK.o]at hr1;exact hr1
   clear hr1 hg1;go_wp2;go_ret;exact⟨dm HZ.o.1.symm,HF.o.1,HF.o.2⟩
  ·have e1:=nR (fun h=>hk0 (iD.symm.trans h));have nP:Hd (X.data.toList.isEmpty=false):=by show X.data.toList.isEmpty=false;rw[<-Lib.toList_data];exact e1
   have HK:=ae hk0;have TZ:X.size<2 ^ 62:=by omega
   have IP:=ae hle;clear hk0 iD hle;go_wp2_with (go_at_call 135;refine CR.o.mono ?_);rintro e w1 ⟨rfl,hr1,hg1⟩;have HR1:=ae hr1;have aC:=ae (ak aW.o hg1);clear hr1 hg1;have HB:Hd (jh false T=false):=rfl
   cases hc:decide (s.data.toList[j+k]?=some 46) with
   |true=>
    have hc':=of_decide_eq_true hc;have HT:Hd (aX false s.data.toList (j+k+1)=(E,Q)):=by
     have:=dJ.o;rw[if_neg HK.o,if_neg (by rw[HB.o];simp),if_pos hc']at this;exact this
    have CT:=ae (uj b s (j+k) 46 w1 hc' HR1.o hs);have dC:Hd (j+k<s.size):=by have:=(List.getElem?_eq_some_iff.1 hc').1;rw[jc.o]at this;exact this
    clear hc hc';go_wp2_with (go_at_call 109;refine CT.o.mono ?_);rintro e w3 ⟨rfl,hr3,hg3⟩;have HF:Hd (RS b s (j+k+1) w3/\w.grownBy w3 (some b)):=⟨hr3,ak aC.o hg3⟩;clear hr3 hg3;go_wp2;go_roundw
    case rel=>exact⟨j+k+1,dC.o,HF.o.1,HF.o.2,HT.o⟩
    case measure=>
     rw[gX.o,HF.o.1.place];have:=dC.o;omega
   |false=>
    have hc':=of_decide_eq_false hc;have HT:Hd (E=0/\Q=j+k):=by
     have:=dJ.o;rw[if_neg HK.o,if_neg (by rw[HB.o];simp),if_neg hc']at this;exact⟨(congrArg Prod.fst this).symm,(congrArg Prod.snd this).symm⟩
    have CT:=ae (pJ b s (j+k) 46 w1 IP.o hc' HR1.o hs);clear hc hc';go_wp2_with (go_at_call 109;refine CT.o.mono ?_);rintro e w3 ⟨rfl,hr3,hg3⟩;have HF:Hd (RS b s (j+k) w3/\w.grownBy w3 (some b)):=⟨hr3,ak aC.o hg3⟩;clear hr3 hg3;go_wp2;go_ret;exact⟨dm HT.o.1.symm,by rw[HT.o.2];exact HF.o.1,HF.o.2⟩
end Go.Proofs.YtbcfhgpfgdbjgaaGreatDoor
