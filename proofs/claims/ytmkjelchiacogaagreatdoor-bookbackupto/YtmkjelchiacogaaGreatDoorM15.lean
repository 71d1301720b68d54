import Derived.Test.YtmkjelchiacogaaGreatDoorM14
import Derived.Test.YtmkjelchiacogaaGreatDoorM10
import Derived.Test.YtmkjelchiacogaaGreatDoorM06
import Derived.Deep.RegionHeld3
import Derived.Carry
import Derived.OwnWalk
import Derived.Laws.AppendOwn
import Derived.Deep.AppendSrc
import Derived.Deep.AppendLies
import Derived.Deep.OwnRows
import Derived.BigQuiet
import Derived.Deep.QuietTactic
import Derived.Shelf.Small.Wraps
import Derived.Test.YtmkjelchiacogaaGreatDoorProg
import Derived.WalkLawsBesides
set_option linter.unusedVariables false
set_option linter.unusedSimpArgs false
set_option maxRecDepth 100000
set_option maxHeartbeats 6400000
open Go.Proofs.Tryz
namespace Go.Proofs.YtmkjelchiacogaaGreatDoor
open Go.RowKit Go.Joins
def UE(ns:List Tn)(q:Nat):List Nat:=if ag ns q=0 then rs ns q false++rs ns q true else ax ns q
inductive Al(ns ns':List Tn):Nat->Nat->Prop
 | mk (q q':Nat) (x y:Tn):ns[q]?=some x->ns'[q']?=some y->y.kd=x.kd->y.ky=x.ky->y.tx=x.tx->y.nu=x.nu->(∀k∈y.ks,q'<k)->y.ks.length=(UE ns q).length->(∀(i a b:Nat),(UE ns q)[i]?=some a->y.ks[i]?=some b->Al ns ns' a b)->Al ns ns' q q'
theorem UF{a:List Tn}{p:Nat}{x:Tn}(h:a[p]?=some x):p<a.length:=(List.getElem?_eq_some_iff.1 h).1
theorem Al.lt{ns a:List Tn}{q q':Nat}(h:Al ns a q q'):q'<a.length:=by
 cases h with
 | mk _ _ x y h1 h2=>exact UF h2
theorem Al.keep{ns a b:List Tn}{q q':Nat}(h:Al ns a q q')(hk:∀p,q'<=p->p<a.length->b[p]?=a[p]?):Al ns b q q':=by
 induction h with
 | mk q q' x y h1 h2 h3 h4 h5 h6 h7 h8 h9 ih =>
  refine Al.mk q q' x y h1 ((hk q' (Nat.le_refl _) (UF h2)).trans h2) h3 h4 h5 h6 h7 h8 fun i c d hc hd=>ih i c d hc hd fun p hp hl=>hk p ?_ hl
  have:=h7 d (List.mem_of_getElem? hd);omega
structure Cps(ns a:List Tn)(K L:List Nat):Prop where
 len:L.length=K.length
 al:∀(i x y:Nat),K[i]?=some x->L[i]?=some y->Al ns a x y
theorem Cps.nil{ns a:List Tn}:Cps ns a [] []:=⟨rfl,fun i x y h=>by simp at h⟩
theorem Cps.one{ns a:List Tn}{q q':Nat}(h:Al ns a q q'):Cps ns a [q] [q']:=⟨rfl,fun i x y hx hy=>by
 cases i with
 | zero =>
  have e1:q=x:=by simpa using hx
  have e2:q'=y:=by simpa using hy
  rw[<-e1,<-e2];exact h
 | succ i=>simp at hx⟩
theorem Cps.app{ns a:List Tn}{K1 L1 K2 L2:List Nat}(h1:Cps ns a K1 L1)(h2:Cps ns a K2 L2):Cps ns a (K1++K2) (L1++L2):=by
 refine⟨by rw[List.length_append,List.length_append,h1.len,h2.len],fun i x y hx hy=>?_⟩
 by_cases hi:i<K1.length
 ·rw[List.getElem?_append_left hi]at hx;rw[List.getElem?_append_left (by rw[h1.len];exact hi)]at hy;exact h1.al i x y hx hy
 ·rw[List.getElem?_append_right (by omega)]at hx;rw[List.getElem?_append_right (by rw[h1.len];omega),h1.len]at hy;exact h2.al _ x y hx hy
theorem Cps.keep{ns a b:List Tn}{K L:List Nat}{m:Nat}(h:Cps ns a K L)(hL:∀q∈L,m<=q)(hk:∀p,m<=p->p<a.length->b[p]?=a[p]?):Cps ns b K L :=
 ⟨h.len,fun i x y hx hy=>(h.al i x y hx hy).keep fun p hp hl=>hk p (Nat.le_trans (hL y (List.mem_of_getElem? hy)) hp) hl⟩
structure Ext(up:Nat)(a b:List Tn)(L:List Nat):Prop where
 len:a.length<=b.length
 oth:∀p,p<a.length->p≠up->b[p]?=a[p]?
 here:∀u,a[up]?=some u->b[up]?=some { u with ks:=u.ks++L }
 new:∀q∈L,a.length<=q/\q<b.length
theorem Ext.refl(up:Nat)(a:List Tn):Ext up a a []:=⟨Nat.le_refl _,fun _ _ _=>rfl,fun u hu=>by rw[hu];simp,by simp⟩
theorem Ext.trans{up:Nat}{a b c:List Tn}{L M:List Nat}(h:Ext up a b L)(h':Ext up b c M):Ext up a c (L++M):=by
 refine⟨Nat.le_trans h.len h'.len,fun p hp hn=>(h'.oth p (Nat.lt_of_lt_of_le hp h.len) hn).trans (h.oth p hp hn),fun u hu=>?_,fun q hq=>?_⟩
 ·have:=h'.here _ (h.here u hu);simpa using this
 ·have h1:=h.len;have h2:=h'.len
  rcases List.mem_append.1 hq with hq|hq
  ·have:=h.new q hq;omega
  ·have:=h'.new q hq;omega
theorem Hy{l:List UInt8}{i:Nat}{c:UInt8}{r:List UInt8}(h:l.drop i=c :: r)(h1:je (c.toNat:Int)=false)(h2:c.toNat≠35)(h3:c.toNat≠10):gap l (l.length+1) i=.ok i:=by
 have e:bl l i=i:=wE h h1;have n:nx l i=(c.toNat:Int):=fV h;show(if(bi l (bl l i)).1=false then _ else _)=_;rw[e,E5 l i (by rw[n];omega)];simp only[Bool.true_eq_false,if_false];rw[n,if_neg (by omega)]
theorem acJ{l:List UInt8}{i:Nat}{c:UInt8}{r:List UInt8}(h:l.drop i=32 :: c :: r)(h1:je (c.toNat:Int)=false)(h2:c.toNat≠35)(h3:c.toNat≠10):gap l (l.length+1) i=.ok (i+1):=by
 have e:bl l i=i+1:=LD h h1;have n:nx l (i+1)=(c.toNat:Int):=fV (cO (a:=[32]) h);show(if(bi l (bl l i)).1=false then _ else _)=_;rw[e,E5 l _ (by rw[n];omega)];simp only[Bool.true_eq_false,if_false];rw[n,if_neg (by omega)]
open Go.RowKit Go.Joins
def Run(l:List UInt8)(d d':Sd):Prop:=∀f,l.length-d.i<f->∃f',l.length-d'.i<f'/\jW l f d=jW l f' d'
theorem Run.refl(l:List UInt8)(d:Sd):Run l d d:=fun f hf=>⟨f,hf,rfl⟩
theorem Run.trans{l:List UInt8}{a b c:Sd}(h:Run l a b)(h':Run l b c):Run l a c:=fun f hf=>by
 obtain⟨f1,h1,e1⟩:=h f hf;obtain⟨f2,h2,e2⟩:=h' f1 h1;exact⟨f2,h2,e1.trans e2⟩
theorem Dv{l:List UInt8}{d d':Sd}(h:jI l d=.ok d')(h1:d.i<l.length)(h2:d.i<d'.i):Run l d d':=fun f hf=>by
 match f,hf with
 | f+1,hf =>
  refine⟨f,by omega,?_⟩;rw[Cm,if_neg (by omega),h]
theorem LX{l:List UInt8}{d:Sd}{r:List UInt8}(h:l.drop d.i=10 :: r):zO l (.ok d)=.ok ⟨d.i+1,d.ns,d.own,d.now⟩:=by
 have e:bl l d.i=d.i:=wE h rfl;have n:nx l d.i=10:=fV (c:=10) h;show jg l d (bi l (bl l d.i))=_;rw[e,E5 l _ (by rw[n];decide)];unfold jg must;simp only[Bool.true_eq_false,if_false];rw[n,if_neg (by decide),if_pos rfl]
theorem acK{l:List UInt8}{i:Nat}{r:List UInt8}(h:l.drop i=10 :: r)(a:List Tn)(own:List Nat)(now:Nat):jI l ⟨i,a,own,now⟩=.ok ⟨i+1,a,own,now⟩:=by
 have e:bl l i=i:=wE h rfl;have n:nx l i=10:=fV (c:=10) h;rw[zQ,e,n,if_neg (by decide),if_neg (by decide)];exact LX (d:=⟨i,a,own,now⟩) h
theorem Dw(k:List UInt8):∃c r,kt k=c :: r/\(c.toNat=34\/aV (c.toNat:Int)=true):=by
 unfold kt
 by_cases h0:k=[]
 ·rw[if_pos h0];exact⟨34,_,rfl,Or.inl rfl⟩
 ·rw[if_neg h0]
  by_cases h1:k.all (fun c=>aV (c.toNat:Int))=true
  ·rw[if_pos h1]
   match k,h0,h1 with
   | c :: r,_,h1=>exact⟨c,r,rfl,Or.inr (List.all_eq_true.1 h1 c (by simp))⟩
  ·rw[if_neg h1];exact⟨34,_,rfl,Or.inl rfl⟩
theorem LY{c:UInt8}(h:c.toNat=34\/aV (c.toNat:Int)=true):je (c.toNat:Int)=false/\¬(c.toNat:Int)=91:=by
 rcases h with h|h
 ·rw[h];decide
 ·unfold aV dh ay at h;simp at h;constructor
  ·unfold je;apply decide_eq_false;omega
  ·omega
def jk:List (List UInt8)->List UInt8
 | []=>[]
 | [k]=>kt k
 | k :: b :: r=>kt k++46 :: jk (b :: r)
theorem UG(l:List UInt8):∀(K:List (List UInt8)) (k:List UInt8) (f i:Nat) (acc:List (List UInt8 × Nat)) (r:List UInt8),(∀x∈k :: K,Us x)->l.drop i=jk (k :: K)++93 :: r->K.length<f->∃ks,iD l f i acc=.ok (acc++ks,i+(jk (k :: K)).length)/\ks.map Prod.fst=k :: K
 | K,k,0,i,acc,r,_,_,hf=>by omega
 | K,k,f+1,i,acc,r,hus,h,hf=>by
  obtain⟨c,kr,hc,hc2⟩:=Dw k;obtain⟨n1,n2⟩:=LY hc2;have hk:=hus k (by simp)
  cases K with
  | nil =>
   have h':l.drop i=kt k++93 :: r:=h;have e0:bl l i=i:=by rw[hc]at h';exact wE h' n1
   have d1:=cO h';have e1:=wE d1 rfl;refine⟨[(k,i)],?_,rfl⟩;rw[zI,e0,LM hk (by decide) h'];simp only[];rw[e1,fV d1,if_neg (by decide)];rfl
  | cons b K =>
   have h':l.drop i=kt k++46 :: (jk (b :: K)++93 :: r):=by rw[h];show(kt k++46 :: jk (b :: K))++93 :: r=_;simp
   have e0:bl l i=i:=by rw[hc]at h';exact wE h' n1
   have d1:=cO h';have e1:=wE d1 rfl;have d2:=cO (a:=[46]) d1;obtain⟨ks,hks,hm⟩:=UG l K b f _ (acc++[(k,i)]) r (fun x hx=>hus x (by simp only[List.mem_cons]at hx ⊢;exact Or.inr hx)) d2 (by simp only[List.length_cons]at hf;omega);refine⟨(k,i) :: ks,?_,by rw[List.map_cons,hm]⟩;rw[zI,e0,LM hk (by decide) h'];simp only[];rw[e1,fV d1,if_pos (by decide)];rw[show iD l f (i+(kt k).length+1) (acc++[(k,i)])=_ from hks];show Except.ok (_,_)=Except.ok (_,i+(kt k++46 :: jk (b :: K)).length);simp only[List.append_assoc,List.singleton_append,List.length_append,List.length_cons,List.length_nil];congr 2;omega
def Dx(a:List Tn)(t:Nat)(k:List UInt8):Option Nat:=match aG a t k with|none=>none|some q=>if ag a q=0 then some q else if ag a q=2 then(ax a q).getLast? else none
def wk(a:List Tn):List (List UInt8)->Nat->Option Nat
 | [],t=>some t
 | k :: K,t=>match Dx a t k with|none=>none|some u=>wk a K u
theorem acL{a:List Tn}{t u:Nat}{k:List UInt8}(p:Nat)(h:Dx a t k=some u):iK a t k p=.ok (u,a):=by
 unfold Dx at h;unfold iK
 cases hq:aG a t k with
 | none=>rw[hq]at h;cases h
 | some q =>
  rw[hq]at h;simp only[]at h ⊢;split at h
  ·rename_i h0;rw[if_pos h0];injection h with h
   rw[h]
  ·rename_i h0;rw[if_neg h0];split at h
   ·rename_i h2;rw[if_pos h2];unfold ax at h
    cases hx:a[q]? with
    | none=>rw[hx]at h;cases h
    | some x =>
     rw[hx]at h;simp only[]at h ⊢;rw[List.getLastD_eq_getLast?,h];rfl
   ·cases h
theorem UH(many:Bool)(own:List Nat)(a:List Tn)(k:List UInt8)(p:Nat):∀(ks:List (List UInt8 × Nat)) (t t':Nat),wk a (ks.map Prod.fst) t=some t'->way many own (ks++[(k,p)]) t a=if many=true then iL a t' k p else jA a own t' k p
 | [],t,t',h=>by
  injection h with h
  rw[<-h];rfl
 | (k0,p0) :: ks,t,t',h=>by
  have h':(match Dx a t k0 with|none=>none|some u=>wk a (ks.map Prod.fst) u)=some t':=h
  cases hn:Dx a t k0 with
  | none=>rw[hn]at h';cases h'
  | some u =>
   rw[hn]at h';have ih:=UH many own a k p ks u t' h';rw[<-ih]
   cases hks:ks++[(k,p)] with
   | nil=>simp at hks
   | cons b r =>
    rw[List.cons_append,hks,Bz,acL p0 hn]
def oU(dbl:Bool):List UInt8:=if dbl then[91,91] else[91]
def Ag(dbl:Bool):List UInt8:=if dbl then[93,93,10] else[93,10]
theorem acM{l:List UInt8}{i:Nat}{a:List Tn}{own:List Nat}{now t' t1:Nat}{K:List (List UInt8)}{k:List UInt8}{dbl:Bool}{r:List UInt8}{b:Nat->List Tn}(hus:∀x∈K++[k],Us x)(hw:wk a K 0=some t')(he:∀p,(if dbl=true then iL a t' k p else jA a own t' k p)=.ok (t1,b p))(h:l.drop i=oU dbl++jk (K++[k])++Ag dbl++r) :
  ∃p,jI l ⟨i,a,own,now⟩=.ok ⟨i+(oU dbl++jk (K++[k])++Ag dbl).length,b p,t1 :: own,t1⟩:=by
 obtain⟨k0,K0,hK⟩:∃k0 K0,K++[k]=k0 :: K0:=by
  cases K with
  | nil=>exact⟨k,[],rfl⟩
  | cons x y=>exact⟨x,y++[k],rfl⟩
 obtain⟨c,kr,hc,hc2⟩:=Dw k0;obtain⟨n1,n2⟩:=LY hc2;have hjc:∃jr,jk (K++[k])=c :: jr:=by
  rw[hK]
  cases K0 with
  | nil=>exact⟨kr,hc⟩
  | cons x y=>exact⟨_,by show kt k0++46 :: jk (x :: y)=_;rw[hc];rfl⟩
 obtain⟨jr,hjr⟩:=hjc;rw[List.append_assoc,List.append_assoc]at h;have h0:nx l i=91:=by
  cases dbl with
  | true=>exact fV (c:=91) h
  | false=>exact fV (c:=91) h
 have e0:bl l i=i:=xB je l i (by rw[h0];decide);have d1:=cO h;have hol:(if dbl=true then i+2 else i+1)=i+(oU dbl).length:=by cases dbl<;>rfl
 have hm:decide (nx l (i+1)=91)=dbl:=by
  cases dbl with
  | true =>
   have:=cO (a:=[91]) (l:=l) (i:=i) (r:=91 :: (jk (K++[k])++(Ag true++r))) h;rw[show nx l (i+1)=91 from fV (c:=91) this];decide
  | false =>
   have d1':l.drop (i+1)=_:=d1;rw[hjr]at d1';rw[fV (c:=c) d1'];exact decide_eq_false n2
 have hsh:Ag dbl++r=93 :: ((if dbl=true then[93] else[])++10 :: r):=by cases dbl<;>rfl
 rw[hsh]at d1;rw[hK]at d1 hus;obtain⟨ks,hks,hmap⟩:=UG l K0 k0 (l.length+1) _ [] _ hus d1 (by
  have:=congrArg List.length d1;have h2:∀(K0:List (List UInt8)) k0,K0.length<=(jk (k0 :: K0)).length:=fun K0=>by
   induction K0 with
   | nil=>intro _;simp
   | cons x y ih =>
    intro k0;have:=ih x;show _<=(kt k0++46 :: jk (x :: y)).length;simp only[List.length_append,List.length_cons];omega
  have:=h2 K0 k0;rw[List.length_drop,List.length_append]at *;omega)
 rw[<-hK]at hmap hks d1;obtain⟨ks0,kl,hk1,hk2,hk3⟩:=List.map_eq_append_iff.1 hmap;obtain⟨p,hkl⟩:∃p,kl=[(k,p)]:=by
  match kl,hk3 with
  | [(k',p)],hk3 =>
   have:k'=k:=by simpa using hk3
   exact⟨p,by rw[this]⟩
 subst hkl;have d2:=cO d1;have m1:must l (i+(oU dbl).length+(jk (K++[k])).length) 93=.ok (i+(oU dbl).length+(jk (K++[k])).length+1):=by
  unfold must;rw[fV (c:=93) d2,if_pos (by decide)]
 have d3:=cO (a:=[93]) d2;have m2:(if dbl=true then must l (i+(oU dbl).length+(jk (K++[k])).length+1) 93 else .ok (i+(oU dbl).length+(jk (K++[k])).length+1):Rs Nat)=.ok (i+(oU dbl).length+(jk (K++[k])).length+1+(if dbl=true then 1 else 0)):=by
  cases dbl with
  | true =>
   unfold must;rw[if_pos rfl,show nx l (i+(oU true).length+(jk (K++[k])).length+1)=93 from fV (c:=93) d3,if_pos rfl];rfl
  | false=>rfl
 have d4:l.drop (i+(oU dbl).length+(jk (K++[k])).length+1+(if dbl=true then 1 else 0))=10 :: r:=by
  cases dbl with
  | true=>exact cO (a:=[93]) d3
  | false=>exact d3
 refine⟨p,?_⟩;have hh:jS l ⟨i,a,own,now⟩=.ok ⟨i+(oU dbl).length+(jk (K++[k])).length+1+(if dbl=true then 1 else 0),b p,t1 :: own,t1⟩:=by
  rw[GI l i a own now dbl hm,hol,hks];simp only[];rw[m1];simp only[];rw[m2];simp only[];rw[List.nil_append,hk1,UH dbl own a k p ks0 0 t' (by rw[hk2];exact hw),he p];rfl
 rw[zQ,e0,if_pos h0,hh,LX (d:=⟨i+(oU dbl).length+(jk (K++[k])).length+1+(if dbl=true then 1 else 0),b p,t1 :: own,t1⟩) d4];have hsl:(Ag dbl).length=2+(if dbl=true then 1 else 0):=by cases dbl<;>rfl
 simp only[List.length_append,hsl];congr 2;omega
def np(x:Tn):Tn:=⟨x.kd,x.ky,x.tx,x.nu,x.ks,0⟩
def Sm(m n:List Tn):Prop:=m.map np=n.map np
theorem Sm.len{m n:List Tn}(h:Sm m n):m.length=n.length:=by
 have:=congrArg List.length h;simpa using this
theorem Dy(ns:List Tn)(t:Nat):ag (ns.map np) t=ag ns t:=by
 unfold ag;rw[List.getElem?_map]
 cases ns[t]?<;>rfl
theorem LZ(ns:List Tn)(t:Nat)(k:List UInt8):aG (ns.map np) t k=aG ns t k:=by
 unfold aG;simp only[List.getElem?_map]
 cases ns[t]? with
 | none=>rfl
 | some u =>
  show List.find? _ u.ks=List.find? _ u.ks;congr 1;funext q
  cases ns[q]?<;>rfl
theorem wG(ns:List Tn)(up:Nat)(x:Tn):(addN ns up x).map np=addN (ns.map np) up (np x):=by
 unfold addN;rw[List.getElem?_map]
 cases h:ns[up]? with
 | none=>simp
 | some u =>
  simp only[Option.map_some,List.map_append,List.map_cons,List.map_nil,List.map_set,List.length_map];rfl
theorem Sm.kd{m n:List Tn}(h:Sm m n)(t:Nat):ag m t=ag n t:=by rw[<-Dy m,<-Dy n,h]
theorem Sm.kid{m n:List Tn}(h:Sm m n)(t:Nat)(k:List UInt8):aG m t k=aG n t k:=by rw[<-LZ m,<-LZ n,h]
theorem Sm.add{m n:List Tn}(h:Sm m n)(up:Nat){x y:Tn}(hx:np x=np y):Sm (addN m up x) (addN n up y):=by
 unfold Sm;rw[wG,wG,h,hx]
theorem Sm.last{m n:List Tn}(h:Sm m n)(q:Nat):(m[q]?).map (·.ks)=(n[q]?).map (·.ks):=by
 have e:∀l:List Tn,(l[q]?).map (·.ks)=((l.map np)[q]?).map (·.ks):=fun l=>by
  rw[List.getElem?_map]
  cases l[q]?<;>rfl
 rw[e m,e n,h]
def HR(n:Nat)(x y:Rs (List (List UInt8 × Nat) × Nat)):Prop:=(∃c d,x=.error c/\y=.error d/\c.1=d.1)\/(∃j a b,x=.ok (a,n+j)/\y=.ok (b,j)/\a.map (·.1)=b.map (·.1))
structure SR(n:Nat)(x y:Sd):Prop where
 i:x.i=n+y.i
 ns:Sm x.ns y.ns
 own:x.own=y.own
 now:x.now=y.now
def LR(n:Nat)(x y:Rs Sd):Prop:=(∃c d,x=.error c/\y=.error d/\c.1=d.1)\/(∃a b,x=.ok a/\y=.ok b/\SR n a b)
open Go.RowKit
def St(A:Nat)(a1 a2 a3:Int)(a4 a5:ByteArray)(w:World):Prop:=w.cell? ⟨A,0,none⟩=some (.int .i64 a1)/\w.cell? ⟨A,1,none⟩=some (.int .i64 a2)/\w.cell? ⟨A,2,none⟩=some (.int .i64 a3)/\w.cell? ⟨A,3,none⟩=some (.string a4)/\w.cell? ⟨A,4,none⟩=some (.string a5)
theorem St.grow{A:Nat}{a1 a2 a3:Int}{a4 a5:ByteArray}{w w':World}(h:St A a1 a2 a3 a4 a5 w)(hg:w.grownBy w' none):St A a1 a2 a3 a4 a5 w' :=
 ⟨hg.cell h.1 (by simp),hg.cell h.2.1 (by simp),hg.cell h.2.2.1 (by simp),hg.cell h.2.2.2.1 (by simp),hg.cell h.2.2.2.2 (by simp)⟩
open Go.RowKit
structure En where
 nm:ByteArray
 ve:ByteArray
 dg:ByteArray
 nd:List ByteArray
def TxS(w:World)(v:Value)(L:List ByteArray):Prop:=(v=.slice none 0 0/\L=[])\/∃a cap,v=.slice (some a) L.length cap/\L.length<=cap/\∀i (hi:i<L.length),w.cell? (a.add i)=some (.string L[i])
theorem TxS.grow{w w':World}{v:Value}{L:List ByteArray}(h:TxS w v L)(hg:w.grownBy w' none):TxS w' v L:=by
 rcases h with h|⟨a,cap,h1,h2,h3⟩
 ·exact Or.inl h
 ·exact Or.inr ⟨a,cap,h1,h2,fun i hi=>hg.cell (h3 i hi) (by simp)⟩
theorem kT{w:World}{v:Value}{L:List ByteArray}(h:TxS w v L):∃o c,v=.slice o L.length c:=by
 rcases h with⟨rfl,rfl⟩|⟨a,cap,rfl,-⟩
 ·exact⟨_,_,rfl⟩
 ·exact⟨_,_,rfl⟩
def EnAt(w:World)(p:Addr)(x:En):Prop:=w.cell? p=some (.string x.nm)/\w.cell? ⟨p.block,p.off+1,none⟩=some (.string x.ve)/\w.cell? ⟨p.block,p.off+2,none⟩=some (.string x.dg)/\∃v,w.cell? ⟨p.block,p.off+3,none⟩=some v/\TxS w v x.nd
theorem EnAt.grow{w w':World}{p:Addr}{x:En}(h:EnAt w p x)(hg:w.grownBy w' none):EnAt w' p x:=by
 obtain⟨h0,h1,h2,v,h3,h4⟩:=h;exact⟨hg.cell h0 (by simp),hg.cell h1 (by simp),hg.cell h2 (by simp),v,hg.cell h3 (by simp),h4.grow hg⟩
def EnS(w:World)(v:Value)(L:List En):Prop:=(v=.slice none 0 0/\L=[])\/∃a cap,v=.slice (some a) L.length cap/\L.length<=cap/\∀i (hi:i<L.length),EnAt w (a.add (i*4)) L[i]
theorem EnS.grow{w w':World}{v:Value}{L:List En}(h:EnS w v L)(hg:w.grownBy w' none):EnS w' v L:=by
 rcases h with h|⟨a,cap,h1,h2,h3⟩
 ·exact Or.inl h
 ·exact Or.inr ⟨a,cap,h1,h2,fun i hi=>(h3 i hi).grow hg⟩
theorem wH{w:World}{v:Value}{L:List En}(h:EnS w v L):∃o c,v=.slice o L.length c:=by
 rcases h with⟨rfl,rfl⟩|⟨a,cap,rfl,-⟩
 ·exact⟨_,_,rfl⟩
 ·exact⟨_,_,rfl⟩
theorem UI{w:World}{a:Addr}{v:Value}(h:w.cell? a=some v):a.block<w.heap.size:=by
 unfold World.cell? at h
 cases hb:w.heap[a.block]? with
 | none=>rw[hb]at h;simp at h
 | some o=>exact(bz hb)
theorem Hz(a:Addr)(n k:Nat)(hk:0<k):a.add (n+k)=⟨(a.add n).block,(a.add n).off+k,none⟩:=by
 unfold Addr.add;rw[if_neg (by omega)]
 by_cases h:n=0
 ·rw[if_pos h,h];simp
 ·rw[if_neg h];simp[Nat.add_assoc]
theorem hblk(a:Addr)(k:Nat):(a.add k).block=a.block:=by unfold Addr.add;split<;>simp
theorem hbelow{B:Nat}{a w w':World}(h:Below B a w)(hB:B<=w.heap.size)(hg:w.grownBy w' none):Below B a w' :=
 ⟨hg.os.trans h.os,hg.tape.trans h.tape,hg.output.trans h.output,Nat.le_trans h.size hg.size,fun k hk=>(hg.block k (Nat.lt_of_lt_of_le hk hB) (by simp)).trans (h.block k hk)⟩
theorem pX{w w':World}(h:Below w.heap.size w w'):w.grownBy w' none:=⟨h.os,h.tape,h.output,h.size,fun k hk _=>h.block k hk⟩
def mZ(v:Value)(b:Option Nat):Prop:=∀a n c,v=.slice (some a) n c->0<n->some a.block≠b
theorem TxS.far{w w':World}{v:Value}{L:List ByteArray}{b:Option Nat}(h:TxS w v L)(hg:w.grownBy w' b)(hf:mZ v b):TxS w' v L:=by
 rcases h with h|⟨a,cap,rfl,h2,h3⟩
 ·exact Or.inl h
 ·refine Or.inr ⟨a,cap,rfl,h2,fun i hi=>?_⟩;have hb:=hf a _ _ rfl (by omega);exact hg.cell (h3 i hi) (by rw[hblk];exact hb)
theorem Dz{w:World}{a:Addr}{n c:Nat}{L:List ByteArray}(h:TxS w (.slice (some a) n c) L)(hn:0<n):a.block<w.heap.size:=by
 rcases h with⟨h,-⟩|⟨a',cap,h1,h2,h3⟩
 ·cases h
 ·cases h1
  have:=UI (h3 0 (by omega));rw[hblk]at this;exact this
theorem yE{w:World}{base:Nat}{v:Value}{L:List ByteArray}{n:Nat}(hn:n=L.length)(h:w.ownsRow base 9 1 v n (L.map Value.string)):TxS w v L:=by
 subst hn
 rcases h.2 with⟨h1,h2⟩|⟨g,cap,cur,hv,hb,hc,h3,h4,h5,h6⟩
 ·exact Or.inl ⟨h1,List.length_eq_zero_iff.1 h2⟩
 ·refine Or.inr ⟨⟨g,0,none⟩,cap,hv,h3,fun i hi=>?_⟩;have h':=h;rw[hv]at h';exact h'.cells (g:=g) rfl i _ (by rw[List.getElem?_map,List.getElem?_eq_getElem hi];rfl)
def ng(x:En)(v:Value):List Value:=[.string x.nm,.string x.ve,.string x.dg,v]
def ni(L:List En)(vs:List Value):List Value:=(List.zipWith ng L vs).flatten
theorem UJ(L:List En)(vs:List Value)(x:En)(v:Value)(h:L.length=vs.length):ni (L++[x]) (vs++[v])=ni L vs++ng x v:=by
 unfold ni;rw[List.zipWith_append h];simp
theorem DC:∀(L:List En) (vs:List Value) (h:L.length=vs.length) (i:Nat) (hi:i<L.length) (k:Nat) (u:Value),(ng L[i] (vs[i]'(by omega)))[k]?=some u->(ni L vs)[i*4+k]?=some u
 | [],vs,h,i,hi,k,u,hu=>by simp at hi
 | x :: L,[],h,i,hi,k,u,hu=>by simp at h
 | x :: L,v :: vs,h,i,hi,k,u,hu=>by
  have e:ni (x :: L) (v :: vs)=ng x v++ni L vs:=rfl;have hl:(ng x v).length=4:=rfl;rw[e]
  cases i with
  | zero =>
   simp only[List.getElem_cons_zero]at hu;have hk:k<(ng x v).length:=(List.getElem?_eq_some_iff.1 hu).1;rw[Nat.zero_mul,Nat.zero_add,List.getElem?_append_left hk];exact hu
  | succ i =>
   simp only[List.getElem_cons_succ]at hu;rw[List.getElem?_append_right (by rw[hl];omega),hl,show(i+1)*4+k-4=i*4+k by omega];exact DC L vs (by simpa using h) i (by simpa using hi) k u hu
theorem L8:(prog.info? 44).map (fun i=>(i.zero,i.size,i.bytes))=some (some (.agg #[.string ⟨#[]⟩,.string ⟨#[]⟩,.string ⟨#[]⟩,.slice none 0 0]),4,72):=by kernel_rfl
theorem Ah:(prog.info? 9).map (fun i=>(i.zero,i.size,i.bytes))=some (some (.string ⟨#[]⟩),1,16):=by kernel_rfl
theorem L9(s:En)(v:Value)(h:v.oneCell'=true):∀u∈ng s v,u.oneCell'=true:=by
 intro u hu;simp only[ng,List.mem_cons,List.not_mem_nil,or_false]at hu
 rcases hu with rfl|rfl|rfl|rfl
 ·rfl
 ·rfl
 ·rfl
 ·exact h
theorem UK(L:List ByteArray):∀u∈L.map Value.string,u.oneCell'=true:=by
 intro u hu;obtain⟨s,-,rfl⟩:=List.mem_map.1 hu;rfl
theorem UL{P:Program}{w:World}{ops:Array Oper}{rest:List Oper}{o:Oper}{a:Act}{Q:Exit->Act->World->Prop}(hgd:o.guard=none)(s x:Operand)(t:TypeId)
  (ho:o.op=.call { callee:=.builtin .append,args:=#[s,x],argTypes:=#[t,t] }) (e:TypeId) (i:TypeInfo) (ht:P.underlying t=some (.slice e)) (hi:P.info? e=some i)
  (hs:a.eval s=.slice none 0 0) (p:Option Addr) (c:Nat) (hx:a.eval x=.slice p 0 c)
  (h:wpList P ops Q rest (a.put o.dst (.slice none 0 0)) w):wpList P ops Q (o :: rest) a w:=by
 refine wpList_plain hgd fun K hK=>?_
 have hsrc:Src P i.size t (.slice p 0 c) 0 [] w:=by
  cases p with
  | none=>exact Src.ofNil w ht c
  | some ad=>exact Src.ofSlice w ht ad 0 c [] (by simp) (by intro j u hu;simp at hu) (by intro u hu;cases hu)
 have hrun:(Builtin.append_ #[t,t] o.type #[.slice none 0 0,.slice p 0 c]).run P w=.ok (.slice none 0 0) w:=by
  simp[Builtin.append_,run_underlying ht,sizeOf,typeInfo,hi,hsrc.len,hsrc.cells]
 unfold Oper.wp;simp[execOp,ho,resolve,invoke,builtin,hs,hx,hrun,Result.andThen];exact hK _ _ h
theorem UM{p:Addr}{s:En}{r:Option Nat}{w w':World}(hg:w.grownBy w' r)(hn:some p.block≠r)(h:w.cell? p=some (.string s.nm)/\w.cell? ⟨p.block,p.off+1,none⟩=some (.string s.ve)/\w.cell? ⟨p.block,p.off+2,none⟩=some (.string s.dg)):w'.cell? p=some (.string s.nm)/\w'.cell? ⟨p.block,p.off+1,none⟩=some (.string s.ve)/\w'.cell? ⟨p.block,p.off+2,none⟩=some (.string s.dg) :=
 ⟨hg.cell h.1 hn,hg.cell h.2.1 hn,hg.cell h.2.2 hn⟩
def Ai(L:List En)(w:World)(base:Nat)(vm:Value)(i:Nat):Prop:=∃vs:List Value,∃hl:vs.length=i,w.ownsRow base 44 4 vm i (ni (L.take i) vs)/\∀j (hj:j<i) (hL:j<L.length),TxS w (vs[j]'(by omega)) L[j].nd/\mZ (vs[j]'(by omega)) vm.ownBlock
theorem acN(a:Addr)(cap:Nat)(L:List En)(w:World)(hL:L.length<=1048576)(hcap:L.length<=cap)(hN:∀x∈L,x.nd.length<=1048576)(h:∀i (hi:i<L.length),EnAt w (a.add (i*4)) L[i]) :
  Calls prog 5 #[.slice (some a) L.length cap] w fun e w'=>∃v,e=.returned v/\Ai L w' w.heap.size v L.length/\Below w.heap.size w w':=by
 have HA:Hd (∀i (hi:i<L.length),EnAt w (a.add (i*4)) L[i]):=h;have HN:Hd (∀x∈L,x.nd.length<=1048576):=hN;clear h hN;have hinfo:=L8;obtain⟨i0,hi0,hii⟩:=Option.map_eq_some_iff.1 hinfo;simp only[Prod.mk.injEq]at hii;obtain⟨hz0,hz1,hzb⟩:=hii;have lI:=Ah;obtain⟨j0,hj0,hjj⟩:=Option.map_eq_some_iff.1 lI;simp only[Prod.mk.injEq]at hjj;obtain⟨hy0,hy1,hyb⟩:=hjj;clear hinfo lI;go_enter func5,ntmps5;go_wp2;go_loopw [3,4] (fun vm vi wr=>∃i:Nat,vi=.int .i64 i/\i<=L.length/\Ai L wr w.heap.size vm i/\Below w.heap.size w wr) (fun _ vi _=>L.length-(intOf vi).toNat)
 case atStart=>exact⟨0,rfl,Nat.zero_le _,⟨[],rfl,World.ownsRow_nil _ _ _ _,fun j hj=>by omega⟩,Below.refl _ _⟩
 case round =>
  obtain⟨i,rfl,hi,⟨vs,hvs,hown,hin⟩,hb⟩:=hrel
  by_cases hlt:i<L.length
  ·obtain⟨s,hs⟩:=zN (L[i]);have Mc:EnAt wr (a.add (i*4)) s:=by rw[<-hs];exact(HA.o i hlt).grow (pX hb)
   obtain⟨e0,e1,e2,sv,e3,hsv⟩:=Mc;have Bc:Hd (some (a.add (i*4)).block≠u3.ownBlock):=by
    show _≠_;intro e;have h1:=(hown.lt _ e.symm).1;have h2:=(HA.o i hlt).1;have h3:(a.add (i*4)).block<w.heap.size:=UI h2;omega
   have hnd:=HN.o s (by rw[<-hs];exact List.getElem_mem _);have H5:Hd (∀j (hj:j<i) (hL:j<L.length),TxS wr (vs[j]'(by omega)) L[j].nd/\mZ (vs[j]'(by omega)) u3.ownBlock):=hin;have iG:Hd (∀v,ni (L.take (i+1)) (vs++[v])=ni (L.take i) vs++ng s v):=fun v=>by
    rw[List.take_succ_eq_append_getElem hlt,hs];exact UJ _ _ _ _ (by rw[List.length_take,hvs];omega)
   have HS:Hd (L[i]=s):=hs;have hzz:=hb.size;have oV:Hd (TxS wr sv s.nd):=hsv;obtain⟨so,sc,rfl⟩:=kT hsv;clear hin hs hsv
   by_cases hn0:s.nd.length=0
   ·rw[hn0]at e3;go_wp2_with (first|(at_builtin;refine UL rfl _ _ 41 rfl 9 j0 underlying41 hj0 rfl _ _ rfl ?_));have hg1:wr.grownBy wr none:=ai _ _;have DD:TxS wr (.slice none 0 0) s.nd:=Or.inl ⟨rfl,List.length_eq_zero_iff.1 hn0⟩;have hf1:∀a n k,Value.slice none 0 0=.slice (some a) n k->0<n->wr.heap.size<=a.block:=fun a n k e=>by cases e
    have DF:Hd (TxS wr (.slice none 0 0) s.nd):=DD;have iM:Hd (∀a n k,Value.slice none 0 0=.slice (some a) n k->0<n->wr.heap.size<=a.block):=hf1;have E0:=hg1.cell e0 (by simp);have E1:=hg1.cell e1 (by simp);have E2:=hg1.cell e2 (by simp);have hown1:=hown.kept hg1 (by cases u3.ownBlock<;>simp);have hsz1:wr.heap.size<=wr.heap.size:=hg1.size;have hb1:Below w.heap.size w wr:=hbelow hb hzz hg1;have aB:Hd (wr.grownBy wr none):=hg1;clear e0 e1 e2 e3 DD hf1 hg1;go_wp2
    go_region_held3 (fun w'=>w'.cell? (a.add (i*4))=some (.string s.nm)/\w'.cell? ⟨(a.add (i*4)).block,(a.add (i*4)).off+1,none⟩=some (.string s.ve)/\w'.cell? ⟨(a.add (i*4)).block,(a.add (i*4)).off+2,none⟩=some (.string s.dg)) ((first|exact UM (by assumption) (by first|exact Bc.o|simp) (by assumption)|go_keep)) (first|(refine step_append_lies _ (by rfl) _ _ _ (by rfl) w.heap.size 44 i0 _ 4 72 underlying26 hi0 hz0 hz1 hzb (by rfl) (by decide) u3 i (ni (L.take i) vs) (by rfl) (hown1.drew.alloc _) _ 1 1 (ng s (.slice none 0 0)) (by rfl) (by rfl) (World.news_of_block (heap_alloc_new _ _)) (L9 s _ rfl) (by omega) (by unfold maxLen;omega) (by omega) (by simp;omega) _ rfl ?_;intro g cap1 w3 hown3 hgrow hat hlt3))
    have g2:wr.grownBy (wr.drew.alloc (.cells #[.string s.nm,.string s.ve,.string s.dg,.slice none 0 0] 44)) none:=aP (af aB.o (show wr.grownBy wr.drew none from⟨rfl,rfl,rfl,Nat.le_refl _,fun _ _ _=>rfl⟩)) _;have hb2:Below w.heap.size w wr.drew:=hbelow hb1 (Nat.le_trans hzz hsz1) ⟨rfl,rfl,rfl,Nat.le_refl _,fun _ _ _=>rfl⟩;have HB3:Hd (Below w.heap.size w w3):=(hb2.alloc (Nat.le_trans hzz hsz1) _).grown hgrow (by simp;omega) (fun q hq=>(hown.lt q hq).1);have hnew:TxS (wr.drew.alloc (.cells #[.string s.nm,.string s.ve,.string s.dg,.slice none 0 0] 44)) (.slice none 0 0) s.nd:=DF.o.grow (aP (show wr.grownBy wr.drew none from⟨rfl,rfl,rfl,Nat.le_refl _,fun _ _ _=>rfl⟩) _);have hfn:mZ (.slice none 0 0) u3.ownBlock:=fun a' n' k' e hn=>by
     have h1:=iM.o a' n' k' e hn;intro h2;have h3:=(hown.lt a'.block h2.symm).2;omega
    have far2:∀v (M:List ByteArray),TxS (wr.drew.alloc (.cells #[.string s.nm,.string s.ve,.string s.dg,.slice none 0 0] 44)) v M->(∀a' n' k',v=.slice (some a') n' k'->0<n'->a'.block<wr.heap.size)->mZ v u3.ownBlock->mZ v (some g):=fun v M h1 h2 h3 a' n' k' e hn=>by
     have h4:=h2 a' n' k' e hn
     rcases hat with h5|h5
     ·rw[<-h5];exact h3 a' n' k' e hn
     ·intro h6;injection h6 with h6
      rw[h5]at h6;simp at h6;omega
    have HR3:Hd (Ai L w3 w.heap.size (.slice (some ⟨g,0,none⟩) (i+1) cap1) (i+1)):=by
     refine⟨vs++[.slice none 0 0],by simp[hvs],?_,fun j hj hLj=>?_⟩
     ·rw[iG.o];exact hown3
     ·by_cases hji:j<i
      ·obtain⟨k1,k2⟩:=H5.o j hji hLj;have ej:(vs++[Value.slice none 0 0])[j]'(by simp;omega)=vs[j]'(by omega):=List.getElem_append_left (by omega);rw[ej];refine⟨(k1.grow g2).far hgrow k2,?_⟩;refine far2 _ _ (k1.grow g2) (fun a' n' k' e hn=>?_) k2;have:=Dz (by rw[<-e];exact k1) hn;exact Nat.lt_of_lt_of_le this hsz1
      ·have hje:j=i:=by omega
       subst hje;have ej:(vs++[Value.slice none 0 0])[j]'(by simp;omega)=.slice none 0 0:=by simp[hvs]
       rw[ej];have esj:L[j].nd=s.nd:=by rw[HS.o]
       rw[esj];exact⟨hnew.far hgrow hfn,far2 _ _ hnew (fun a' n' k' e hn=>Dz (by rw[<-e];exact DF.o) hn) hfn⟩
    clear hown3 hgrow hat hown hown1 hb hb1 hb2 hlt3 E0 E1 E2 g2 hnew hfn far2;go_wp2;go_roundw
    case rel=>exact⟨i+1,by go_num,by omega,HR3.o,HB3.o⟩
    case measure=>simp[intOf];omega
   ·obtain⟨b,rfl,hb0⟩:∃b,so=some b/\∀j (hj:j<s.nd.length),wr.cell? (b.add j)=some (.string s.nd[j]):=by
     rcases oV.o with⟨h1,h2⟩|⟨b,cp,h1,h2,h3⟩
     ·rw[h2]at hn0;exact absurd rfl hn0
     ·cases h1;exact⟨b,rfl,h3⟩
    have hnews:∀j u,(s.nd.map Value.string)[j]?=some u->wr.cell? (b.add j)=some u:=fun j u hu=>by
     obtain⟨hj,rfl⟩:=List.getElem?_eq_some_iff.1 hu;rw[List.getElem_map];exact hb0 j (by simpa using hj)
    obtain⟨nn,hnn⟩:=zN (s.nd.length);rw[hnn]at e3 hnd hn0;go_wp2_with (first|(at_builtin;refine wpList_append_lies _ rfl _ _ 41 rfl wr.heap.size 9 j0 _ 1 16 underlying41 hj0 hy0 hy1 hyb rfl (by decide) (.slice none 0 0) 0 [] rfl (World.ownsRow_nil _ _ _ _) b nn sc (s.nd.map Value.string) rfl (by rw[List.length_map,hnn,Nat.mul_one]) hnews (UK _) (by omega) (by unfold maxLen;omega) (by omega) (Nat.le_refl _) _ rfl ?_;intro g0 cap0 w1 hown0 hgrow0 Mc hlt0));simp only[Nat.zero_add]at hown0 ⊢;have hg1:wr.grownBy w1 none:=hgrow0;have DD:TxS w1 (.slice (some ⟨g0,0,none⟩) nn cap0) s.nd:=yE hnn.symm hown0;have hf1:∀a n k,Value.slice (some ⟨g0,0,none⟩) nn cap0=.slice (some a) n k->0<n->wr.heap.size<=a.block:=fun a n k e hn=>by
     rw[e]at hown0;exact(hown0.lt a.block rfl).1
    clear hown0 hgrow0 Mc hlt0 hnews hb0 hnn;have DF:Hd (TxS w1 (.slice (some ⟨g0,0,none⟩) nn cap0) s.nd):=DD;have iM:Hd (∀a n k,Value.slice (some ⟨g0,0,none⟩) nn cap0=.slice (some a) n k->0<n->wr.heap.size<=a.block):=hf1;have E0:=hg1.cell e0 (by simp);have E1:=hg1.cell e1 (by simp);have E2:=hg1.cell e2 (by simp);have hown1:=hown.kept hg1 (by cases u3.ownBlock<;>simp);have hsz1:wr.heap.size<=w1.heap.size:=hg1.size;have hb1:Below w.heap.size w w1:=hbelow hb hzz hg1;have aB:Hd (wr.grownBy w1 none):=hg1;clear e0 e1 e2 e3 DD hf1 hg1;go_wp2
    go_region_held3 (fun w'=>w'.cell? (a.add (i*4))=some (.string s.nm)/\w'.cell? ⟨(a.add (i*4)).block,(a.add (i*4)).off+1,none⟩=some (.string s.ve)/\w'.cell? ⟨(a.add (i*4)).block,(a.add (i*4)).off+2,none⟩=some (.string s.dg)) ((first|exact UM (by assumption) (by first|exact Bc.o|simp) (by assumption)|go_keep)) (first|(refine step_append_lies _ (by rfl) _ _ _ (by rfl) w.heap.size 44 i0 _ 4 72 underlying26 hi0 hz0 hz1 hzb (by rfl) (by decide) u3 i (ni (L.take i) vs) (by rfl) (hown1.drew.alloc _) _ 1 1 (ng s (.slice (some ⟨g0,0,none⟩) nn cap0)) (by rfl) (by rfl) (World.news_of_block (heap_alloc_new _ _)) (L9 s _ rfl) (by omega) (by unfold maxLen;omega) (by omega) (by simp;omega) _ rfl ?_;intro g cap1 w3 hown3 hgrow hat hlt3))
    have g2:wr.grownBy (w1.drew.alloc (.cells #[.string s.nm,.string s.ve,.string s.dg,.slice (some ⟨g0,0,none⟩) nn cap0] 44)) none:=aP (af aB.o (show w1.grownBy w1.drew none from⟨rfl,rfl,rfl,Nat.le_refl _,fun _ _ _=>rfl⟩)) _;have hb2:Below w.heap.size w w1.drew:=hbelow hb1 (Nat.le_trans hzz hsz1) ⟨rfl,rfl,rfl,Nat.le_refl _,fun _ _ _=>rfl⟩;have HB3:Hd (Below w.heap.size w w3):=(hb2.alloc (Nat.le_trans hzz hsz1) _).grown hgrow (by simp;omega) (fun q hq=>(hown.lt q hq).1);have hnew:TxS (w1.drew.alloc (.cells #[.string s.nm,.string s.ve,.string s.dg,.slice (some ⟨g0,0,none⟩) nn cap0] 44)) (.slice (some ⟨g0,0,none⟩) nn cap0) s.nd:=DF.o.grow (aP (show w1.grownBy w1.drew none from⟨rfl,rfl,rfl,Nat.le_refl _,fun _ _ _=>rfl⟩) _);have hfn:mZ (.slice (some ⟨g0,0,none⟩) nn cap0) u3.ownBlock:=fun a' n' k' e hn=>by
     have h1:=iM.o a' n' k' e hn;intro h2;have h3:=(hown.lt a'.block h2.symm).2;omega
    have far2:∀v (M:List ByteArray),TxS (w1.drew.alloc (.cells #[.string s.nm,.string s.ve,.string s.dg,.slice (some ⟨g0,0,none⟩) nn cap0] 44)) v M->(∀a' n' k',v=.slice (some a') n' k'->0<n'->a'.block<w1.heap.size)->mZ v u3.ownBlock->mZ v (some g):=fun v M h1 h2 h3 a' n' k' e hn=>by
     have h4:=h2 a' n' k' e hn
     rcases hat with h5|h5
     ·rw[<-h5];exact h3 a' n' k' e hn
     ·intro h6;injection h6 with h6
      rw[h5]at h6;simp at h6;omega
    have HR3:Hd (Ai L w3 w.heap.size (.slice (some ⟨g,0,none⟩) (i+1) cap1) (i+1)):=by
     refine⟨vs++[.slice (some ⟨g0,0,none⟩) nn cap0],by simp[hvs],?_,fun j hj hLj=>?_⟩
     ·rw[iG.o];exact hown3
     ·by_cases hji:j<i
      ·obtain⟨k1,k2⟩:=H5.o j hji hLj;have ej:(vs++[Value.slice (some ⟨g0,0,none⟩) nn cap0])[j]'(by simp;omega)=vs[j]'(by omega):=List.getElem_append_left (by omega);rw[ej];refine⟨(k1.grow g2).far hgrow k2,?_⟩;refine far2 _ _ (k1.grow g2) (fun a' n' k' e hn=>?_) k2;have:=Dz (by rw[<-e];exact k1) hn;exact Nat.lt_of_lt_of_le this hsz1
      ·have hje:j=i:=by omega
       subst hje;have ej:(vs++[Value.slice (some ⟨g0,0,none⟩) nn cap0])[j]'(by simp;omega)=.slice (some ⟨g0,0,none⟩) nn cap0:=by simp[hvs]
       rw[ej];have esj:L[j].nd=s.nd:=by rw[HS.o]
       rw[esj];exact⟨hnew.far hgrow hfn,far2 _ _ hnew (fun a' n' k' e hn=>Dz (by rw[<-e];exact DF.o) hn) hfn⟩
    clear hown3 hgrow hat hown hown1 hb hb1 hb2 hlt3 E0 E1 E2 g2 hnew hfn far2;go_wp2;go_roundw
    case rel=>exact⟨i+1,by go_num,by omega,HR3.o,HB3.o⟩
    case measure=>simp[intOf];omega
  ·have hil:i=L.length:=by omega
   subst hil;have HO:Hd (Ai L wr w.heap.size u3 L.length):=⟨vs,hvs,hown,hin⟩;have HB:Hd (Below w.heap.size w wr):=hb;clear hown hb hi hin;go_wp2;refine bodyPost_ret (results_tmp (t:=2) rfl _ _ _) rfl ⟨u3,rfl,HO.o,HB.o⟩
open Go.RowKit
theorem acO{L:List En}{w:World}{base:Nat}{v:Value}(h:Ai L w base v L.length):EnS w v L:=by
 obtain⟨vs,hl,ho,hn⟩:=h;rw[List.take_length]at ho
 rcases ho.2 with⟨h1,h2⟩|⟨g,cap,cur,hv,hb,hc,h3,h4,h5,h6⟩
 ·exact Or.inl ⟨h1,List.length_eq_zero_iff.1 h2⟩
 ·refine Or.inr ⟨⟨g,0,none⟩,cap,hv,h3,fun i hi=>?_⟩;have h':=ho;rw[hv]at h';have key:∀k u,0<k->(ng L[i] (vs[i]'(by omega)))[k]?=some u->w.cell? ⟨((⟨g,0,none⟩:Addr).add (i*4)).block,((⟨g,0,none⟩:Addr).add (i*4)).off+k,none⟩=some u:=fun k u hk hu=>by
   have:=h'.cells (g:=g) rfl (i*4+k) u (DC L vs hl.symm i hi k u hu);rw[Hz _ _ k hk]at this;exact this
  have k0:=h'.cells (g:=g) rfl (i*4+0) _ (DC L vs hl.symm i hi 0 _ rfl);exact⟨by simpa using k0,key 1 _ (by omega) rfl,key 2 _ (by omega) rfl,_,key 3 _ (by omega) rfl,(hn i hi hi).1⟩
theorem acP(sl:Value)(L:List En)(w:World)(h:EnS w sl L)(hL:L.length<=1048576)(hN:∀x∈L,x.nd.length<=1048576) :
  Calls prog 5 #[sl] w fun e w'=>∃o c,e=.returned (.slice o L.length c)/\EnS w' (.slice o L.length c) L/\w.grownBy w' none:=by
 rcases h with⟨rfl,rfl⟩|⟨a,cap,rfl,h2,h3⟩
 ·go_enter func5,ntmps5;go_wp2;go_loopw [3,4] (fun vm vi wr=>vi=.int .i64 0/\vm=.slice none 0 0/\w.grownBy wr none) (fun _ vi _=>0)
  case atStart=>exact⟨rfl,rfl,ai _ _⟩
  case round =>
   obtain⟨rfl,rfl,hb⟩:=hrel;have HB:Hd (w.grownBy wr none):=hb;clear hb;go_wp2;refine bodyPost_ret (results_tmp (t:=2) rfl _ _ _) rfl ⟨none,0,rfl,Or.inl ⟨rfl,rfl⟩,HB.o⟩
 ·refine(acN a cap L w hL h2 hN h3).mono ?_;rintro e w' ⟨v,rfl,hr,hb⟩;have h1:=acO hr;obtain⟨o,c,rfl⟩:=wH h1;exact⟨o,c,rfl,h1,pX hb⟩
theorem H6(s:ByteArray):(s.toList != s.toList)=false:=by simp
theorem acQ(v v':Value)(K:List ByteArray)(w:World)(h:TxS w v K)(h':TxS w v' K)(hK:K.length<=1048576) :
  Calls prog 21 #[v,v'] w fun e w'=>e=.returned (.bool true)/\w.grownBy w' none:=by
 have H1:Hd (TxS w v K):=h;have H2:Hd (TxS w v' K):=h';obtain⟨o,c,rfl⟩:=kT h;obtain⟨o',c',rfl⟩:=kT h';have hnn:((K.length:Int) != (K.length:Int))=false:=by simp
 clear h h';go_enter func21,ntmps21;go_wp2;go_loopw [5] (fun vi wr=>∃i:Nat,vi=.int .i64 i/\i<=K.length/\w.grownBy wr none) (fun vi _=>K.length-(intOf vi).toNat)
 case atStart=>exact⟨0,rfl,Nat.zero_le _,ai _ _⟩
 case round =>
  obtain⟨i,rfl,hi,hg⟩:=hrel;have HG:Hd (w.grownBy wr none):=hg
  by_cases hlt:i<K.length
  ·obtain⟨a,cap,e1,e2,e3⟩:∃a cap,(Value.slice o K.length c)=.slice (some a) K.length cap/\K.length<=cap/\∀j (h:j<K.length),wr.cell? (a.add j)=some (.string K[j]):=by
    rcases H1.o.grow hg with⟨h1,h2⟩|h
    ·rw[h2]at hlt;simp at hlt
    ·exact h
   obtain⟨b,cbp,f1,f2,f3⟩:∃a cap,(Value.slice o' K.length c')=.slice (some a) K.length cap/\K.length<=cap/\∀j (h:j<K.length),wr.cell? (a.add j)=some (.string K[j]):=by
    rcases H2.o.grow hg with⟨h1,h2⟩|h
    ·rw[h2]at hlt;simp at hlt
    ·exact h
   cases e1
   cases f1
   have g1:=e3 i hlt;have g2:=f3 i hlt;obtain⟨z,hz⟩:=zN (K[i]);rw[hz]at g1 g2;have hzz:=H6 z;clear e3 f3 hz hg;go_wp2;go_quiet (fail);go_wp2;go_roundw
   case rel=>exact⟨i+1,by go_num,by omega,au HG.o _⟩
   case measure=>simp[intOf];omega
  ·clear hg;have hil:i=K.length:=by omega
   go_wp2;go_ret;exact⟨rfl,HG.o⟩
theorem acR(v v':Value)(K:List En)(w:World)(h:EnS w v K)(h':EnS w v' K)(hK:K.length<=1048576)(hN:∀x∈K,x.nd.length<=1048576) :
  Calls prog 10 #[v,v'] w fun e w'=>e=.returned (.bool true)/\w.grownBy w' none:=by
 have H1:Hd (EnS w v K):=h;have H2:Hd (EnS w v' K):=h';have CS:Hd (∀x∈K,∀(u u':Value) (w:World),TxS w u x.nd->TxS w u' x.nd->Calls prog 21 #[u,u'] w fun e w'=>e=.returned (.bool true)/\w.grownBy w' none):=fun x hx u u' w h1 h2=>acQ u u' x.nd w h1 h2 (hN x hx)
 obtain⟨o,c,rfl⟩:=wH h;obtain⟨o',c',rfl⟩:=wH h';have hnn:((K.length:Int) != (K.length:Int))=false:=by simp
 clear h h' hN;go_enter func10,ntmps10;go_wp2;go_loopw [5] (fun vi wr=>∃i:Nat,vi=.int .i64 i/\i<=K.length/\w.grownBy wr none) (fun vi _=>K.length-(intOf vi).toNat)
 case atStart=>exact⟨0,rfl,Nat.zero_le _,ai _ _⟩
 case round =>
  obtain⟨i,rfl,hi,hg⟩:=hrel;have HG:Hd (w.grownBy wr none):=hg
  by_cases hlt:i<K.length
  ·obtain⟨a,cap,e1,e2,e3⟩:∃a cap,(Value.slice o K.length c)=.slice (some a) K.length cap/\K.length<=cap/\∀j (h:j<K.length),EnAt wr (a.add (j*4)) K[j]:=by
    rcases H1.o.grow hg with⟨h1,h2⟩|h
    ·rw[h2]at hlt;simp at hlt
    ·exact h
   obtain⟨b,cbp,f1,f2,f3⟩:∃a cap,(Value.slice o' K.length c')=.slice (some a) K.length cap/\K.length<=cap/\∀j (h:j<K.length),EnAt wr (a.add (j*4)) K[j]:=by
    rcases H2.o.grow hg with⟨h1,h2⟩|h
    ·rw[h2]at hlt;simp at hlt
    ·exact h
   cases e1
   cases f1
   obtain⟨g1,g2,g4,sv,g3,gn⟩:=e3 i hlt;obtain⟨k1,k2,k4,sv',k3,kn⟩:=f3 i hlt;have CSS:Hd (Calls prog 21 #[sv,sv'] wr.drew fun e w'=>e=.returned (.bool true)/\wr.drew.grownBy w' none):=CS.o K[i] (List.getElem_mem _) sv sv' wr.drew (gn.grow ⟨rfl,rfl,rfl,Nat.le_refl _,fun _ _ _=>rfl⟩) (kn.grow ⟨rfl,rfl,rfl,Nat.le_refl _,fun _ _ _=>rfl⟩);obtain⟨z1,hz1⟩:∃z,K[i].nm=z:=⟨_,rfl⟩;obtain⟨z2,hz2⟩:∃z,K[i].ve=z:=⟨_,rfl⟩;obtain⟨z4,Aj⟩:∃z,K[i].dg=z:=⟨_,rfl⟩;rw[hz1]at g1 k1;rw[hz2]at g2 k2;rw[Aj]at g4 k4;have q1:=H6 z1;have q2:=H6 z2;have q4:=H6 z4;clear e3 f3 hz1 hz2 Aj hg gn kn;go_wp2
   go_region_held3 (fun w'=>w'.cell? ⟨(a.add (i*4)).block,(a.add (i*4)).off+3,none⟩=some sv/\w'.cell? ⟨(b.add (i*4)).block,(b.add (i*4)).off+3,none⟩=some sv') ((first|exact⟨World.grownBy.cell (by assumption) (And.left (by assumption)) (by simp),World.grownBy.cell (by assumption) (And.right (by assumption)) (by simp)⟩|go_keep)) (first|(go_at_call 21;refine CSS.o.mono ?_;rintro e w1 ⟨rfl,hg1⟩))
   have hg2:wr.grownBy w1 none:=BA hg1;have aB:Hd (w.grownBy w1 none):=af HG.o hg2;have G1:=hg2.cell g1 (by simp);have G2:=hg2.cell g2 (by simp);have G4:=hg2.cell g4 (by simp);have K1:=hg2.cell k1 (by simp);have K2:=hg2.cell k2 (by simp);have K4:=hg2.cell k4 (by simp);clear hg1 hg2 g1 g2 g3 g4 k1 k2 k3 k4;go_wp2;go_quiet (fail);go_wp2;go_roundw
   case rel=>exact⟨i+1,by go_num,by omega,au aB.o _⟩
   case measure=>simp[intOf];omega
  ·clear hg;have hil:i=K.length:=by omega
   go_wp2;go_ret;exact⟨rfl,HG.o⟩
end Go.Proofs.YtmkjelchiacogaaGreatDoor
namespace Go.Proofs
open Go.Shelf
def Tryz.lays103_ren:Go.Shelf.Ren:=⟨fun|103=>96|206=>178|210=>137|n=>n,fun|22=>263|24=>169|25=>170|27=>66|28=>88|31=>41|32=>172|33=>118|35=>219|37=>69|40=>312|41=>127|42=>220|43=>218|46=>176|47=>175|48=>132|49=>351|51=>235|52=>234|53=>237|54=>236|55=>258|67=>125|69=>75|70=>68|71=>70|72=>71|73=>112|74=>49|75=>50|76=>72|77=>73|78=>161|79=>283|80=>77|81=>140|83=>74|84=>178|85=>318|86=>319|94=>165|100=>179|101=>56|102=>57|103=>171|104=>78|105=>284|106=>285|108=>328|111=>141|112=>221|114=>270|119=>313|126=>303|127=>126|128=>304|131=>59|135=>243|137=>314|138=>315|139=>316|143=>330|144=>331|145=>332|164=>143|165=>177|166=>279|167=>317|168=>320|169=>321|170=>322|171=>238|172=>239|173=>240|174=>241|175=>324|176=>325|182=>228|183=>229|188=>274|189=>275|190=>276|191=>277|192=>278|209=>326|210=>327|211=>271|212=>272|213=>273|214=>329|218=>264|219=>265|220=>266|222=>268|224=>300|225=>301|228=>297|229=>298|231=>311|232=>309|233=>310|238=>333|239=>334|240=>335|241=>336|242=>337|243=>339|244=>151|245=>340|246=>341|247=>342|248=>343|249=>344|n=>n,fun|1=>7|3=>10|4=>11|15=>12|16=>13|17=>6|18=>8|19=>9|n=>n⟩
theorem Tryz.lays103:Go.Proofs.Lays.n103 prog Tryz.lays103_ren:={
 mixed:=by kernel_rfl
 f103:=func96.trans (congrArg some (by kernel_rfl))
 f206:=func178.trans (congrArg some (by kernel_rfl))
 f210:=func137.trans (congrArg some (by kernel_rfl))
 t3:=underlying3
 a3:=isAgg3
 z3:=sizeOf3
 v3:=zeroValue3
 t4:=underlying4
 a4:=isAgg4
 z4:=sizeOf4
 v4:=zeroValue4
 t9:=underlying9
 a9:=isAgg9
 z9:=sizeOf9
 v9:=zeroValue9
 t24:=underlying169
 a24:=isAgg169
 z24:=sizeOf169
 v24:=zeroValue169 }
end Go.Proofs
namespace Go.Proofs.YtmkjelchiacogaaGreatDoor
open Go.RowKit
def sg(c:Int):Int:=if 48<=c/\c<=57 then c-48 else if 97<=c/\c<=102 then c-87 else -1
theorem acS(c:Int):0<=sg c↔(48<=c/\c<=57)\/(97<=c/\c<=102):=by unfold sg;split;omega;split;omega;omega
def okS(b:UInt8):Bool:=decide (0<=sg b.toNat)
theorem UN(b:UInt8):okS b=true↔0<=sg b.toNat:=by simp[okS]
def lX(l:List UInt8):Nat:=l.findIdx (fun b=>!okS b)
theorem UO(l:List UInt8)(k:Nat)(hk:k<l.length)(hp:∀j,(hj:j<k)->okS (l[j]'(by omega))=true)(hb:okS l[k]=false):lX l=k:=by
 unfold lX;rw[List.findIdx_eq hk];exact⟨by simp[hb],fun j hj=>by simpa using hp j hj⟩
theorem UQ(l:List UInt8)(hp:∀j,(hj:j<l.length)->okS l[j]=true):lX l=l.length:=by
 unfold lX;rw[List.findIdx_eq_length];intro x hx;obtain⟨j,hj,rfl⟩:=List.getElem_of_mem hx;simpa using hp j hj
def nT:List UInt8:=[115,104,97,50,53,54,58]
def kU(l:List UInt8):Bool:=decide (l.length=71) && (l.take 7 == nT) && (decide (lX (l.drop 7)=(l.drop 7).length))
theorem UR(s:ByteArray):(s.extract 0 7).toList=s.data.toList.take 7:=by
 rw[ByteArray.toList_eq,ByteArray.data_extract];simp
theorem acT(l:List UInt8)(hl:l.length=71)(h7:l.take 7=nT):kU l=decide (lX (l.drop 7)=(l.drop 7).length):=by
 unfold kU;rw[hl,h7];rfl
theorem acU(l:List UInt8)(k:Nat)(h7:7<=k)(hk:k<l.length)(hp:∀j,(hj:j<k)->7<=j->(hz:j<l.length)->okS l[j]=true)(hb:okS l[k]=false):decide (lX (l.drop 7)=(l.drop 7).length)=false:=by
 rw[UO (l.drop 7) (k-7) (by simp;omega) (fun j hj=>by rw[List.getElem_drop];exact hp (7+j) (by omega) (by omega) _) (by
  rw[List.getElem_drop];rw[<-hb];congr 1;congr 1;omega)]
 simp;omega
theorem acV(l:List UInt8)(hp:∀j,7<=j->(hz:j<l.length)->okS l[j]=true):decide (lX (l.drop 7)=(l.drop 7).length)=true:=by
 rw[UQ (l.drop 7) (fun j hj=>by rw[List.getElem_drop];exact hp (7+j) (by omega) _)];simp
theorem acW(l:List UInt8)(h7:¬l.take 7=nT):kU l=false:=by
 unfold kU;rw[show(l.take 7 == nT)=false from by simpa using h7];simp
theorem UT(c:Int)(w:World)(h0:0<=c)(h1:c<=255):Calls prog 70 #[.int .u8 c] w fun e w'=>e=.returned (.int .i64 (sg c))/\w'=w:=by
 go_enter func70,ntmps70;go_wp2
 all_goals go_ret
 all_goals refine⟨eX ?_,rfl⟩
 all_goals (unfold sg;first|(rw[if_pos ⟨‹_›,‹_›⟩];done)|(rw[if_neg (by omega),if_pos (by omega)];omega)|(rw[if_neg (by omega),if_neg (by omega)]))
theorem UU(c:Int)(w:World):Calls prog 138 #[.int .u8 c] w fun e w'=>e=.returned (.bool (decide (0<=sg c)))/\w'=w:=by
 go_enter func138,ntmps138;go_wp2
 all_goals go_ret
 all_goals (refine⟨bn ?_,rfl⟩;rw[Bool.eq_iff_iff];simp[acS];omega)
theorem acX(s:ByteArray)(w:World)(hs:s.size<=maxLen) :
  Calls prog 97 #[.string s] w fun e w'=>e=.returned (.int .i64 (lX s.data.toList))/\w'=w:=by
 unfold maxLen at hs;go_enter func97,ntmps97;go_wp2
 go_loop [6] (fun i=>∃k:Nat,k<=s.size/\i=.int .i64 k/\∀j,(hj:j<k)->(hz:j<s.data.toList.length)->okS s.data.toList[j]=true) (fun i=>s.size-(intOf i).toNat)
 case atStart=>exact⟨0,Nat.zero_le _,rfl,fun j hj=>absurd hj (by omega)⟩
 case round =>
  obtain⟨k,hk,rfl,hp⟩:=hrel;have HP:Hd (∀j,(hj:j<k)->(hz:j<s.data.toList.length)->okS s.data.toList[j]=true):=hp;clear hp
  by_cases hlt:k<s.size
  ·by_cases hb:0<=sg (s[k].toNat:Int)
   ·have hd:decide (0<=sg (s[k].toNat:Int))=true:=by simpa using hb
    go_wp2_with (go_at_call 138;refine(UU _ _).mono ?_;rintro e w' ⟨rfl,rfl⟩)
    go_round
    case rel =>
     refine⟨k+1,by omega,by go_num,fun j hj hz=>?_⟩
     by_cases hjk:j<k
     ·exact HP.o j hjk hz
     ·have e:j=k:=by omega
      subst e;rw[UN];exact hb
    case measure=>simp[intOf];omega
   ·have hd:decide (0<=sg (s[k].toNat:Int))=false:=by simpa using hb
    go_wp2_with (go_at_call 138;refine(UU _ _).mono ?_;rintro e w' ⟨rfl,rfl⟩);go_ret;refine⟨eX ?_,rfl⟩;rw[UO s.data.toList k (by simpa using hlt) (fun j hj=>HP.o j hj _) (by unfold okS;exact hd)]
  ·have hks:k=s.size:=by omega
   have HE:Hd (lX s.data.toList=s.size):=by
    show lX s.data.toList=s.size;rw[UQ s.data.toList (fun j hj=>HP.o j (by simp at hj;have:s.size=s.data.size:=rfl;omega) hj)];simp
   clear hks;go_wp2;go_ret;exact⟨eX (by rw[HE.o]),rfl⟩
def rD(l:List UInt8):List UInt8:=Lib.trimPrefix l nT
def DI(l:List UInt8):Bool:=Lib.hasPrefix l nT
theorem Md(s:ByteArray)(w:World):Calls prog 96 #[.string s,.string ⟨#[115,104,97,50,53,54,58]⟩] w fun e w'=>e=.returned (.tuple #[.string ⟨(rD s.data.toList).toArray⟩,.bool (DI s.data.toList)])/\w'=w :=
 Any.strings_CutPrefix Tryz.lays103 s _ w
theorem acY(l:List UInt8)(w:World)(hs:l.length<=maxLen) :
  Calls prog 97 #[.string ⟨l.toArray⟩] w fun e w'=>e=.returned (.int .i64 (lX l))/\w'=w :=
 acX ⟨l.toArray⟩ w (by simpa [ByteArray.size] using hs)
def pY(l:List UInt8):Bool:=DI l && (decide ((rD l).length=64) && decide (lX (rD l)=(rD l).length))
theorem UV(s:ByteArray)(w:World) :
  Calls prog 56 #[.string s] w fun e w'=>e=.returned (.bool (pY s.data.toList))/\w'=w:=by
 by_cases hp:DI s.data.toList=true
 ·by_cases hl:(rD s.data.toList).length=64
  ·have hl':(((rD s.data.toList).length:Int) == 64)=true:=by rw[hl];rfl
   have HE:Hd (pY s.data.toList=decide (lX (rD s.data.toList)=(rD s.data.toList).length)):=by
    show pY s.data.toList=_;unfold pY;rw[hp,hl];rfl
   have hm:(rD s.data.toList).length<=maxLen:=by unfold maxLen;omega
   clear hl;go_enter func56,ntmps56;go_wp2_with (first|(go_at_call 96;refine(Md _ _).mono ?_;rintro e w' ⟨rfl,rfl⟩)|(go_at_call 97;refine(acY _ _ hm).mono ?_;rintro e w' ⟨rfl,rfl⟩));go_ret;refine⟨bn ?_,rfl⟩;rw[HE.o,Bool.eq_iff_iff];simp;omega
  ·have hl':(((rD s.data.toList).length:Int) == 64)=false:=by simp;omega
   have HE:Hd (pY s.data.toList=false):=by
    show pY s.data.toList=_;unfold pY;rw[hp,decide_eq_false hl];rfl
   clear hl;go_enter func56,ntmps56;go_wp2_with (go_at_call 96;refine(Md _ _).mono ?_;rintro e w' ⟨rfl,rfl⟩);go_ret;exact⟨bn HE.o.symm,rfl⟩
 ·have hp':DI s.data.toList=false:=by simpa using hp
  have HE:Hd (pY s.data.toList=false):=by
   show pY s.data.toList=_;unfold pY;rw[hp'];rfl
  clear hp;go_enter func56,ntmps56;go_wp2_with (go_at_call 96;refine(Md _ _).mono ?_;rintro e w' ⟨rfl,rfl⟩);go_ret;exact⟨bn HE.o.symm,rfl⟩
theorem acZ(s:ByteArray)(w:World)(hs:s.size<=maxLen) :
  Calls prog 37 #[.string s] w fun e w'=>e=.returned (.bool (kU s.data.toList))/\w'=w:=by
 unfold maxLen at hs
 by_cases hl:s.size=71
 ·have hl':((s.size:Int) != 71)=false:=by simp;omega
  have h7:7<=s.size:=by omega
  by_cases hq:s.data.toList.take 7=nT
  ·have hq':(!(s.extract 0 7).toList == [115,104,97,50,53,54,58])=false:=by rw[UR,hq];rfl
   have HE:Hd (kU s.data.toList=decide (lX (s.data.toList.drop 7)=(s.data.toList.drop 7).length)):=acT _ (by simpa using hl) hq;clear hl hq;go_enter func37,ntmps37;go_wp2
   go_loop [3] (fun i=>∃k:Nat,7<=k/\k<=s.size/\i=.int .i64 k/\∀j,(hj:j<k)->7<=j->(hz:j<s.data.toList.length)->okS s.data.toList[j]=true) (fun i=>s.size-(intOf i).toNat)
   case atStart=>exact⟨7,by omega,h7,rfl,fun j hj h7'=>absurd hj (by omega)⟩
   case round =>
    obtain⟨k,SY,hk,rfl,hp⟩:=hrel;have HP:Hd (∀j,(hj:j<k)->7<=j->(hz:j<s.data.toList.length)->okS s.data.toList[j]=true):=hp;clear hp
    by_cases hlt:k<s.size
    ·have hb256:(s[k].toNat:Int)<=255:=by have:=s[k].toNat_lt;omega
     by_cases hb:0<=sg (s[k].toNat:Int)
     ·go_wp2_with (go_at_call 70;refine(UT _ _ (by omega) (by omega)).mono ?_;rintro e w' ⟨rfl,rfl⟩)
      go_round
      case rel =>
       refine⟨k+1,by omega,by omega,by go_num,fun j hj h7 hz=>?_⟩
       by_cases hjk:j<k
       ·exact HP.o j hjk h7 hz
       ·have e:j=k:=by omega
        subst e;rw[UN];exact hb
      case measure=>simp[intOf];omega
     ·have hbn:sg (s[k].toNat:Int)<0:=by omega
      have hd:decide (0<=sg (s[k].toNat:Int))=false:=by simpa using hb
      have HF:Hd (kU s.data.toList=false):=by
       show kU s.data.toList=false;rw[HE.o];exact acU _ k SY (by simpa using hlt) HP.o hd
      clear hb hd;go_wp2_with (go_at_call 70;refine(UT _ _ (by omega) (by omega)).mono ?_;rintro e w' ⟨rfl,rfl⟩);go_ret;exact⟨bn HF.o.symm,rfl⟩
    ·have HF:Hd (kU s.data.toList=true):=by
      show kU s.data.toList=true;rw[HE.o];exact acV _ (fun j h7 hz=>HP.o j (by simp at hz;have:s.size=s.data.size:=rfl;omega) h7 hz)
     go_wp2;go_ret;exact⟨bn HF.o.symm,rfl⟩
  ·have hq':(!(s.extract 0 7).toList == [115,104,97,50,53,54,58])=true:=by rw[UR];simpa [nT] using hq
   have HE:Hd (kU s.data.toList=false):=acW _ hq;clear hl hq;go_enter func37,ntmps37;go_wp2;go_ret;exact⟨bn HE.o.symm,rfl⟩
 ·have hl':((s.size:Int) != 71)=true:=by simp;omega
  have HE:Hd (kU s.data.toList=false):=by
   show kU s.data.toList=_;unfold kU;rw[decide_eq_false (by simpa using hl)];rfl
  clear hl;go_enter func37,ntmps37;go_wp2;go_ret;exact⟨bn HE.o.symm,rfl⟩
theorem UW(l:List UInt8):pY l=kU l:=by
 unfold pY kU DI rD Lib.trimPrefix Lib.hasPrefix
 by_cases h:l.take 7=nT
 ·have hp:List.isPrefixOf nT l=true:=by
   rw[List.isPrefixOf_iff_prefix,<-h];exact List.take_prefix _ _
  have h7:7<=l.length:=by
   have:=congrArg List.length h;simp[nT]at this;omega
  simp only[hp,if_true];rw[show nT.length=7 from rfl,h];simp only[Bool.true_and,beq_self_eq_true,Bool.and_true];congr 1;simp;omega
 ·have hp:List.isPrefixOf nT l=false:=by
   rw[Bool.eq_false_iff];intro hp;rw[List.isPrefixOf_iff_prefix]at hp;apply h;have:=List.prefix_iff_eq_take.1 hp;rw[this];rfl
  rw[hp,show(l.take 7 == nT)=false from by simpa using h];simp
open Go.RowKit
theorem oW(c:UInt8)(w:World):Calls prog 68 #[.int .u8 (c.toNat:Int)] w fun e w'=>e=.returned (.bool (aC c))/\w'=w:=by
 go_enter func68,ntmps68;go_wp2
 all_goals go_ret
 all_goals (refine⟨bn ?_,rfl⟩;rw[Bool.eq_iff_iff];unfold aC;simp;omega)
theorem UX(c:UInt8)(w:World):Calls prog 198 #[.int .u8 (c.toNat:Int)] w fun e w'=>e=.returned (.bool (aS c))/\w'=w:=by
 go_enter func198,ntmps198;go_wp2_with (go_at_call 68;refine(oW _ _).mono ?_;rintro e w' ⟨rfl,rfl⟩)
 all_goals go_ret
 all_goals (refine⟨bn ?_,rfl⟩;rw[Bool.eq_iff_iff];unfold aS;simp_all;try omega)
theorem UY(s:ByteArray)(w:World)(hs:s.size<2 ^ 62) :
  Calls prog 199 #[.string s] w fun e w'=>e=.returned (.bool (s.data.toList.all aC))/\w'=w:=by
 obtain⟨R,hR⟩:∃R,R=s.data.toList.all aC:=⟨_,rfl⟩;have HR:Hd (R=s.data.toList.all aC):=hR;rw[<-hR];clear hR;go_enter func199,ntmps199;go_wp2
 go_loop [3] (fun i=>∃k:Nat,k<=s.size/\i=.int .i64 k/\∀j,(hj:j<s.size)->j<k->aC s[j]=true) (fun i=>s.size-(intOf i).toNat)
 case atStart=>exact⟨0,Nat.zero_le _,rfl,fun j hj h=>absurd h (by omega)⟩
 case round =>
  obtain⟨k,hk,rfl,hp⟩:=hrel;have HP:Hd (∀j,(hj:j<s.size)->j<k->aC s[j]=true):=hp;clear hp
  by_cases hlt:k<s.size
  ·cases hd:aC s[k] with
   | true =>
    go_wp2_with (go_at_call 68;refine(oW _ _).mono ?_;rintro e w' ⟨rfl,rfl⟩)
    go_round
    case rel =>
     refine⟨k+1,by omega,by go_num,fun j hj hjk=>?_⟩
     by_cases hjk':j<k
     ·exact HP.o j hj hjk'
     ·have e:j=k:=by omega
      subst e;exact hd
    case measure=>simp[intOf];omega
   | false =>
    have HN:Hd (R=false):=by
     show R=false;rw[HR.o,List.all_eq_false];exact⟨s[k],List.mem_of_getElem? (jY s k hlt),by simp[hd]⟩
    go_wp2_with (go_at_call 68;refine(oW _ _).mono ?_;rintro e w' ⟨rfl,rfl⟩);go_ret;exact⟨bn HN.o.symm,rfl⟩
  ·have HN:Hd (R=true):=by
    show R=true;rw[HR.o,List.all_eq_true];intro c hc;obtain⟨j,hj,rfl⟩:=List.getElem_of_mem hc;exact HP.o j (by simpa using hj) (by simp at hj;have:s.size=s.data.size:=rfl;omega)
   clear hk;go_wp2;go_ret;exact⟨bn HN.o.symm,rfl⟩
end Go.Proofs.YtmkjelchiacogaaGreatDoor
