import Derived.Test.YtnnbgjaphfhibaaGreatDoorN07
import Derived.Test.YtnnbgjaphfhibaaGreatDoorN26
import Derived.Test.YtnnbgjaphfhibaaGreatDoorN18
import Derived.Test.YtnnbgjaphfhibaaGreatDoorN29
import Derived.Test.YtnnbgjaphfhibaaGreatDoorN17
set_option linter.unusedVariables false
set_option linter.unusedSimpArgs false
set_option maxRecDepth 100000
set_option maxHeartbeats 6400000
open Go.Proofs.Tryz
namespace Go.Proofs.YtnnbgjaphfhibaaGreatDoor
open Go.RowKit Go.Joins
inductive Ld(ns:List Tn):Nat->Nat->Prop
 | top (p:Nat):aj ns p=0->Ld ns p 0
 | kid (p q d:Nat):aj ns q=1->q∈ae ns p->Ld ns p d->Ld ns q (d+1)
structure GZ(pk:Int)(x:Tn):Prop where
 par:(pk=0/\Us x.ky/\0<=x.kd/\x.kd<=5)\/(pk=1/\x.ky=[]/\(x.kd=1\/x.kd=3\/x.kd=4\/x.kd=5))\/(pk=2/\x.ky=[]/\x.kd=0)
 txt:if x.kd=3 then Us x.tx else x.tx=[]
 num:if x.kd=4 then -1000000000000000000<x.nu/\x.nu<1000000000000000000 else if x.kd=5 then x.nu=0\/x.nu=1 else x.nu=0
theorem Cc{pk:Int}{k:List UInt8}{p:Nat}{z:Int}(h:(pk=0/\Us k/\(z=0\/z=2))\/(pk=2/\k=[]/\z=0)):GZ pk ⟨z,k,[],0,[],p⟩:=by
 have hz:z=0\/z=2:=by rcases h with⟨-,-,h⟩|⟨-,-,h⟩;exact h;exact Or.inl h
 refine⟨?_,?_,?_⟩
 ·rcases h with⟨h1,h2,h3⟩|⟨h1,h2,h3⟩
  ·exact Or.inl ⟨h1,h2,by show 0<=z;omega,by show z<=5;omega⟩
  ·exact Or.inr (Or.inr ⟨h1,h2,h3⟩)
 ·show if z=3 then _ else _;rw[if_neg (by omega)]
 ·show if z=4 then _ else _;rw[if_neg (by omega),if_neg (by show ¬z=5;omega)]
inductive Live(ns:List Tn):Nat->Prop
 | root:Live ns 0
 | kid (p q:Nat):Live ns p->q∈ae ns p->(aj ns p=2->∀b∈ae ns p,b<=q)->Live ns q
inductive kE(ns:List Tn)(a:Nat):Nat->Prop
 | self:kE ns a a
 | kid (p q:Nat):kE ns a p->q∈ae ns p->kE ns a q
structure MJ(n:Nat)(ns:List Tn)(up:Nat)(x:Tn):Prop where
 ks:x.ks=[]
 ky:x.ky.length<=n
 tx:x.tx.length<=n
 nu:-1000000000000000000<=x.nu/\x.nu<=1000000000000000000
 free:aj ns up=0->ah ns up x.ky=none
 two:aj ns up=2->x.kd=0
 shp:GZ (aj ns up) x
 dep:x.kd=1->∃d,d<8/\Ld ns up d
 lv:Live ns up
inductive GrT(n:Nat):List Tn->List Tn->Nat->Prop
 | refl (ns:List Tn):GrT n ns ns 0
 | add (ns ns':List Tn) (m up:Nat) (x:Tn):GrT n ns ns' m->up<ns'.length->MJ n ns' up x->GrT n ns (addN ns' up x) (m+x.ky.length)
theorem GrT.trans{n:Nat}{a b:List Tn}{m:Nat}(h:GrT n a b m){c:List Tn}{m':Nat}(h':GrT n b c m'):GrT n a c (m+m'):=by
 induction h' with
 | refl=>exact h
 | add ns' m up x h1 h2 h3 ih=>rw[<-Nat.add_assoc];exact GrT.add _ _ _ _ _ ih h2 h3
theorem GrT.one{n:Nat}{ns:List Tn}{up:Nat}{x:Tn}(hu:up<ns.length)(h:MJ n ns up x):GrT n ns (addN ns up x) x.ky.length:=by
 have:=GrT.add ns ns 0 up x (GrT.refl ns) hu h
 rwa [Nat.zero_add]at this
theorem GrT.len{n:Nat}{a b:List Tn}{m:Nat}(h:GrT n a b m):a.length<=b.length:=by
 induction h with
 | refl=>exact Nat.le_refl _
 | add ns' m up x h1 h2 h3 ih=>rw[bZ];omega
theorem GrT.kd{n:Nat}{a b:List Tn}{m:Nat}(h:GrT n a b m){q:Nat}(hq:q<a.length):aj b q=aj a q:=by
 induction h with
 | refl=>rfl
 | add ns' m up x h1 h2 h3 ih =>
  have:=h1.len;rw[eQ _ _ _ h2,if_neg (by omega)];exact ih
theorem Ld.lt{ns:List Tn}{p d:Nat}(h:Ld ns p d):p<ns.length:=by
 induction h with
 | top p h=>exact nz h (by decide)
 | kid p q d h1 h2 h3 _=>exact nz h1 (by decide)
theorem Ld.addN{ns:List Tn}{p d up:Nat}{x:Tn}(hu:up<ns.length)(h:Ld ns p d):Ld (addN ns up x) p d:=by
 induction h with
 | top p h=>exact Ld.top p (by rw[eQ ns up x hu,if_neg (by have:=nz h (by decide);omega)];exact h)
 | kid p q d h1 h2 h3 ih =>
  have hq:=nz h1 (by decide);have hp:=h3.lt;refine Ld.kid p q d (by rw[eQ ns up x hu,if_neg (by omega)];exact h1) ?_ ih;rw[jB ns up x hu,if_neg (by omega)];split
  ·rename_i e;rw[<-e];simp[h2]
  ·exact h2
theorem GrT.ld{n:Nat}{a b:List Tn}{m:Nat}(h:GrT n a b m){p d:Nat}(hl:Ld a p d):Ld b p d:=by
 induction h with
 | refl=>exact hl
 | add ns' m up x h1 h2 h3 ih=>exact ih.addN h2
structure Tv(n:Nat)(ns:List Tn)(S:Nat):Prop where
 lt:∀p q,q∈ae ns p->q<ns.length
 gt:∀p q,q∈ae ns p->p<q
 nod:∀p,(ae ns p).Nodup
 kdd:∀t,aj ns t=0->KD ns t
 two:∀t q,aj ns t=2->q∈ae ns t->aj ns q=0
 root:0<ns.length/\aj ns 0=0
 txt:∀x∈ns,x.ky.length<=n/\x.tx.length<=n/\-1000000000000000000<=x.nu/\x.nu<=1000000000000000000
 sum:(ns.map fun x=>x.ky.length).sum<=S
 shp:∀p q,q∈ae ns p->∀x,ns[q]?=some x->GZ (aj ns p) x
 dep:∀p q,q∈ae ns p->aj ns q=1->∃d,d<8/\Ld ns p d
 par:∀q,0<q->q<ns.length->∃p,q∈ae ns p
 rt:∀x,ns[0]?=some x->x.ky=[]/\x.tx=[]/\x.nu=0
 uni:∀p p' q,q∈ae ns p->q∈ae ns p'->p=p'
 inc:∀p,(ae ns p).Pairwise (· < ·)
 sep:∀p a b q,aj ns p=2->a∈ae ns p->b∈ae ns p->a<b->kE ns a q->q<b
theorem qW{ns:List Tn}{up:Nat}{x:Tn}(hu:up<ns.length)(hx:x.ks=[]){p q:Nat}:q∈ae (addN ns up x) p↔(p=up/\q=ns.length)\/q∈ae ns p:=by
 rw[jB ns up x hu,hx]
 by_cases h1:p=ns.length
 ·rw[if_pos h1,h1,yF ns _ (Nat.le_refl _)];exact⟨fun h=>(by cases h),fun h=>(by rcases h with⟨e,-⟩|h;omega;cases h)⟩
 ·rw[if_neg h1]
  by_cases h2:p=up
  ·rw[if_pos h2,h2,List.mem_append,List.mem_singleton];exact⟨fun h=>h.elim Or.inr (fun h=>Or.inl ⟨rfl,h⟩),fun h=>h.elim (fun h=>Or.inr h.2) Or.inl⟩
  ·rw[if_neg h2];exact⟨Or.inr,fun h=>h.elim (fun h=>absurd h.1 h2) id⟩
theorem UL{ns:List Tn}{up:Nat}{x:Tn}(hu:up<ns.length)(hx:x.ks=[])(gt:∀p q,q∈ae ns p->p<q){r:Nat}(h:Live ns r)(hr:r<=up\/¬aj ns up=2):Live (addN ns up x) r:=by
 induction h with
 | root=>exact Live.root
 | kid p q h1 h2 h3 ih =>
  have hg:=gt p q h2;refine Live.kid p q (ih (by omega)) ((qW hu hx).2 (Or.inr h2)) fun hk b hb=>?_
  rw[eQ ns up x hu]at hk;have hp:=xw h2;rw[if_neg (by omega)]at hk
  rcases(qW hu hx).1 hb with⟨e,-⟩|hb
  ·rcases hr with hr|hr
   ·omega
   ·rw[e]at hk;exact absurd hk hr
  ·exact h3 hk b hb
theorem zx{ns:List Tn}{up:Nat}{x:Tn}(hu:up<ns.length)(hx:x.ks=[])(gt:∀p q,q∈ae ns p->p<q)(lt:∀p q,q∈ae ns p->q<ns.length)(h:Live ns up):Live (addN ns up x) ns.length:=by
 refine Live.kid up _ (UL hu hx gt h (Or.inl (Nat.le_refl _))) ((qW hu hx).2 (Or.inl ⟨rfl,rfl⟩)) fun _ b hb=>?_
 rcases(qW hu hx).1 hb with⟨-,e⟩|hb
 ·omega
 ·have:=lt _ _ hb;omega
theorem ab7{ns:List Tn}(gt:∀p q,q∈ae ns p->p<q)(uni:∀p p' q,q∈ae ns p->q∈ae ns p'->p=p'){p a up:Nat}(hk:aj ns p=2)(ha:a∈ae ns p)(h:Live ns up)(hd:kE ns a up):∀b∈ae ns p,b<=a:=by
 induction h with
 | root =>
  cases hd with
  | self=>exact absurd (gt _ _ ha) (by omega)
  | kid p' _ _ h2=>exact absurd (gt _ _ h2) (by omega)
 | kid p' q h1 h2 h3 ih =>
  cases hd with
  | self =>
   have:=uni _ _ _ ha h2;subst this;exact h3 hk
  | kid p'' _ g1 g2 =>
   have:=uni _ _ _ g2 h2;subst this;exact ih g1
theorem G5(ns:List Tn)(up:Nat)(n:Tn)(hu:up<ns.length)(p:Nat):ig (addN ns up n) p=if p=ns.length then n.ky else ig ns p:=by
 unfold ig;rw[tN ns up n hu]
 by_cases h:p=ns.length
 ·simp only[if_pos h]
 ·simp only[if_neg h]
  by_cases h2:p=up
  ·subst h2;simp only[if_true];rw[List.getElem?_eq_getElem hu]
  ·simp only[if_neg h2]
theorem ab8(ns:List Tn)(up:Nat)(x:Tn)(hu:up<ns.length):((addN ns up x).map fun y=>y.ky.length)=(ns.map fun y=>y.ky.length)++[x.ky.length]:=by
 apply List.ext_getElem?;intro i;rw[List.getElem?_map,tN ns up x hu]
 by_cases h:i=ns.length
 ·rw[if_pos h,List.getElem?_append_right (by simp[h]),h];simp
 ·rw[if_neg h]
  by_cases h2:i=up
  ·rw[if_pos h2,List.getElem?_append_left (by rw[List.length_map,h2];exact hu),List.getElem?_map,h2,List.getElem?_eq_getElem hu];rfl
  ·rw[if_neg h2]
   by_cases h3:i<ns.length
   ·rw[List.getElem?_append_left (by rw[List.length_map];exact h3),List.getElem?_map]
   ·rw[List.getElem?_eq_none (by omega),List.getElem?_append_right (by rw[List.length_map];omega)];rw[List.length_map,List.getElem?_eq_none (by simp;omega)];rfl
theorem Tv.add{n:Nat}{ns:List Tn}{S up:Nat}{x:Tn}(T:Tv n ns S)(hu:up<ns.length)(h:MJ n ns up x):Tv n (addN ns up x) (S+x.ky.length) where
 lt:=fun p q hq=>by
  rw[jB ns up x hu,h.ks]at hq;rw[bZ];split at hq
  ·cases hq
  ·split at hq
   ·rw[List.mem_append,List.mem_singleton]at hq
    rcases hq with hq|rfl
    ·have:=T.lt _ _ hq;omega
    ·omega
   ·have:=T.lt _ _ hq;omega
 gt:=fun p q hq=>by
  rw[jB ns up x hu,h.ks]at hq;split at hq
  ·cases hq
  ·split at hq
   ·rename_i e;rw[List.mem_append,List.mem_singleton]at hq
    rcases hq with hq|rfl
    ·rw[e];exact T.gt _ _ hq
    ·omega
   ·exact T.gt _ _ hq
 nod:=fun p=>by
  rw[jB ns up x hu,h.ks];split
  ·exact List.nodup_nil
  ·split
   ·rw[List.nodup_append];refine⟨T.nod up,by simp,fun a ha b hb hab=>?_⟩;rw[List.mem_singleton]at hb;subst hab hb;have:=T.lt _ _ ha;omega
   ·exact T.nod p
 kdd:=fun t ht=>by
  rw[eQ ns up x hu]at ht;unfold KD;rw[jB ns up x hu,h.ks];split
  ·exact List.Pairwise.nil
  ·rename_i hne;rw[if_neg hne]at ht;have old:∀p,aj ns p=0->(ae ns p).Pairwise fun a b=>ig (addN ns up x) a≠ig (addN ns up x) b:=fun p hp=>by
    refine List.Pairwise.imp_of_mem ?_ (T.kdd p hp);intro a b ha hb hab;have h1:=T.lt _ _ ha;have h2:=T.lt _ _ hb;rw[G5 ns up x hu,G5 ns up x hu,if_neg (by omega),if_neg (by omega)];exact hab
   split
   ·rename_i e;rw[e]at ht;rw[List.pairwise_append];refine⟨old up ht,List.pairwise_singleton _ _,fun a ha b hb=>?_⟩;rw[List.mem_singleton]at hb;subst hb;have h1:=T.lt _ _ ha;rw[G5 ns up x hu,G5 ns up x hu,if_neg (by omega),if_pos rfl,XO h1];have hf:=h.free ht;rw[qp,List.find?_eq_none]at hf;have:=hf a ha;unfold gK at this;rw[List.getElem?_eq_getElem h1]at this;simpa using this
   ·exact old t ht
 two:=fun t q ht hq=>by
  rw[eQ ns up x hu]at ht;rw[jB ns up x hu,h.ks]at hq;split at hq
  ·cases hq
  ·rename_i hne;rw[if_neg hne]at ht;rw[eQ ns up x hu];split at hq
   ·rename_i e;rw[e]at ht;rw[List.mem_append,List.mem_singleton]at hq
    rcases hq with hq|rfl
    ·have:=T.lt _ _ hq;rw[if_neg (by omega)];exact T.two _ _ ht hq
    ·rw[if_pos rfl];exact h.two ht
   ·have:=T.lt _ _ hq;rw[if_neg (by omega)];exact T.two _ _ ht hq
 root:=by
  rw[bZ,eQ ns up x hu,if_neg (by have:=T.root.1;omega)];exact⟨by omega,T.root.2⟩
 txt:=fun y hy=>by
  rw[List.mem_iff_getElem?]at hy;obtain⟨i,hi⟩:=hy;rw[tN ns up x hu]at hi;split at hi
  ·cases hi
   exact⟨h.ky,h.tx,h.nu⟩
  ·split at hi
   ·cases hi
    exact T.txt ns[up] (List.getElem_mem hu)
   ·exact T.txt y (List.mem_of_getElem? hi)
 sum:=by
  rw[ab8 ns up x hu,List.sum_append];have:=T.sum;simp;omega
 shp:=fun p q hq y hy=>by
  have old:∀p q y,q∈ae ns p->(addN ns up x)[q]?=some y->GZ (aj ns p) y:=fun p q y hq hy=>by
   have h1:=T.lt _ _ hq;rw[tN ns up x hu,if_neg (by omega)]at hy;split at hy
   ·rename_i e;have h2:=T.shp p q hq ns[up] (by rw[e];exact List.getElem?_eq_getElem hu)
    cases hy
    exact⟨h2.par,h2.txt,h2.num⟩
   ·exact T.shp p q hq y hy
  rw[jB ns up x hu,h.ks]at hq;rw[eQ ns up x hu];split at hq
  ·cases hq
  ·rename_i hne;rw[if_neg hne];split at hq
   ·rename_i e;rw[List.mem_append,List.mem_singleton]at hq
    rcases hq with hq|rfl
    ·rw[e];exact old up q y hq hy
    ·rw[tN ns up x hu,if_pos rfl]at hy
     cases hy
     rw[e];exact h.shp
   ·exact old p q y hq hy
 dep:=fun p q hq hk=>by
  rw[jB ns up x hu,h.ks]at hq;rw[eQ ns up x hu]at hk;split at hq
  ·cases hq
  ·split at hq
   ·rename_i e;rw[List.mem_append,List.mem_singleton]at hq
    rcases hq with hq|rfl
    ·rw[if_neg (by have:=T.lt _ _ hq;omega)]at hk;obtain⟨d,h1,h2⟩:=T.dep up q hq hk;rw[e];exact⟨d,h1,h2.addN hu⟩
    ·rw[if_pos rfl]at hk;obtain⟨d,h1,h2⟩:=h.dep hk;rw[e];exact⟨d,h1,h2.addN hu⟩
   ·rw[if_neg (by have:=T.lt _ _ hq;omega)]at hk;obtain⟨d,h1,h2⟩:=T.dep p q hq hk;exact⟨d,h1,h2.addN hu⟩
 par:=fun q h0 hq=>by
  rw[bZ]at hq
  by_cases e:q=ns.length
  ·refine⟨up,?_⟩;rw[jB ns up x hu,if_neg (by omega),if_pos rfl,e];simp
  ·obtain⟨p,hp⟩:=T.par q h0 (by omega);refine⟨p,?_⟩;rw[jB ns up x hu,if_neg (fun e2=>by rw[e2,yF ns _ (Nat.le_refl _)]at hp;cases hp)];split
   ·rename_i e2;rw[<-e2];simp[hp]
   ·exact hp
 rt:=fun y hy=>by
  have h0:=T.root.1;rw[tN ns up x hu,if_neg (by omega)]at hy;split at hy
  ·rename_i e;have h2:=T.rt ns[up] (by rw[e];exact List.getElem?_eq_getElem hu)
   cases hy
   exact h2
  ·exact T.rt y hy
 uni:=fun p p' q h1 h2=>by
  rcases(qW hu h.ks).1 h1 with⟨a1,a2⟩|a<;>rcases(qW hu h.ks).1 h2 with⟨b1,b2⟩|b
  ·rw[a1,b1]
  ·have:=T.lt _ _ b;omega
  ·have:=T.lt _ _ a;omega
  ·exact T.uni _ _ _ a b
 inc:=fun p=>by
  rw[jB ns up x hu,h.ks];split
  ·exact List.Pairwise.nil
  ·split
   ·rw[List.pairwise_append];exact⟨T.inc up,List.pairwise_singleton _ _,fun a ha b hb=>by rw[List.mem_singleton]at hb;rw[hb];exact T.lt _ _ ha⟩
   ·exact T.inc p
 sep:=fun p a b q hk ha hb hab hd=>by
  have hp:p<ns.length:=by
   have:=T.lt p
   rcases(qW hu h.ks).1 ha with⟨e,-⟩|ha
   ·omega
   ·exact xw ha
  rw[eQ ns up x hu,if_neg (by omega)]at hk;have hal:a∈ae ns p:=by
   rcases(qW hu h.ks).1 ha with⟨e1,e2⟩|ha
   ·exfalso
    rcases(qW hu h.ks).1 hb with⟨-,e⟩|hb
    ·omega
    ·have:=T.lt _ _ hb;omega
   ·exact ha
  have key:∀q,kE (addN ns up x) a q->(kE ns a q/\q<ns.length)\/(q=ns.length/\kE ns a up):=fun q hd=>by
   induction hd with
   | self=>exact Or.inl ⟨kE.self,T.lt _ _ hal⟩
   | kid p' q' _ g2 ih =>
    rcases(qW hu h.ks).1 g2 with⟨e1,e2⟩|g3
    ·rcases ih with⟨i1,-⟩|⟨i1,-⟩
     ·exact Or.inr ⟨e2,by rw[<-e1];exact i1⟩
     ·omega
    ·rcases ih with⟨i1,-⟩|⟨i1,-⟩
     ·exact Or.inl ⟨kE.kid _ _ i1 g3,T.lt _ _ g3⟩
     ·rw[i1,yF ns _ (Nat.le_refl _)]at g3;cases g3
  rcases(qW hu h.ks).1 hb with⟨e1,e2⟩|hbl
  ·rcases key q hd with⟨-,k2⟩|⟨k1,k2⟩
   ·omega
   ·exfalso;have hda:=k2;have hle:up<a:=by rw[<-e1];exact T.gt _ _ hal
    have:∀r,kE ns a r->a<=r:=fun r hr=>by
     induction hr with
     | self=>exact Nat.le_refl _
     | kid p' q' _ g2 ih=>have:=T.gt _ _ g2;omega
    have:=this _ hda;omega
  ·rcases key q hd with⟨k1,-⟩|⟨k1,k2⟩
   ·exact T.sep p a b q hk hal hbl hab k1
   ·have:=ab7 T.gt T.uni hk hal h.lv k2 b hbl;omega
theorem GrT.tv{n:Nat}{a b:List Tn}{m S:Nat}(h:GrT n a b m)(T:Tv n a S):Tv n b (S+m):=by
 induction h with
 | refl=>exact T
 | add ns' m up x h1 h2 h3 ih=>rw[<-Nat.add_assoc];exact ih.add h2 h3
theorem UM(n:Nat):Tv n [⟨0,[],[],0,[],0⟩] 0 where
 lt:=fun p q hq=>by
  cases p with
  | zero=>cases hq
  | succ p=>cases hq
 gt:=fun p q hq=>by
  cases p with
  | zero=>cases hq
  | succ p=>cases hq
 nod:=fun p=>by
  cases p with
  | zero=>exact List.nodup_nil
  | succ p=>exact List.nodup_nil
 kdd:=fun p _=>by
  cases p with
  | zero=>exact List.Pairwise.nil
  | succ p=>exact List.Pairwise.nil
 two:=fun p q _ hq=>by
  cases p with
  | zero=>cases hq
  | succ p=>cases hq
 root:=⟨by simp,rfl⟩
 txt:=fun x hx=>by
  rw[List.mem_singleton]at hx;subst hx;simp
 sum:=by simp
 shp:=fun p q hq=>by
  cases p with
  | zero=>cases hq
  | succ p=>cases hq
 dep:=fun p q hq=>by
  cases p with
  | zero=>cases hq
  | succ p=>cases hq
 par:=fun q h0 hq=>by
  simp at hq;omega
 rt:=fun x hx=>by
  cases hx
  exact⟨rfl,rfl,rfl⟩
 uni:=fun p p' q hq=>by
  cases p with
  | zero=>cases hq
  | succ p=>cases hq
 inc:=fun p=>by
  cases p with
  | zero=>exact List.Pairwise.nil
  | succ p=>exact List.Pairwise.nil
 sep:=fun p a b q _ ha=>by
  cases p with
  | zero=>cases ha
  | succ p=>cases ha
open Go.RowKit Go.Maps
theorem MK{a b:ByteArray}(h:a=b):(a.toList == b.toList)=true:=by rw[h];simp
theorem Ce{a b:ByteArray}(h:¬a=b):(a.toList == b.toList)=false:=by
 cases hb:(a.toList == b.toList) with
 | false=>rfl
 | true =>
  exfalso;apply h;have h2:a.toList=b.toList:=by simpa using hb
  rw[Lib.toList_data,Lib.toList_data]at h2;apply ByteArray.ext;exact Array.ext' h2
theorem ab9{w:World}{o:Option Addr}{c:Nat}{L:List ByteArray}(h:TxS w (.slice o L.length c) L){i:Nat}(hi:i<L.length):∃a,o=some a/\L.length<=c/\∀j (hj:j<L.length),w.cell? (a.add j)=some (.string L[j]):=by
 rcases h with⟨h1,h2⟩|⟨a,cap,h1,h2,h3⟩
 ·rw[h2]at hi;simp at hi
 ·cases h1
  exact⟨a,rfl,h2,h3⟩
theorem aca(o:Option Addr)(n c:Nat)(x:ByteArray)(L:List ByteArray)(w:World)(hn:n=L.length)(h:TxS w (.slice o n c) L)(hL:L.length<=1048576) :
  Calls prog 93 #[.slice o n c,.string x] w fun e w'=>∃k:Int,e=.returned (.int .i64 k)/\w.grownBy w' none/\(0<=k↔L.any (fun y=>decide (y=x))=true):=by
 subst hn;have H1:Hd (TxS w (.slice o L.length c) L):=h;have HN:Hd ((L.take L.length).any (fun y=>decide (y=x))=false->L.any (fun y=>decide (y=x))=false):=fun h=>by rwa [List.take_length]at h
 clear h;go_enter func93,ntmps93;go_wp2;go_loopw [8] (fun vi wr=>∃i:Nat,vi=.int .i64 i/\i<=L.length/\(L.take i).any (fun y=>decide (y=x))=false/\w.grownBy wr none) (fun vi _=>L.length-(intOf vi).toNat)
 case atStart=>exact⟨0,rfl,Nat.zero_le _,rfl,ak _ _⟩
 case round =>
  obtain⟨i,rfl,hi,hf,hg⟩:=hrel;have HF:Hd ((L.take i).any (fun y=>decide (y=x))=false):=hf;have HG:Hd (w.grownBy wr none):=hg
  by_cases hlt:i<L.length
  ·obtain⟨a,rfl,hcv,hat⟩:=ab9 (H1.o.grow hg) hlt;have e0:=hat i hlt;obtain⟨y,hy⟩:=zN (L[i]);rw[hy]at e0;have HY:Hd (L[i]=y):=hy;clear hf hg hat hy
   by_cases hxy:x=y
   ·have q:=MK hxy;have HT:Hd (L.any (fun y=>decide (y=x))=true):=by
     show _=_;rw[List.any_eq_true];exact⟨L[i],List.getElem_mem _,by rw[HY.o];simp[hxy]⟩
    clear hxy;go_wp2;go_ret;exact⟨(i:Int),rfl,HG.o,fun _=>HT.o,fun _=>by omega⟩
   ·have q:=Ce hxy;have HT:Hd ((L.take (i+1)).any (fun y=>decide (y=x))=false):=by
     show _=_;rw[List.take_succ_eq_append_getElem hlt,List.any_append,HF.o,HY.o];simp;exact fun e=>hxy e.symm
    clear hxy;go_wp2;exact⟨⟨i+1,by go_num,by omega,HT.o,HG.o⟩,by simp[intOf];omega⟩
  ·have hil:i=L.length:=by omega
   have HT:Hd (L.any (fun y=>decide (y=x))=false):=HN.o (by rw[<-hil];exact hf);clear hf hg hil hi;go_wp2;go_ret;exact⟨-1,rfl,HG.o,fun h=>by omega,fun h=>by rw[HT.o]at h;cases h⟩
theorem acb(o:Option Addr)(n c:Nat)(x:ByteArray)(L:List ByteArray)(w:World)(hn:n=L.length)(h:TxS w (.slice o n c) L)(hL:L.length<=1048576) :
  Calls prog 61 #[.slice o n c,.string x] w fun e w'=>e=.returned (.bool (L.any (fun y=>decide (y=x))))/\w.grownBy w' none:=by
 have CI:Hd (Calls prog 93 #[.slice o n c,.string x] w fun e w'=>∃k:Int,e=.returned (.int .i64 k)/\w.grownBy w' none/\(0<=k↔L.any (fun y=>decide (y=x))=true)):=aca o n c x L w hn h hL;obtain⟨q,hq⟩:=zN (L.any (fun y=>decide (y=x)));rw[hq]at CI ⊢;clear h hq hL hn
 cases q with
 | true =>
  have CJ:Hd (Calls prog 93 #[.slice o n c,.string x] w fun e w'=>(∃k:Int,e=.returned (.int .i64 k)/\0<=k)/\w.grownBy w' none):=CI.o.mono fun e w' ⟨k,h1,h2,h3⟩=>⟨⟨k,h1,h3.2 rfl⟩,h2⟩
  clear CI;go_enter func61,ntmps61;go_wp2_with (go_at_call 93;refine CJ.o.mono ?_);rintro e w1 ⟨⟨k,rfl,hk⟩,hg⟩;go_wp2;go_ret;exact⟨bV (by first|rfl|(simp;done)|(simp;omega)),hg⟩
 | false =>
  have CJ:Hd (Calls prog 93 #[.slice o n c,.string x] w fun e w'=>(∃k:Int,e=.returned (.int .i64 k)/\k<0)/\w.grownBy w' none):=CI.o.mono fun e w' ⟨k,h1,h2,h3⟩=>⟨⟨k,h1,Int.not_le.1 fun h=>by have:=h3.1 h;cases this⟩,h2⟩
  clear CI;go_enter func61,ntmps61;go_wp2_with (go_at_call 93;refine CJ.o.mono ?_);rintro e w1 ⟨⟨k,rfl,hk⟩,hg⟩;go_wp2;go_ret;exact⟨bV (by first|rfl|(simp;done)|(simp;omega)),hg⟩
theorem acd(s:ByteArray)(w:World)(hs:s.size<2 ^ 62):Calls prog 59 #[.string s] w fun e w'=>e=.returned (.bool (okV s))/\w.grownBy w' none:=by
 have CR:Hd (∀w,Calls prog 90 #[.string s] w fun e w'=>(∃(x1 x2 x3:Int) (x4 x5:ByteArray) (k:Int),e=.returned (.tuple #[.agg #[.int .i64 x1,.int .i64 x2,.int .i64 x3,.string x4,.string x5],.int .i64 (jV s.data.toList).1,.int .i64 k]))/\w.grownBy w' none):=fun w=>(parse_any s w hs).mono fun e w' ⟨h1,h2⟩=>⟨⟨_,_,_,_,_,_,h1⟩,h2⟩
 unfold okV;obtain⟨E,hE⟩:=zN ((jV s.data.toList).1);rw[hE]at CR ⊢;clear hE;have hd:decide (E=0)=(E == 0):=by rw[Bool.eq_iff_iff];simp
 rw[hd];clear hd;go_enter func59,ntmps59;go_wp2_with (go_at_call 90;refine(CR.o _).mono ?_);rintro e w1 ⟨⟨x1,x2,x3,x4,x5,k,rfl⟩,hg⟩
 cases hz:(E == 0) with
 | true =>
  go_wp2;go_ret;exact⟨bV hz.symm,dn hg _⟩
 | false =>
  go_wp2;go_ret;exact⟨bV hz.symm,dn hg _⟩
open Go.RowKit
def EntI(L:List En)(n:ByteArray)(c:Int):Prop:=(c=-1/\aW L n=false)\/∃j,∃hj:j<L.length,c=(j:Int)/\L[j].nm=n/\aW (L.take j) n=false
theorem EntI.neg{L:List En}{n:ByteArray}{c:Int}(h:EntI L n c):c<0↔aW L n=false:=by
 rcases h with⟨rfl,h⟩|⟨j,hj,rfl,h1,h2⟩
 ·exact⟨fun _=>h,fun _=>by omega⟩
 ·refine⟨fun h=>by omega,fun h=>?_⟩;have:=MB L n L.length j hj hj h1;rw[List.take_length,h]at this
  cases this
theorem EntI.lt{L:List En}{i:Nat}(hi:i<L.length){c:Int}(h:EntI L L[i].nm c):c<(i:Int)↔aW (L.take i) L[i].nm=true:=by
 rcases h with⟨rfl,h⟩|⟨j,hj,rfl,h1,h2⟩
 ·have:=MB L L[i].nm L.length i hi hi rfl;rw[List.take_length,h]at this
  cases this
 ·refine⟨fun h=>MB L _ i j hj (by omega) h1,fun h=>?_⟩;apply Classical.byContradiction;intro hn;rw[abO L _ i j (by omega) h]at h2
  cases h2
theorem ML{w:World}{o:Option Addr}{c:Nat}{L:List En}(h:EnS w (.slice o L.length c) L){i:Nat}(hi:i<L.length):∃a,o=some a/\L.length<=c/\∀j (hj:j<L.length),EnAt w (a.add (j*4)) L[j]:=by
 rcases h with⟨h1,h2⟩|⟨a,cap,h1,h2,h3⟩
 ·rw[h2]at hi;simp at hi
 ·cases h1
  exact⟨a,rfl,h2,h3⟩
theorem ace(v:Value)(L:List En)(n:ByteArray)(w:World)(h:EnS w v L)(hL:L.length<=1048576) :
  Calls prog 35 #[v,.string n] w fun e w'=>∃c:Int,e=.returned (.int .i64 c)/\EntI L n c/\w.grownBy w' none:=by
 have H1:Hd (EnS w v L):=h;obtain⟨o,c,rfl⟩:=xH h;clear h;go_enter func35,ntmps35;go_wp2;go_loopw [5] (fun vi wr=>∃i:Nat,vi=.int .i64 i/\i<=L.length/\aW (L.take i) n=false/\w.grownBy wr none) (fun vi _=>L.length-(intOf vi).toNat)
 case atStart=>exact⟨0,rfl,Nat.zero_le _,rfl,ak _ _⟩
 case round =>
  obtain⟨i,rfl,hi,hf,hg⟩:=hrel;have HF:Hd (aW (L.take i) n=false):=hf;have HG:Hd (w.grownBy wr none):=hg
  by_cases hlt:i<L.length
  ·obtain⟨a,rfl,hcv,hat⟩:=ML (H1.o.grow hg) hlt;have e0:=(hat i hlt).1;obtain⟨y,hy⟩:=zN (L[i].nm);rw[hy]at e0;have HY:Hd (L[i].nm=y):=hy;clear hf hg hat hy
   by_cases hxy:y=n
   ·have q:=MK hxy;have HT:Hd (EntI L n (i:Int)):=Or.inr ⟨i,hlt,rfl,HY.o.trans hxy,HF.o⟩;clear hxy;go_wp2;go_ret;exact⟨(i:Int),rfl,HT.o,HG.o⟩
   ·have q:=Ce hxy;have HT:Hd (aW (L.take (i+1)) n=false):=by
     show _=_;rw[Me L n i hlt,HF.o,HY.o];simp[hxy]
    clear hxy;go_wp2;exact⟨⟨i+1,by go_num,by omega,HT.o,HG.o⟩,by simp[intOf];omega⟩
  ·have hil:i=L.length:=by omega
   have HT:Hd (EntI L n (-1)):=Or.inl ⟨rfl,by rw[hil,List.take_length]at hf;exact hf⟩;clear hf hg hil hi;go_wp2;go_ret;exact⟨-1,rfl,HT.o,HG.o⟩
open Go.RowKit Go.Maps
theorem acf(x:En)(o:Option Addr)(n c B:Nat)(t:ByteArray)(w:World)(hB:w.cell? ⟨B,0,none⟩=some (.string t)) :
  Calls prog 117 #[.agg #[.string x.nm,.string x.ve,.string x.dg,.slice o n c],.pointer (some ⟨B,0,none⟩)] w fun e w'=>e=.returned (.bool (decide (x.nm=t)))/\w.grownBy w' none:=by
 have hA:=(World.grownBy_alloc w (.cells #[.string x.nm,.string x.ve,.string x.dg,.slice o n c] 33) none).cell hB (by simp);have hg:=World.grownBy_alloc w (.cells #[.string x.nm,.string x.ve,.string x.dg,.slice o n c] 33) none;have HG:Hd (w.grownBy (w.alloc (.cells #[.string x.nm,.string x.ve,.string x.dg,.slice o n c] 33)) none):=hg;clear hg
 by_cases h:x.nm=t
 ·have q:=MK h;rw[decide_eq_true h];clear h;go_enter func117,ntmps117;go_wp2;go_ret;exact⟨by first|rfl|exact bV q,HG.o⟩
 ·have q:=Ce h;rw[decide_eq_false h];clear h;go_enter func117,ntmps117;go_wp2;go_ret;exact⟨by first|rfl|exact bV q,HG.o⟩
theorem acg(o:Option Addr)(n c B:Nat)(t:ByteArray)(L:List En)(w:World)(hn:n=L.length)(h:EnS w (.slice o n c) L)(hL:L.length<=1048576)(hB:w.cell? ⟨B,0,none⟩=some (.string t)) :
  Calls prog 159 #[.slice o n c,.func (.func 117) #[] #[.pointer (some ⟨B,0,none⟩)]] w fun e w'=>∃k:Int,e=.returned (.int .i64 k)/\w.grownBy w' none/\(0<=k↔aW L t=true):=by
 subst hn;have H1:Hd (EnS w (.slice o L.length c) L):=h;have CN:Hd (∀(x:En) o' n' c' w',w.grownBy w' none->Calls prog 117 #[.agg #[.string x.nm,.string x.ve,.string x.dg,.slice o' n' c'],.pointer (some ⟨B,0,none⟩)] w' fun e w''=>e=.returned (.bool (decide (x.nm=t)))/\w'.grownBy w'' none):=fun x o' n' c' w' hg=>acf x o' n' c' B t w' (hg.cell hB (by simp))
 have HN:Hd (aW (L.take L.length) t=false->aW L t=false):=fun h=>by rwa [List.take_length]at h
 clear h hB;go_enter func159,ntmps159;go_wp2;go_loopw [8] (fun vi wr=>∃i:Nat,vi=.int .i64 i/\i<=L.length/\aW (L.take i) t=false/\w.grownBy wr none) (fun vi _=>L.length-(intOf vi).toNat)
 case atStart=>exact⟨0,rfl,Nat.zero_le _,rfl,ak _ _⟩
 case round =>
  obtain⟨i,rfl,hi,hf,hg⟩:=hrel;have HF:Hd (aW (L.take i) t=false):=hf;have HG:Hd (w.grownBy wr none):=hg
  by_cases hlt:i<L.length
  ·obtain⟨a,rfl,hcv,hat⟩:=ML (H1.o.grow hg) hlt;obtain⟨e0,e1,e2,sv,e3,hsv⟩:=hat i hlt;obtain⟨so,sc,rfl⟩:=A8 hsv;obtain⟨y,hy⟩:=zN (L[i]);rw[hy]at e0 e1 e2 e3;have HY:Hd (L[i]=y):=hy;have CY:Hd (Calls prog 117 #[.agg #[.string y.nm,.string y.ve,.string y.dg,.slice so y.nd.length sc],.pointer (some ⟨B,0,none⟩)] wr fun e w''=>e=.returned (.bool (decide (y.nm=t)))/\wr.grownBy w'' none):=CN.o y so _ sc wr hg;clear hf hg hy hsv hat
   by_cases hxy:y.nm=t
   ·rw[decide_eq_true hxy]at CY;have HT:Hd (aW L t=true):=by
     show _=_;unfold aW;rw[List.any_eq_true];exact⟨L[i],List.getElem_mem _,by rw[HY.o];simp[hxy]⟩
    clear hxy;go_wp2_with (go_at_call 117;refine CY.o.mono ?_);rintro e w2 ⟨rfl,hg2⟩;have HG2:Hd (w.grownBy w2 none):=ai HG.o hg2;clear hg2;go_wp2;go_ret;exact⟨(i:Int),rfl,HG2.o,fun _=>HT.o,fun _=>by omega⟩
   ·rw[decide_eq_false hxy]at CY;have HT:Hd (aW (L.take (i+1)) t=false):=by
     show _=_;rw[Me L t i hlt,HF.o,HY.o];simpa using hxy
    clear hxy;go_wp2_with (go_at_call 117;refine CY.o.mono ?_);rintro e w2 ⟨rfl,hg2⟩;have HG2:Hd (w.grownBy w2 none):=ai HG.o hg2;clear hg2;go_wp2;exact⟨⟨i+1,by go_num,by omega,HT.o,HG2.o⟩,by simp[intOf];omega⟩
  ·have hil:i=L.length:=by omega
   have HT:Hd (aW L t=false):=HN.o (by rw[<-hil];exact hf);clear hf hg hil hi;go_wp2;go_ret;exact⟨-1,rfl,HG.o,fun h=>by omega,fun h=>by rw[HT.o]at h;cases h⟩
theorem ach(o:Option Addr)(n c B:Nat)(t:ByteArray)(L:List En)(w:World)(hn:n=L.length)(h:EnS w (.slice o n c) L)(hL:L.length<=1048576)(hB:w.cell? ⟨B,0,none⟩=some (.string t)) :
  Calls prog 116 #[.slice o n c,.func (.func 117) #[] #[.pointer (some ⟨B,0,none⟩)]] w fun e w'=>e=.returned (.bool (aW L t))/\w.grownBy w' none:=by
 have CI:Hd (Calls prog 159 #[.slice o n c,.func (.func 117) #[] #[.pointer (some ⟨B,0,none⟩)]] w fun e w'=>∃k:Int,e=.returned (.int .i64 k)/\w.grownBy w' none/\(0<=k↔aW L t=true)):=acg o n c B t L w hn h hL hB;obtain⟨q,hq⟩:=zN (aW L t);rw[hq]at CI ⊢;clear h hq hL hn hB
 cases q with
 | true =>
  have CJ:Hd (Calls prog 159 #[.slice o n c,.func (.func 117) #[] #[.pointer (some ⟨B,0,none⟩)]] w fun e w'=>(∃k:Int,e=.returned (.int .i64 k)/\0<=k)/\w.grownBy w' none):=CI.o.mono fun e w' ⟨k,h1,h2,h3⟩=>⟨⟨k,h1,h3.2 rfl⟩,h2⟩
  clear CI;go_enter func116,ntmps116;go_wp2_with (go_at_call 159;refine CJ.o.mono ?_);rintro e w1 ⟨⟨k,rfl,hk⟩,hg⟩;go_wp2;go_ret;exact⟨bV (by first|rfl|(simp;done)|(simp;omega)),hg⟩
 | false =>
  have CJ:Hd (Calls prog 159 #[.slice o n c,.func (.func 117) #[] #[.pointer (some ⟨B,0,none⟩)]] w fun e w'=>(∃k:Int,e=.returned (.int .i64 k)/\k<0)/\w.grownBy w' none):=CI.o.mono fun e w' ⟨k,h1,h2,h3⟩=>⟨⟨k,h1,Int.not_le.1 (fun h=>by have:=h3.1 h;cases this)⟩,h2⟩
  clear CI;go_enter func116,ntmps116;go_wp2_with (go_at_call 159;refine CJ.o.mono ?_);rintro e w1 ⟨⟨k,rfl,hk⟩,hg⟩;go_wp2;go_ret;exact⟨bV (by first|rfl|(simp;done)|(simp;omega)),hg⟩
end Go.Proofs.YtnnbgjaphfhibaaGreatDoor
