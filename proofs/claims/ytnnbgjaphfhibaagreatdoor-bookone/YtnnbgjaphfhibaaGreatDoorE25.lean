import Derived.Test.YtnnbgjaphfhibaaGreatDoorE18
import Derived.Test.YtnnbgjaphfhibaaGreatDoorE15
set_option linter.all false
set_option maxRecDepth 100000
set_option maxHeartbeats 0
namespace Go.Proofs.YtnnbgjaphfhibaaGreatDoor
open Go.RowKit Go.Joins
inductive Ld(ns:List Tn):Nat->Nat->Prop
 | top (p:Nat):ak ns p=0->Ld ns p 0
 | kid (p q d:Nat):ak ns q=1->q∈af ns p->Ld ns p d->Ld ns q (d+1)
structure I9(pk:Int)(x:Tn):Prop where
 par:(pk=0/\Us x.ky/\0<=x.kd/\x.kd<=5)\/(pk=1/\x.ky=[]/\(x.kd=1\/x.kd=3\/x.kd=4\/x.kd=5))\/(pk=2/\x.ky=[]/\x.kd=0)
 txt:if x.kd=3 then Us x.tx else x.tx=[]
 num:if x.kd=4 then -1000000000000000000<x.nu/\x.nu<1000000000000000000 else if x.kd=5 then x.nu=0\/x.nu=1 else x.nu=0
theorem EH{pk:Int}{k:List UInt8}{p:Nat}{z:Int}(h:(pk=0/\Us k/\(z=0\/z=2))\/(pk=2/\k=[]/\z=0)):I9 pk ⟨z,k,[],0,[],p⟩:=by
 have hz:z=0\/z=2:=by rcases h with⟨-,-,h⟩|⟨-,-,h⟩;exact h;exact Or.inl h
 refine⟨?_,?_,?_⟩
 ·rcases h with⟨h1,h2,h3⟩|⟨h1,h2,h3⟩
  ·exact Or.inl ⟨h1,h2,by show 0<=z;omega,by show z<=5;omega⟩
  ·exact Or.inr (Or.inr ⟨h1,h2,h3⟩)
 ·show if z=3 then _ else _;rw[if_neg (by omega)]
 ·show if z=4 then _ else _;rw[if_neg (by omega),if_neg (by show ¬z=5;omega)]
inductive Live(ns:List Tn):Nat->Prop
 | root:Live ns 0
 | kid (p q:Nat):Live ns p->q∈af ns p->(ak ns p=2->∀b∈af ns p,b<=q)->Live ns q
inductive kU(ns:List Tn)(a:Nat):Nat->Prop
 | self:kU ns a a
 | kid (p q:Nat):kU ns a p->q∈af ns p->kU ns a q
structure OG(n:Nat)(ns:List Tn)(up:Nat)(x:Tn):Prop where
 ks:x.ks=[]
 ky:x.ky.length<=n
 tx:x.tx.length<=n
 nu:-1000000000000000000<=x.nu/\x.nu<=1000000000000000000
 free:ak ns up=0->ah ns up x.ky=none
 two:ak ns up=2->x.kd=0
 shp:I9 (ak ns up) x
 dep:x.kd=1->∃d,d<8/\Ld ns up d
 lv:Live ns up
inductive GrT(n:Nat):List Tn->List Tn->Nat->Prop
 | refl (ns:List Tn):GrT n ns ns 0
 | add (ns ns':List Tn) (m up:Nat) (x:Tn):GrT n ns ns' m->up<ns'.length->OG n ns' up x->GrT n ns (addN ns' up x) (m+x.ky.length)
theorem GrT.trans{n:Nat}{a b:List Tn}{m:Nat}(h:GrT n a b m){c:List Tn}{m':Nat}(h':GrT n b c m'):GrT n a c (m+m'):=by
 induction h' with
 | refl=>exact h
 | add ns' m up x h1 h2 h3 ih=>rw[<-Nat.add_assoc];exact GrT.add _ _ _ _ _ ih h2 h3
theorem GrT.one{n:Nat}{ns:List Tn}{up:Nat}{x:Tn}(hu:up<ns.length)(h:OG n ns up x):GrT n ns (addN ns up x) x.ky.length:=by
 have:=GrT.add ns ns 0 up x (GrT.refl ns) hu h
 rwa [Nat.zero_add]at this
theorem GrT.len{n:Nat}{a b:List Tn}{m:Nat}(h:GrT n a b m):a.length<=b.length:=by
 induction h with
 | refl=>exact Nat.le_refl _
 | add ns' m up x h1 h2 h3 ih=>rw[bY];omega
theorem GrT.kd{n:Nat}{a b:List Tn}{m:Nat}(h:GrT n a b m){q:Nat}(hq:q<a.length):ak b q=ak a q:=by
 induction h with
 | refl=>rfl
 | add ns' m up x h1 h2 h3 ih =>
  have:=h1.len;rw[fF _ _ _ h2,if_neg (by omega)];exact ih
theorem Ld.lt{ns:List Tn}{p d:Nat}(h:Ld ns p d):p<ns.length:=by
 induction h with
 | top p h=>exact nZ h (by decide)
 | kid p q d h1 h2 h3 _=>exact nZ h1 (by decide)
theorem Ld.addN{ns:List Tn}{p d up:Nat}{x:Tn}(hu:up<ns.length)(h:Ld ns p d):Ld (addN ns up x) p d:=by
 induction h with
 | top p h=>exact Ld.top p (by rw[fF ns up x hu,if_neg (by have:=nZ h (by decide);omega)];exact h)
 | kid p q d h1 h2 h3 ih =>
  have hq:=nZ h1 (by decide);have hp:=h3.lt;refine Ld.kid p q d (by rw[fF ns up x hu,if_neg (by omega)];exact h1) ?_ ih;rw[jS ns up x hu,if_neg (by omega)];split
  ·rename_i e;rw[<-e];simp[h2]
  ·exact h2
theorem GrT.ld{n:Nat}{a b:List Tn}{m:Nat}(h:GrT n a b m){p d:Nat}(hl:Ld a p d):Ld b p d:=by
 induction h with
 | refl=>exact hl
 | add ns' m up x h1 h2 h3 ih=>exact ih.addN h2
structure Tv(n:Nat)(ns:List Tn)(S:Nat):Prop where
 lt:∀p q,q∈af ns p->q<ns.length
 gt:∀p q,q∈af ns p->p<q
 nod:∀p,(af ns p).Nodup
 kdd:∀t,ak ns t=0->KD ns t
 two:∀t q,ak ns t=2->q∈af ns t->ak ns q=0
 root:0<ns.length/\ak ns 0=0
 txt:∀x∈ns,x.ky.length<=n/\x.tx.length<=n/\-1000000000000000000<=x.nu/\x.nu<=1000000000000000000
 sum:(ns.map fun x=>x.ky.length).sum<=S
 shp:∀p q,q∈af ns p->∀x,ns[q]?=some x->I9 (ak ns p) x
 dep:∀p q,q∈af ns p->ak ns q=1->∃d,d<8/\Ld ns p d
 par:∀q,0<q->q<ns.length->∃p,q∈af ns p
 rt:∀x,ns[0]?=some x->x.ky=[]/\x.tx=[]/\x.nu=0
 uni:∀p p' q,q∈af ns p->q∈af ns p'->p=p'
 inc:∀p,(af ns p).Pairwise (· < ·)
 sep:∀p a b q,ak ns p=2->a∈af ns p->b∈af ns p->a<b->kU ns a q->q<b
theorem sD{ns:List Tn}{up:Nat}{x:Tn}(hu:up<ns.length)(hx:x.ks=[]){p q:Nat}:q∈af (addN ns up x) p↔(p=up/\q=ns.length)\/q∈af ns p:=by
 rw[jS ns up x hu,hx]
 by_cases h1:p=ns.length
 ·rw[if_pos h1,h1,zW ns _ (Nat.le_refl _)];exact⟨fun h=>(by cases h),fun h=>(by rcases h with⟨e,-⟩|h;omega;cases h)⟩
 ·rw[if_neg h1]
  by_cases h2:p=up
  ·rw[if_pos h2,h2,List.mem_append,List.mem_singleton];exact⟨fun h=>h.elim Or.inr (fun h=>Or.inl ⟨rfl,h⟩),fun h=>h.elim (fun h=>Or.inr h.2) Or.inl⟩
  ·rw[if_neg h2];exact⟨Or.inr,fun h=>h.elim (fun h=>absurd h.1 h2) id⟩
theorem Xo{ns:List Tn}{up:Nat}{x:Tn}(hu:up<ns.length)(hx:x.ks=[])(gt:∀p q,q∈af ns p->p<q){r:Nat}(h:Live ns r)(hr:r<=up\/¬ak ns up=2):Live (addN ns up x) r:=by
 induction h with
 | root=>exact Live.root
 | kid p q h1 h2 h3 ih =>
  have hg:=gt p q h2;refine Live.kid p q (ih (by omega)) ((sD hu hx).2 (Or.inr h2)) fun hk b hb=>?_
  rw[fF ns up x hu]at hk;have hp:=yM h2;rw[if_neg (by omega)]at hk
  rcases(sD hu hx).1 hb with⟨e,-⟩|hb
  ·rcases hr with hr|hr
   ·omega
   ·rw[e]at hk;exact absurd hk hr
  ·exact h3 hk b hb
theorem Bf{ns:List Tn}{up:Nat}{x:Tn}(hu:up<ns.length)(hx:x.ks=[])(gt:∀p q,q∈af ns p->p<q)(lt:∀p q,q∈af ns p->q<ns.length)(h:Live ns up):Live (addN ns up x) ns.length:=by
 refine Live.kid up _ (Xo hu hx gt h (Or.inl (Nat.le_refl _))) ((sD hu hx).2 (Or.inl ⟨rfl,rfl⟩)) fun _ b hb=>?_
 rcases(sD hu hx).1 hb with⟨-,e⟩|hb
 ·omega
 ·have:=lt _ _ hb;omega
theorem aeW{ns:List Tn}(gt:∀p q,q∈af ns p->p<q)(uni:∀p p' q,q∈af ns p->q∈af ns p'->p=p'){p a up:Nat}(hk:ak ns p=2)(ha:a∈af ns p)(h:Live ns up)(hd:kU ns a up):∀b∈af ns p,b<=a:=by
 induction h with
 | root =>
  cases hd with
  | self=>exact absurd (gt _ _ ha) (by omega)
  | kid p' _ _ h2=>exact absurd (gt _ _ h2) (by omega)
 | kid p' q h1 h2 h3 ih =>
  cases hd with
  | self =>
   have:=uni _ _ _ ha h2;subst this;exact h3 hk
  | kid p'' _ g1 g2 =>
   have:=uni _ _ _ g2 h2;subst this;exact ih g1
theorem Ja(ns:List Tn)(up:Nat)(n:Tn)(hu:up<ns.length)(p:Nat):iR (addN ns up n) p=if p=ns.length then n.ky else iR ns p:=by
 unfold iR;rw[uT ns up n hu]
 by_cases h:p=ns.length
 ·simp only[if_pos h]
 ·simp only[if_neg h]
  by_cases h2:p=up
  ·subst h2;simp only[if_true];rw[List.getElem?_eq_getElem hu]
  ·simp only[if_neg h2]
theorem aeX(ns:List Tn)(up:Nat)(x:Tn)(hu:up<ns.length):((addN ns up x).map fun y=>y.ky.length)=(ns.map fun y=>y.ky.length)++[x.ky.length]:=by
 apply List.ext_getElem?;intro i;rw[List.getElem?_map,uT ns up x hu]
 by_cases h:i=ns.length
 ·rw[if_pos h,List.getElem?_append_right (by simp[h]),h];simp
 ·rw[if_neg h]
  by_cases h2:i=up
  ·rw[if_pos h2,List.getElem?_append_left (by rw[List.length_map,h2];exact hu),List.getElem?_map,h2,List.getElem?_eq_getElem hu];rfl
  ·rw[if_neg h2]
   by_cases h3:i<ns.length
   ·rw[List.getElem?_append_left (by rw[List.length_map];exact h3),List.getElem?_map]
   ·rw[List.getElem?_eq_none (by omega),List.getElem?_append_right (by rw[List.length_map];omega)];rw[List.length_map,List.getElem?_eq_none (by simp;omega)];rfl
theorem Tv.add{n:Nat}{ns:List Tn}{S up:Nat}{x:Tn}(T:Tv n ns S)(hu:up<ns.length)(h:OG n ns up x):Tv n (addN ns up x) (S+x.ky.length) where
 lt:=fun p q hq=>by
  rw[jS ns up x hu,h.ks]at hq;rw[bY];split at hq
  ·cases hq
  ·split at hq
   ·rw[List.mem_append,List.mem_singleton]at hq
    rcases hq with hq|rfl
    ·have:=T.lt _ _ hq;omega
    ·omega
   ·have:=T.lt _ _ hq;omega
 gt:=fun p q hq=>by
  rw[jS ns up x hu,h.ks]at hq;split at hq
  ·cases hq
  ·split at hq
   ·rename_i e;rw[List.mem_append,List.mem_singleton]at hq
    rcases hq with hq|rfl
    ·rw[e];exact T.gt _ _ hq
    ·omega
   ·exact T.gt _ _ hq
 nod:=fun p=>by
  rw[jS ns up x hu,h.ks];split
  ·exact List.nodup_nil
  ·split
   ·rw[List.nodup_append];refine⟨T.nod up,by simp,fun a ha b hb hab=>?_⟩;rw[List.mem_singleton]at hb;subst hab hb;have:=T.lt _ _ ha;omega
   ·exact T.nod p
 kdd:=fun t ht=>by
  rw[fF ns up x hu]at ht;unfold KD;rw[jS ns up x hu,h.ks];split
  ·exact List.Pairwise.nil
  ·rename_i hne;rw[if_neg hne]at ht;have old:∀p,ak ns p=0->(af ns p).Pairwise fun a b=>iR (addN ns up x) a≠iR (addN ns up x) b:=fun p hp=>by
    refine List.Pairwise.imp_of_mem ?_ (T.kdd p hp);intro a b ha hb hab;have h1:=T.lt _ _ ha;have h2:=T.lt _ _ hb;rw[Ja ns up x hu,Ja ns up x hu,if_neg (by omega),if_neg (by omega)];exact hab
   split
   ·rename_i e;rw[e]at ht;rw[List.pairwise_append];refine⟨old up ht,List.pairwise_singleton _ _,fun a ha b hb=>?_⟩;rw[List.mem_singleton]at hb;subst hb;have h1:=T.lt _ _ ha;rw[Ja ns up x hu,Ja ns up x hu,if_neg (by omega),if_pos rfl,aaN h1];have hf:=h.free ht;rw[qZ,List.find?_eq_none]at hf;have:=hf a ha;unfold iQ at this;rw[List.getElem?_eq_getElem h1]at this;simpa using this
   ·exact old t ht
 two:=fun t q ht hq=>by
  rw[fF ns up x hu]at ht;rw[jS ns up x hu,h.ks]at hq;split at hq
  ·cases hq
  ·rename_i hne;rw[if_neg hne]at ht;rw[fF ns up x hu];split at hq
   ·rename_i e;rw[e]at ht;rw[List.mem_append,List.mem_singleton]at hq
    rcases hq with hq|rfl
    ·have:=T.lt _ _ hq;rw[if_neg (by omega)];exact T.two _ _ ht hq
    ·rw[if_pos rfl];exact h.two ht
   ·have:=T.lt _ _ hq;rw[if_neg (by omega)];exact T.two _ _ ht hq
 root:=by
  rw[bY,fF ns up x hu,if_neg (by have:=T.root.1;omega)];exact⟨by omega,T.root.2⟩
 txt:=fun y hy=>by
  rw[List.mem_iff_getElem?]at hy;obtain⟨i,hi⟩:=hy;rw[uT ns up x hu]at hi;split at hi
  ·cases hi
   exact⟨h.ky,h.tx,h.nu⟩
  ·split at hi
   ·cases hi
    exact T.txt ns[up] (List.getElem_mem hu)
   ·exact T.txt y (List.mem_of_getElem? hi)
 sum:=by
  rw[aeX ns up x hu,List.sum_append];have:=T.sum;simp;omega
 shp:=fun p q hq y hy=>by
  have old:∀p q y,q∈af ns p->(addN ns up x)[q]?=some y->I9 (ak ns p) y:=fun p q y hq hy=>by
   have h1:=T.lt _ _ hq;rw[uT ns up x hu,if_neg (by omega)]at hy;split at hy
   ·rename_i e;have h2:=T.shp p q hq ns[up] (by rw[e];exact List.getElem?_eq_getElem hu)
    cases hy
    exact⟨h2.par,h2.txt,h2.num⟩
   ·exact T.shp p q hq y hy
  rw[jS ns up x hu,h.ks]at hq;rw[fF ns up x hu];split at hq
  ·cases hq
  ·rename_i hne;rw[if_neg hne];split at hq
   ·rename_i e;rw[List.mem_append,List.mem_singleton]at hq
    rcases hq with hq|rfl
    ·rw[e];exact old up q y hq hy
    ·rw[uT ns up x hu,if_pos rfl]at hy
     cases hy
     rw[e];exact h.shp
   ·exact old p q y hq hy
 dep:=fun p q hq hk=>by
  rw[jS ns up x hu,h.ks]at hq;rw[fF ns up x hu]at hk;split at hq
  ·cases hq
  ·split at hq
   ·rename_i e;rw[List.mem_append,List.mem_singleton]at hq
    rcases hq with hq|rfl
    ·rw[if_neg (by have:=T.lt _ _ hq;omega)]at hk;obtain⟨d,h1,h2⟩:=T.dep up q hq hk;rw[e];exact⟨d,h1,h2.addN hu⟩
    ·rw[if_pos rfl]at hk;obtain⟨d,h1,h2⟩:=h.dep hk;rw[e];exact⟨d,h1,h2.addN hu⟩
   ·rw[if_neg (by have:=T.lt _ _ hq;omega)]at hk;obtain⟨d,h1,h2⟩:=T.dep p q hq hk;exact⟨d,h1,h2.addN hu⟩
 par:=fun q h0 hq=>by
  rw[bY]at hq
  by_cases e:q=ns.length
  ·refine⟨up,?_⟩;rw[jS ns up x hu,if_neg (by omega),if_pos rfl,e];simp
  ·obtain⟨p,hp⟩:=T.par q h0 (by omega);refine⟨p,?_⟩;rw[jS ns up x hu,if_neg (fun e2=>by rw[e2,zW ns _ (Nat.le_refl _)]at hp;cases hp)];split
   ·rename_i e2;rw[<-e2];simp[hp]
   ·exact hp
 rt:=fun y hy=>by
  have h0:=T.root.1;rw[uT ns up x hu,if_neg (by omega)]at hy;split at hy
  ·rename_i e;have h2:=T.rt ns[up] (by rw[e];exact List.getElem?_eq_getElem hu)
   cases hy
   exact h2
  ·exact T.rt y hy
 uni:=fun p p' q h1 h2=>by
  rcases(sD hu h.ks).1 h1 with⟨a1,a2⟩|a<;>rcases(sD hu h.ks).1 h2 with⟨b1,b2⟩|b
  ·rw[a1,b1]
  ·have:=T.lt _ _ b;omega
  ·have:=T.lt _ _ a;omega
  ·exact T.uni _ _ _ a b
 inc:=fun p=>by
  rw[jS ns up x hu,h.ks];split
  ·exact List.Pairwise.nil
  ·split
   ·rw[List.pairwise_append];exact⟨T.inc up,List.pairwise_singleton _ _,fun a ha b hb=>by rw[List.mem_singleton]at hb;rw[hb];exact T.lt _ _ ha⟩
   ·exact T.inc p
 sep:=fun p a b q hk ha hb hab hd=>by
  have hp:p<ns.length:=by
   have:=T.lt p
   rcases(sD hu h.ks).1 ha with⟨e,-⟩|ha
   ·omega
   ·exact yM ha
  rw[fF ns up x hu,if_neg (by omega)]at hk;have hal:a∈af ns p:=by
   rcases(sD hu h.ks).1 ha with⟨e1,e2⟩|ha
   ·exfalso
    rcases(sD hu h.ks).1 hb with⟨-,e⟩|hb
    ·omega
    ·have:=T.lt _ _ hb;omega
   ·exact ha
  have key:∀q,kU (addN ns up x) a q->(kU ns a q/\q<ns.length)\/(q=ns.length/\kU ns a up):=fun q hd=>by
   induction hd with
   | self=>exact Or.inl ⟨kU.self,T.lt _ _ hal⟩
   | kid p' q' _ g2 ih =>
    rcases(sD hu h.ks).1 g2 with⟨e1,e2⟩|g3
    ·rcases ih with⟨i1,-⟩|⟨i1,-⟩
     ·exact Or.inr ⟨e2,by rw[<-e1];exact i1⟩
     ·omega
    ·rcases ih with⟨i1,-⟩|⟨i1,-⟩
     ·exact Or.inl ⟨kU.kid _ _ i1 g3,T.lt _ _ g3⟩
     ·rw[i1,zW ns _ (Nat.le_refl _)]at g3;cases g3
  rcases(sD hu h.ks).1 hb with⟨e1,e2⟩|hbl
  ·rcases key q hd with⟨-,k2⟩|⟨k1,k2⟩
   ·omega
   ·exfalso;have hda:=k2;have hle:up<a:=by rw[<-e1];exact T.gt _ _ hal
    have:∀r,kU ns a r->a<=r:=fun r hr=>by
     induction hr with
     | self=>exact Nat.le_refl _
     | kid p' q' _ g2 ih=>have:=T.gt _ _ g2;omega
    have:=this _ hda;omega
  ·rcases key q hd with⟨k1,-⟩|⟨k1,k2⟩
   ·exact T.sep p a b q hk hal hbl hab k1
   ·have:=aeW T.gt T.uni hk hal h.lv k2 b hbl;omega
theorem GrT.tv{n:Nat}{a b:List Tn}{m S:Nat}(h:GrT n a b m)(T:Tv n a S):Tv n b (S+m):=by
 induction h with
 | refl=>exact T
 | add ns' m up x h1 h2 h3 ih=>rw[<-Nat.add_assoc];exact ih.add h2 h3
theorem Xp(n:Nat):Tv n [⟨0,[],[],0,[],0⟩] 0 where
 lt:=fun p q hq=>by
  cases p with
  | zero=>cases hq
  | succ p=>cases hq
 gt:=fun p q hq=>by
  cases p with
  | zero=>cases hq
  | succ p=>cases hq
 nod:=fun p=>by
  cases p with
  | zero=>exact List.nodup_nil
  | succ p=>exact List.nodup_nil
 kdd:=fun p _=>by
  cases p with
  | zero=>exact List.Pairwise.nil
  | succ p=>exact List.Pairwise.nil
 two:=fun p q _ hq=>by
  cases p with
  | zero=>cases hq
  | succ p=>cases hq
 root:=⟨by simp,rfl⟩
 txt:=fun x hx=>by
  rw[List.mem_singleton]at hx;subst hx;simp
 sum:=by simp
 shp:=fun p q hq=>by
  cases p with
  | zero=>cases hq
  | succ p=>cases hq
 dep:=fun p q hq=>by
  cases p with
  | zero=>cases hq
  | succ p=>cases hq
 par:=fun q h0 hq=>by
  simp at hq;omega
 rt:=fun x hx=>by
  cases hx
  exact⟨rfl,rfl,rfl⟩
 uni:=fun p p' q hq=>by
  cases p with
  | zero=>cases hq
  | succ p=>cases hq
 inc:=fun p=>by
  cases p with
  | zero=>exact List.Pairwise.nil
  | succ p=>exact List.Pairwise.nil
 sep:=fun p a b q _ ha=>by
  cases p with
  | zero=>cases ha
  | succ p=>cases ha
end Go.Proofs.YtnnbgjaphfhibaaGreatDoor
