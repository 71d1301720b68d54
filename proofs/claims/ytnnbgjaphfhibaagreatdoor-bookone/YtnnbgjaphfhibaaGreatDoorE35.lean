import Derived.Test.YtnnbgjaphfhibaaGreatDoorE31
import Derived.Test.YtnnbgjaphfhibaaGreatDoorE33
set_option linter.all false
set_option maxRecDepth 100000
set_option maxHeartbeats 0
namespace Go.Proofs.YtnnbgjaphfhibaaGreatDoor
open Go.RowKit Go.Joins
def dS(l:List Nat)(i:Nat):List Nat:=l.takeWhile fun q=>decide (¬q=i)
def lo(q:Nat)(l:List Nat):List Nat:=l.filter fun x=>decide (x<q)
def aP(ns:List Tn)(q:Nat):ByteArray:=match ns[q]? with|some x=>bW x|none=>⟨#[]⟩
def qP(ns:List Tn)(i:Nat):Nat:=((List.range ns.length).find? fun k=>decide (i∈af ns k)).getD 0
def wz(x:Tn):Int:=if x.ky=fM then(if ¬x.kd=4 then 7 else if ¬x.nu=1 then 3 else 0) else if x.ky=dN/\x.kd=2 then 0 else 7
def kJ(ns:List Tn)(n:ByteArray)(k:Nat):Bool:=match ah ns k bQ with|some y=>decide (aP ns y=n)|none=>false
noncomputable def lH(ns:List Tn)(all t:Nat)(x:Tn):Int :=
 if x.ky=bQ then(if takeD x nameB=0 then(if(dS (af ns all) t).any (kJ ns (bW x))=true then 5 else 0) else takeD x nameB)
 else if x.ky=dP then takeD x okV
 else if x.ky=ed then takeD x nP
 else if x.ky=cZ/\x.kd=1 then 0 else 7
noncomputable def sO(ns:List Tn)(ls i:Nat)(x:Tn):Int :=
 if takeD x nameB=0 then(if(dS (af ns ls) i).any (fun k=>decide (aP ns k=bW x))=true then 5 else if 20<=(dS (af ns ls) i).length then 4 else 0) else takeD x nameB
noncomputable def iD(ns:List Tn)(i:Nat)(x:Tn):Int :=
 if qP ns i=0 then wz x
 else if qP ns (qP ns i)=0/\ak ns (qP ns i)=2 then(if 50<=(dS (af ns (qP ns i)) i).length then 4 else 0)
 else if ak ns (qP ns i)=0 then lH ns (qP ns (qP ns i)) (qP ns i) x
 else sO ns (qP ns i) i x
noncomputable def kK(ns:List Tn):Nat->Rs Unit
 | 0=>.ok ()
 | n+1=>match ns[ns.length-(n+1)]? with
  | none=>.ok ()
  | some x=>if iD ns (ns.length-(n+1)) x=0 then kK ns n else .error (iD ns (ns.length-(n+1)) x,x.pl)
def kx(ns:List Tn)(t:Nat)(k:List UInt8):ByteArray:=match ah ns t k with|some y=>aP ns y|none=>⟨#[]⟩
def kl(ns:List Tn)(t:Nat):List Nat:=match ah ns t cZ with|some y=>af ns y|none=>[]
def iP(ns:List Tn)(t:Nat):En:=⟨kx ns t bQ,kx ns t dP,kx ns t ed,(kl ns t).map (aP ns)⟩
def jh(ns:List Tn)(t:Nat):Bool:=(ah ns t bQ).isSome && (ah ns t dP).isSome && (ah ns t ed).isSome && (ah ns t cZ).isSome
def wF(ns:List Tn)(L:List Nat):Rs (List En):=match L.find? (fun t=>!jh ns t) with
 | some t=>.error (6,iM ns t)
 | none=>match (L.flatMap (kl ns)).find? (fun y=>!aT (L.map (iP ns)) (aP ns y)) with
  | some y=>.error (6,iM ns y)
  | none=>.ok (L.map (iP ns))
noncomputable def zC(ns:List Tn):Rs (List En):=match kK ns (ns.length-1) with
 | .error e=>.error e
 | .ok _=>match ah ns 0 fM with
  | none=>.error (6,0)
  | some _=>match ah ns 0 dN with
   | none=>.ok []
   | some p=>wF ns (af ns p)
theorem uH:∀(l:List Nat) (i:Nat),l.Pairwise (· < ·)->i∈l->dS l i=lo i l
 | [],i,_,h=>by cases h
 | a :: r,i,h,hi=>by
  rw[List.pairwise_cons]at h;unfold dS lo;rw[List.takeWhile_cons,List.filter_cons]
  by_cases e:a=i
  ·rw[decide_eq_false (by simpa using e),decide_eq_false (by omega)];simp only[Bool.false_eq_true,if_false];symm;rw[List.filter_eq_nil_iff];intro b hb;have:=h.1 b hb;simp;omega
  ·have hr:i∈r:=by rcases List.mem_cons.1 hi with h1|h1;exact absurd h1.symm e;exact h1
   have:=h.1 i hr;rw[decide_eq_true (by simpa using e),decide_eq_true (by omega)];simp only[if_true];exact congrArg _ (uH r i h.2 hr)
theorem JF{q:Nat}{l:List Nat}(h:¬q∈l):lo (q+1) l=lo q l:=by
 unfold lo;apply List.filter_congr;intro x hx;have:¬x=q:=fun e=>h (e ▸ hx)
 simp;omega
theorem JG{q:Nat}:∀{l:List Nat},l.Pairwise (· < ·)->q∈l->lo (q+1) l=lo q l++[q]
 | [],_,h=>by cases h
 | a :: r,h,hq=>by
  rw[List.pairwise_cons]at h;unfold lo;rw[List.filter_cons,List.filter_cons]
  by_cases e:a=q
  ·rw[decide_eq_true (show a<q+1 by omega),decide_eq_false (show ¬a<q by omega)];simp only[if_true,Bool.false_eq_true,if_false];have e1:r.filter (fun x=>decide (x<q+1))=[]:=by rw[List.filter_eq_nil_iff];intro b hb;have:=h.1 b hb;simp;omega
   have e2:r.filter (fun x=>decide (x<q))=[]:=by rw[List.filter_eq_nil_iff];intro b hb;have:=h.1 b hb;simp;omega
   rw[e1,e2,e];rfl
  ·have hr:q∈r:=by rcases List.mem_cons.1 hq with h1|h1;exact absurd h1.symm e;exact h1
   have:=h.1 q hr;rw[decide_eq_true (show a<q+1 by omega),decide_eq_true (show a<q by omega)];simp only[if_true,List.cons_append];exact congrArg _ (JG h.2 hr)
theorem aho{q:Nat}{l:List Nat}(h:∀x∈l,x<q):lo q l=l:=by
 unfold lo;rw[List.filter_eq_self];intro x hx;simpa using h x hx
theorem YG{q:Nat}{l:List Nat}(h:∀x∈l,q<=x):lo q l=[]:=by
 unfold lo;rw[List.filter_eq_nil_iff];intro x hx;simpa using h x hx
theorem sQ{q x:Nat}{l:List Nat}:x∈lo q l↔x∈l/\x<q:=by unfold lo;rw[List.mem_filter];simp
theorem Qd{α:Type}[BEq α][LawfulBEq α]:∀(l m:List α),l.Nodup->(∀x∈l,x∈m)->l.length<=m.length
 | [],m,_,_=>Nat.zero_le _
 | a :: r,m,h,hs=>by
  rw[List.nodup_cons]at h;have h1:=Qd r (m.erase a) h.2 fun x hx=>(List.mem_erase_of_ne (fun e=>h.1 (by rw[<-e];exact hx))).2 (hs x (by simp[hx]))
  have h2:=List.length_erase_of_mem (hs a (by simp));have h3:=List.length_pos_of_mem (hs a (by simp));rw[List.length_cons];omega
section
variable {n S:Nat} {ns:List Tn}
theorem oM(T:Tv n ns S){p q:Nat}(h:q∈af ns p):qP ns q=p:=by
 unfold qP
 cases hf:(List.range ns.length).find? fun k=>decide (q∈af ns k) with
 | none =>
  rw[List.find?_eq_none]at hf;exact absurd h (by simpa using hf p (List.mem_range.2 (yM h)))
 | some k=>exact T.uni _ _ q (by simpa using List.find?_some hf) h
theorem zD(T:Tv n ns S){t y:Nat}{k:List UInt8}(ht:ak ns t=0)(hy:y∈af ns t)(hk:iR ns y=k):ah ns t k=some y:=by
 rw[qZ];have hb:∀q∈af ns t,(iQ ns k q=true↔iR ns q=k):=fun q hq=>by
  unfold iQ iR;rw[List.getElem?_eq_getElem (T.lt _ _ hq)];simp
 have key:∀l:List Nat,(∀q∈l,q∈af ns t)->l.Pairwise (fun a b=>iR ns a≠iR ns b)->y∈l->l.find? (iQ ns k)=some y:=fun l=>by
  induction l with
  | nil=>intro _ _ h;cases h
  | cons a r ih =>
   intro hl hp hm;rw[List.pairwise_cons]at hp;rw[List.find?_cons]
   by_cases e:y=a
   ·rw[<-e,(hb y hy).2 hk]
   ·have hr:y∈r:=by rcases List.mem_cons.1 hm with h|h;exact absurd h e;exact h
    have:iQ ns k a=false:=by
     rw[Bool.eq_false_iff];intro h2;exact hp.1 y hr (((hb a (hl a (by simp))).1 h2).trans hk.symm)
    rw[this];exact ih (fun q hq=>hl q (by simp[hq])) hp.2 hr
 exact key _ (fun q hq=>hq) (T.kdd t ht) hy
theorem iH{t y:Nat}{k:List UInt8}(h:ah ns t k=some y):y∈af ns t/\iR ns y=k:=by
 obtain⟨h1,h2⟩:=rq h;refine⟨h1,?_⟩;unfold iQ at h2;unfold iR
 cases hx:ns[y]? with
 | none=>rw[hx]at h2;cases h2
 | some x=>rw[hx]at h2;exact of_decide_eq_true h2
theorem JH(T:Tv n ns S){q:Nat}(h:2<ak ns q):af ns q=[]:=by
 apply List.eq_nil_iff_forall_not_mem.2;intro y hy;have:=(T.shp q y hy (ns[y]'(T.lt _ _ hy)) (List.getElem?_eq_getElem (T.lt _ _ hy))).par;omega
end
open Go.RowKit Go.Joins
def aU(ns:List Tn):List Nat:=match ah ns 0 dN with|some p=>af ns p|none=>[]
def iY(ns:List Tn)(q t:Nat)(k:List UInt8):ByteArray:=match ah ns t k with|some y=>if y<q then aP ns y else⟨#[]⟩|none=>⟨#[]⟩
def fH(ns:List Tn)(q t:Nat):En:=⟨iY ns q t bQ,iY ns q t dP,iY ns q t ed,(lo q (kl ns t)).map (aP ns)⟩
def pR(ns:List Tn)(q t:Nat):List (ByteArray × Nat):=(lo q (kl ns t)).map fun y=>(aP ns y,iM ns y)
def JI(ns:List Tn)(p:Nat)(k:Option iw):Prop:=(p=0/\k=some .root)\/(ah ns 0 dN=some p/\ak ns p=2/\k=some .tabs)\/(p∈aU ns/\k=some (.key (dS (aU ns) p).length))\/(∃t,t∈aU ns/\ah ns t cZ=some p/\ak ns p=1/\k=some (.val (dS (aU ns) t).length))
structure Sk(ns:List Tn)(q:Nat)(d:Dr):Prop where
 z:d.lk 0=none
 no:∀p i,i∈af ns p->q<=p->d.lk i=none
 kin:∀p i,i∈af ns p->p<q->JI ns p (d.lk i)
 fm:d.fm=(match ah ns 0 fM with|some i=>decide (i<q)|none=>false)
 tb:d.tb=lo q (aU ns)
 es:d.es=(lo q (aU ns)).map (fH ns q)
 wt:d.wt=(lo q (aU ns)).flatMap (pR ns q)
 le:(lo q (aU ns)).length<=50
 nl:∀t,(lo q (kl ns t)).length<=20\/¬t∈aU ns
 k4:∀t∈aU ns,∀i∈af ns t,i<q->iR ns i∈[bQ,dP,ed,cZ]
 pk:∀p,ah ns 0 dN=some p->p<q->ak ns p=2
section
variable {n S:Nat} {ns:List Tn} {q p:Nat} {d:Dr}
theorem zF{t:Nat}(h:t∈aU ns):∃p0,ah ns 0 dN=some p0/\t∈af ns p0/\p0∈af ns 0/\aU ns=af ns p0:=by
 unfold aU at h ⊢
 cases hk:ah ns 0 dN with
 | none=>rw[hk]at h;cases h
 | some p0=>rw[hk]at h;exact⟨p0,rfl,h,(iH hk).1,rfl⟩
theorem yx(T:Tv n ns S):(aU ns).Pairwise (· < ·):=by
 unfold aU;split
 ·exact T.inc _
 ·exact List.Pairwise.nil
theorem wG{t:Nat}{k:List UInt8}(h:¬iR ns q=k):iY ns (q+1) t k=iY ns q t k:=by
 unfold iY
 cases hk:ah ns t k with
 | none=>rfl
 | some y =>
  have:¬y=q:=fun e=>h (by rw[<-e];exact(iH hk).2)
  simp only[]
  by_cases h2:y<q
  ·rw[if_pos h2,if_pos (by omega)]
  ·rw[if_neg h2,if_neg (by omega)]
theorem BJ(T:Tv n ns S)(hp:q∈af ns p){t:Nat}(ht:¬t=p)(k:List UInt8):iY ns (q+1) t k=iY ns q t k:=by
 unfold iY
 cases hk:ah ns t k with
 | none=>rfl
 | some y =>
  have:¬y=q:=fun e=>ht (T.uni _ _ q (by rw[<-e];exact(iH hk).1) hp)
  simp only[]
  by_cases h2:y<q
  ·rw[if_pos h2,if_pos (by omega)]
  ·rw[if_neg h2,if_neg (by omega)]
theorem FB(T:Tv n ns S)(hp:q∈af ns p){t:Nat}(ht:¬ah ns t cZ=some p):lo (q+1) (kl ns t)=lo q (kl ns t):=by
 refine JF fun h=>ht ?_
 unfold kl at h
 cases hk:ah ns t cZ with
 | none=>rw[hk]at h;cases h
 | some y=>rw[hk]at h;rw[T.uni _ _ q h hp]
theorem JJ(T:Tv n ns S)(hp:q∈af ns p){t:Nat}(ht:¬t=p)(ht2:¬ah ns t cZ=some p):fH ns (q+1) t=fH ns q t/\pR ns (q+1) t=pR ns q t:=by
 unfold fH pR;rw[BJ T hp ht,BJ T hp ht,BJ T hp ht,FB T hp ht2];exact⟨rfl,rfl⟩
theorem BK(T:Tv n ns S){t:Nat}(h:t∈aU ns):0<t/\(∀p0,ah ns 0 dN=some p0->p0<t/\0<p0/\¬ah ns t cZ=some p0)/\∀t',t'∈aU ns->¬ah ns t' cZ=some t:=by
 obtain⟨p0,h1,h2,h3,h4⟩:=zF h;have g0:=T.gt _ _ h2;have g1:=T.gt _ _ h3;refine⟨by omega,fun p1 hp1=>?_,fun t' ht' hk=>?_⟩
 ·rw[h1]at hp1
  cases hp1
  refine⟨g0,g1,fun hk=>?_⟩;have:=T.uni _ _ _ (iH hk).1 h3;omega
 ·have:=T.uni _ _ _ (iH hk).1 h2;rw[h4]at ht';have:=T.gt _ _ ht';omega
theorem JK{f g:Nat->En}{u v:Nat->List (ByteArray × Nat)}{l:List Nat}(h:∀t∈l,f t=g t/\u t=v t):l.map f=l.map g/\l.flatMap u=l.flatMap v :=
 ⟨List.map_congr_left fun t ht=>(h t ht).1,by rw[List.flatMap,List.flatMap,List.map_congr_left fun t ht=>(h t ht).2]⟩
theorem YH(T:Tv n ns S){t:Nat}(ht:t∈aU ns)(hd:kU ns t q)(hlt:t<q)(pk:∀p,ah ns 0 dN=some p->ak ns p=2):lo q (aU ns)=dS (aU ns) t++[t]:=by
 obtain⟨p0,h1,h2,h3,h4⟩:=zF ht;rw[uH _ t (yx T) ht,<-JG (yx T) ht];unfold lo;apply List.filter_congr;intro x hx
 by_cases hx2:t<x
 ·rw[h4]at hx;have:=T.sep p0 t x q (pk p0 h1) h2 hx hx2 hd;simp;omega
 ·simp;omega
theorem Sk.next(T:Tv n ns S)(H:Sk ns q d)(hq:0<q)(d':Dr)(kp:Option iw)(hlk:∀i,d'.lk i=if i∈af ns q then kp else d.lk i)(hk:∀i∈af ns q,JI ns q kp)
  (fm:d'.fm=(match ah ns 0 fM with|some i=>decide (i<q+1)|none=>false)) (tb:d'.tb=lo (q+1) (aU ns)) (es:d'.es=(lo (q+1) (aU ns)).map (fH ns (q+1))) (wt:d'.wt=(lo (q+1) (aU ns)).flatMap (pR ns (q+1)))
  (le:(lo (q+1) (aU ns)).length<=50) (nl:∀t,(lo (q+1) (kl ns t)).length<=20\/¬t∈aU ns) (k4:∀t∈aU ns,q∈af ns t->iR ns q∈[bQ,dP,ed,cZ]) (pk:ah ns 0 dN=some q->ak ns q=2):Sk ns (q+1) d':=by
 refine⟨?_,fun p i hi hp=>?_,fun p i hi hp=>?_,fm,tb,es,wt,le,nl,fun t ht i hi hl=>?_,fun p hp hl=>?_⟩
 ·rw[hlk,if_neg (fun h=>by have:=T.gt _ _ h;omega)];exact H.z
 ·rw[hlk,if_neg (fun h=>by have:=T.uni _ _ _ h hi;omega)];exact H.no p i hi (by omega)
 ·rw[hlk]
  by_cases e:p=q
  ·rw[e]at hi;rw[if_pos hi,e];exact hk i hi
  ·rw[if_neg (fun h=>e (T.uni _ _ _ hi h))];exact H.kin p i hi (by omega)
 ·by_cases e:i=q
  ·rw[e]at hi ⊢;exact k4 t ht hi
  ·exact H.k4 t ht i hi (by omega)
 ·by_cases e:p=q
  ·rw[e]at hp ⊢;exact pk hp
  ·exact H.pk p hp (by omega)
theorem FC(h:af ns q=[])(d:Dr)(kp:Option iw):∀i,d.lk i=if i∈af ns q then kp else d.lk i:=fun i=>by rw[h,if_neg (by simp)]
theorem zG{x:Tn}{is:ByteArray->Bool}(h:takeD x is=0):x.kd=3/\is (bW x)=true:=by
 unfold takeD at h
 by_cases h3:x.kd=3
 ·rw[if_neg (by simpa using h3)]at h
  by_cases h2:is (bW x)=true
  ·exact⟨h3,h2⟩
  ·rw[if_neg h2]at h;exact absurd h (by decide)
 ·rw[if_pos h3]at h;exact absurd h (by decide)
def Goes(ns:List Tn)(q:Nat)(x:Tn)(r:Except Int Dr):Prop:=(iD ns q x=0->∃d',r=.ok d'/\Sk ns (q+1) d')/\(¬iD ns q x=0->r=.error (iD ns q x))
end
open Go.RowKit Go.Joins
section
variable {n S:Nat} {ns:List Tn} {q p:Nat} {d:Dr}
theorem sS{x:Tn}(h:ns[q]?=some x):iR ns q=x.ky/\ak ns q=x.kd/\af ns q=x.ks/\aP ns q=bW x/\iM ns q=x.pl:=by
 unfold iR ak af aP iM;rw[h];exact⟨rfl,rfl,rfl,rfl,rfl⟩
theorem Qe(T:Tv n ns S)(H:Sk ns q d)(hp:q∈af ns p)(h:∀t∈aU ns,¬ah ns t cZ=some p):∀t,(lo (q+1) (kl ns t)).length<=20\/¬t∈aU ns:=fun t=>by
 by_cases ht:t∈aU ns
 ·rw[FB T hp (h t ht)];exact H.nl t
 ·exact Or.inr ht
theorem ahp(T:Tv n ns S)(H:Sk ns q d)(hp:q∈af ns 0){x:Tn}(hx:ns[q]?=some x):Goes ns q x (eQ d q x .root):=by
 have h0:=T.gt _ _ hp;obtain⟨k1,k2,k3,-,-⟩:=sS hx;have hN:iD ns q x=wz x:=by unfold iD;rw[oM T hp,if_pos rfl]
 have hnt:∀t∈aU ns,¬t=0/\¬ah ns t cZ=some 0:=fun t ht=>⟨by have:=(BK T ht).1;omega,fun hk=>by have:=T.gt _ _ (iH hk).1;omega⟩
 have hout:¬q∈aU ns:=fun h=>by
  obtain⟨p0,-,h2,h3,-⟩:=zF h;have e1:=T.uni _ _ _ h2 hp;have:=T.gt _ _ h3;omega
 have hsame:=JK (l:=lo q (aU ns)) (fun t ht=>JJ T hp (hnt t (sQ.1 ht).1).1 (hnt t (sQ.1 ht).1).2);have hlo:=JF hout;have fin:∀(d':Dr) (kp:Option iw),(∀i,d'.lk i=if i∈af ns q then kp else d.lk i)->(∀i∈af ns q,JI ns q kp)->d'.fm=(match ah ns 0 fM with|some i=>decide (i<q+1)|none=>false)->d'.tb=d.tb->d'.es=d.es->d'.wt=d.wt->(ah ns 0 dN=some q->ak ns q=2)->Sk ns (q+1) d':=fun d' kp a b c e f g i =>
  H.next T h0 d' kp a b c (by rw[e,hlo];exact H.tb) (by rw[f,hlo,hsame.1];exact H.es) (by rw[g,hlo,hsame.2];exact H.wt) (by rw[hlo];exact H.le) (Qe T H hp fun t ht=>(hnt t ht).2) (fun t ht kz=>absurd (T.uni _ _ _ kz hp) (hnt t ht).1) i
 have kf:¬iR ns q=fM->(match ah ns 0 fM with|some i=>decide (i<q+1)|none=>false)=d.fm:=fun hne=>by
  rw[H.fm]
  cases hk:ah ns 0 fM with
  | none=>rfl
  | some i =>
   have:¬i=q:=fun e=>hne (by rw[<-e];exact(iH hk).2)
   simp only[]
   by_cases h2:i<q
   ·rw[decide_eq_true h2,decide_eq_true (by omega)]
   ·rw[decide_eq_false h2,decide_eq_false (by omega)]
 unfold Goes;rw[hN];unfold wz eQ;simp only[]
 by_cases e1:x.ky=fM
 ·rw[if_pos e1,if_pos e1]
  by_cases e2:x.kd=4
  ·rw[if_neg (show ¬¬x.kd=4 by simpa using e2),if_neg (show ¬¬x.kd=4 by simpa using e2)]
   by_cases e3:x.nu=1
   ·rw[if_neg (show ¬¬x.nu=1 by simpa using e3),if_neg (show ¬¬x.nu=1 by simpa using e3)];refine⟨fun _=>⟨_,rfl,fin _ none (FC (JH T (by rw[k2,e2];decide)) _ _) (fun i hi=>by rw[JH T (by rw[k2,e2];decide)]at hi;cases hi) ?_ rfl rfl rfl fun hk=>?_⟩,fun h=>absurd rfl h⟩
    ·rw[zD T T.root.2 hp (k1.trans e1)];exact(decide_eq_true (by omega)).symm
    ·have:=(iH hk).2;rw[k1,e1]at this;exact absurd this (by decide)
   ·rw[if_pos e3,if_pos e3];exact⟨fun h=>absurd h (by decide),fun _=>rfl⟩
  ·rw[if_pos e2,if_pos e2];exact⟨fun h=>absurd h (by decide),fun _=>rfl⟩
 ·rw[if_neg e1,if_neg e1]
  by_cases e2:x.ky=dN/\x.kd=2
  ·rw[if_pos e2,if_pos e2];have hpk:=zD T T.root.2 hp (k1.trans e2.1);exact⟨fun _=>⟨_,rfl,fin _ (some .tabs) (fun i=>by rw[k3];rfl) (fun i _=>Or.inr (Or.inl ⟨hpk,by rw[k2,e2.2],rfl⟩)) (kf (by rw[k1];exact e1)).symm rfl rfl rfl fun _=>by rw[k2,e2.2]⟩,fun h=>absurd rfl h⟩
  ·rw[if_neg e2,if_neg e2];exact⟨fun h=>absurd h (by decide),fun _=>rfl⟩
theorem Qg(T:Tv n ns S)(H:Sk ns q d)(hp:q∈af ns p)(h0:0<p):(match ah ns 0 fM with|some i=>decide (i<q+1)|none=>false)=d.fm:=by
 rw[H.fm]
 cases hk:ah ns 0 fM with
 | none=>rfl
 | some i =>
  have:¬i=q:=fun e=>by have:=T.uni _ _ _ (iH hk).1 (by rw[e];exact hp);omega
  simp only[]
  by_cases h2:i<q
  ·rw[decide_eq_true h2,decide_eq_true (by omega)]
  ·rw[decide_eq_false h2,decide_eq_false (by omega)]
theorem Qh(T:Tv n ns S)(hp:q∈af ns p)(h0:0<p):ah ns 0 dN=some q->ak ns q=2:=fun hk=>by
 have:=T.uni _ _ _ (iH hk).1 hp;omega
theorem ahq(T:Tv n ns S)(H:Sk ns q d)(hp:q∈af ns p)(hpk:ah ns 0 dN=some p)(hk2:ak ns p=2){x:Tn}(hx:ns[q]?=some x):Goes ns q x (eQ d q x .tabs):=by
 have hp0:=T.gt _ _ (iH hpk).1;have hpq:=T.gt _ _ hp;obtain⟨k1,k2,k3,-,-⟩:=sS hx;have hL:aU ns=af ns p:=by unfold aU;rw[hpk]
 have dO:q∈aU ns:=by rw[hL];exact hp
 have hah:(dS (af ns p) q).length=d.tb.length:=by rw[<-hL,uH _ q (yx T) dO,H.tb]
 have hN:iD ns q x=if 50<=d.tb.length then 4 else 0:=by
  unfold iD;rw[oM T hp,if_neg (by omega),oM T (iH hpk).1,if_pos ⟨rfl,hk2⟩,hah]
 have hle:=H.le;rw[<-H.tb]at hle;unfold Goes;rw[hN];unfold eQ;simp only[]
 by_cases e:d.tb.length=50
 ·rw[if_pos (by omega),if_pos e];exact⟨fun h=>absurd h (by decide),fun _=>rfl⟩
 ·rw[if_neg (by omega),if_neg e];refine⟨fun _=>⟨_,rfl,?_⟩,fun h=>absurd rfl h⟩;have hin:=JG (yx T) dO;have hnt:∀t∈aU ns,¬t=p/\¬ah ns t cZ=some p:=fun t ht=>⟨by have:=((BK T ht).2.1 p hpk).1;omega,((BK T ht).2.1 p hpk).2.2⟩
  have hsame:=JK (l:=lo q (aU ns)) (fun t ht=>JJ T hp (hnt t (sQ.1 ht).1).1 (hnt t (sQ.1 ht).1).2);have hgt:=fun k y (h:ah ns q k=some y)=>T.gt _ _ (iH h).1
  have hkx:∀k,iY ns (q+1) q k=⟨#[]⟩:=fun k=>by
   unfold iY
   cases hk:ah ns q k with
   | none=>rfl
   | some y=>simp only[];rw[if_neg (by have:=hgt k y hk;omega)]
  have hkl:lo (q+1) (kl ns q)=[]:=YG fun z hz=>by
   unfold kl at hz
   cases hk:ah ns q cZ with
   | none=>rw[hk]at hz;cases hz
   | some y=>rw[hk]at hz;have:=hgt _ y hk;have:=T.gt _ _ hz;omega
  have hnew:fH ns (q+1) q=en0/\pR ns (q+1) q=[]:=by
   unfold fH pR;rw[hkx,hkx,hkx,hkl];exact⟨rfl,rfl⟩
  have hel:d.es.length=d.tb.length:=by rw[H.es,H.tb,List.length_map]
  refine H.next T (by omega) _ (some (.key d.es.length)) (fun i=>by rw[k3];rfl) (fun i _=>Or.inr (Or.inr (Or.inl ⟨dO,?_⟩))) ?_ ?_ ?_ ?_ ?_ (Qe T H hp fun t ht=>(hnt t ht).2) (fun t ht kz=>absurd (T.uni _ _ _ kz hp) (hnt t ht).1) (Qh T hp hp0)
  ·rw[hel,hL,hah]
  ·exact(Qg T H hp hp0).symm
  ·show d.tb++[q]=_;rw[hin,H.tb]
  ·show d.es++[en0]=_;rw[hin,List.map_append,hsame.1,H.es];simp[hnew.1]
  ·show d.wt=_;rw[hin,List.flatMap_append,hsame.2,H.wt];simp[hnew.2]
  ·rw[hin,List.length_append,<-H.tb];simp;omega
end
open Go.RowKit Go.Joins
theorem ahr{s:ByteArray}(h:nameB s=true):¬s=⟨#[]⟩:=fun e=>by
 rw[rU (fun hp=>by have:=hp.1;rw[e]at this;exact absurd this (by decide))]at h
 cases h
section
variable {n S:Nat} {ns:List Tn} {q p:Nat} {d:Dr}
theorem ahs(T:Tv n ns S)(H:Sk ns q d)(hp:q∈af ns p)(hL:p∈aU ns){x:Tn}(hx:ns[q]?=some x):Goes ns q x (eQ d q x (.key (dS (aU ns) p).length)):=by
 obtain⟨p0,hpk,hpp,hp0,FD⟩:=zF hL;have g0:=T.gt _ _ hp0;have g1:=T.gt _ _ hpp;have g2:=T.gt _ _ hp;obtain⟨k1,k2,k3,k4,-⟩:=sS hx;have pk:=fun p1 (h:ah ns 0 dN=some p1)=>H.pk p1 h (by rw[hpk]at h;cases h;omega)
 have hkd:=T.two p0 p (pk p0 hpk) hpp;have hlast:=YH T hL (kU.kid _ _ kU.self hp) g2 pk;have hN:iD ns q x=lH ns p0 p x:=by
  unfold iD;rw[oM T hp,if_neg (by omega),oM T hpp,if_neg (fun h=>by omega),if_pos hkd]
 have hne:=(BK T hL).2.2;have hout:¬q∈aU ns:=fun h=>by rw[FD]at h;have:=T.uni _ _ _ h hp;omega
 have hlo:=JF hout;have hsA:=JK (l:=dS (aU ns) p) (fun t ht=>JJ T hp (t:=t) (fun e=>by
  rw[uH _ p (yx T) hL,sQ]at ht;omega) (hne t (by rw[uH _ p (yx T) hL,sQ]at ht;exact ht.1)))
 obtain⟨A,hA⟩:=zN (dS (aU ns) p);have hAm:∀t∈A,t∈aU ns/\t<p:=fun t ht=>by rw[<-hA,uH _ p (yx T) hL,sQ]at ht;exact ht
 rw[hA]at hlast hsA ⊢;have hes:d.es=A.map (fH ns q)++[fH ns q p]:=by rw[H.es,hlast,List.map_append];rfl
 have hwp:pR ns (q+1) p=pR ns q p:=by unfold pR;rw[FB T hp (hne p hL)]
 have hkl:=FB T hp (hne p hL);have hent:aW d.es A.length=fH ns q p:=by
  rw[hes];have:=A8 (A.map (fH ns q)) (fH ns q p)
  rwa [List.length_map]at this
 have hset:∀y,d.es.set A.length y=A.map (fH ns q)++[y]:=fun y=>by
  rw[hes];have:=Ba (A.map (fH ns q)) (fH ns q p) y
  rwa [List.length_map]at this
 have fin:∀(d':Dr) (kp:Option iw),(∀i,d'.lk i=if i∈af ns q then kp else d.lk i)->(∀i∈af ns q,JI ns q kp)->d'.fm=d.fm->d'.tb=d.tb->d'.es=A.map (fH ns q)++[fH ns (q+1) p]->d'.wt=d.wt->iR ns q∈[bQ,dP,ed,cZ]->Sk ns (q+1) d':=fun d' kp a b c e f g i =>
  H.next T (by omega) d' kp a b (by rw[c];exact(Qg T H hp (by omega)).symm) (by rw[e,hlo];exact H.tb) (by rw[f,hlo,hlast,List.map_append,hsA.1];rfl) (by
   rw[g,hlo,H.wt,hlast,List.flatMap_append,List.flatMap_append,hsA.2,List.flatMap_singleton,List.flatMap_singleton,hwp]) (by rw[hlo];exact H.le) (Qe T H hp hne) (fun t ht kz=>i) (Qh T hp (by omega))
 have leaf:∀{is:ByteArray->Bool},takeD x is=0->af ns q=[]:=fun h=>JH T (by rw[k2,(zG h).1];decide)
 unfold Goes;rw[hN];unfold lH eQ jv;simp only[]
 by_cases e1:x.ky=bQ
 ·rw[if_pos e1,if_pos e1]
  by_cases e2:takeD x nameB=0
  ·rw[if_pos e2,if_pos e2];have hnn:=ahr (zG e2).2;have hkq:=zD T hkd hp (k1.trans e1);have hhas:aT d.es (bW x)=(dS (af ns p0) p).any (kJ ns (bW x)):=by
    rw[<-FD,hA,hes];unfold aT;rw[List.any_append,List.any_map];have h1:([fH ns q p].any fun e=>decide (e.nm=bW x))=false:=by
     have:(fH ns q p).nm=⟨#[]⟩:=by
      show iY ns q p bQ=_;unfold iY;rw[hkq];simp only[];rw[if_neg (by omega)]
     simp only[List.any_cons,List.any_nil,Bool.or_false,this];exact decide_eq_false fun h=>hnn h.symm
    rw[h1,Bool.or_false];have key:∀t∈A,decide ((fH ns q t).nm=bW x)=kJ ns (bW x) t:=fun t ht=>by
     have e1:(fH ns q t).nm=iY ns q t bQ:=rfl;unfold kJ
     cases hk:ah ns t bQ with
     | none =>
      have e2:iY ns q t bQ=⟨#[]⟩:=by unfold iY;rw[hk]
      exact decide_eq_false fun h=>hnn (h.symm.trans (e1.trans e2))
     | some y =>
      have hy:=(iH hk).1;have htp:=hAm t ht;have:y<p:=T.sep p0 t p y (pk p0 hpk) (by rw[<-FD];exact htp.1) hpp htp.2 (kU.kid _ _ kU.self hy);have e2:iY ns q t bQ=aP ns y:=by
       unfold iY;rw[hk];simp only[];rw[if_pos (by omega)]
      simp only[e1,e2]
    have any_c:∀(f g:Nat->Bool) (l:List Nat),(∀t∈l,f t=g t)->l.any f=l.any g:=fun f g l h=>by
     induction l with
     | nil=>rfl
     | cons a r ih=>rw[List.any_cons,List.any_cons,h a (by simp),ih fun t ht=>h t (by simp[ht])]
    exact any_c _ _ A key
   rw[hhas]
   by_cases e3:(dS (af ns p0) p).any (kJ ns (bW x))=true
   ·rw[if_pos e3,if_pos e3];exact⟨fun h=>absurd h (by decide),fun _=>rfl⟩
   ·rw[if_neg e3,if_neg e3];refine⟨fun _=>⟨_,rfl,fin _ none (FC (leaf e2) _ _) (fun i hi=>by rw[leaf e2]at hi;cases hi) rfl rfl ?_ rfl (by rw[k1,e1];simp)⟩,fun h=>absurd rfl h⟩;show d.es.set A.length _=_;rw[hset,hent];unfold fH;rw[hkl,wG (k:=dP) (by rw[k1,e1];decide),wG (k:=ed) (by rw[k1,e1];decide)];have:iY ns (q+1) p bQ=bW x:=by
     unfold iY;rw[hkq];simp only[];rw[if_pos (by omega),k4]
    rw[this]
  ·rw[if_neg e2,if_neg e2];exact⟨fun h=>absurd h e2,fun _=>rfl⟩
 ·rw[if_neg e1,if_neg e1]
  by_cases e2:x.ky=dP
  ·rw[if_pos e2,if_pos e2];unfold nS
   by_cases e3:takeD x okV=0
   ·rw[if_pos e3];have hkq:=zD T hkd hp (k1.trans e2);refine⟨fun _=>⟨_,rfl,fin _ none (FC (leaf e3) _ _) (fun i hi=>by rw[leaf e3]at hi;cases hi) rfl rfl ?_ rfl (by rw[k1,e2];simp)⟩,fun h=>absurd e3 h⟩;show d.es.set A.length _=_;rw[hset,hent];unfold fH;rw[hkl,wG (k:=bQ) (by rw[k1,e2];decide),wG (k:=ed) (by rw[k1,e2];decide)];have:iY ns (q+1) p dP=bW x:=by
     unfold iY;rw[hkq];simp only[];rw[if_pos (by omega),k4]
    rw[this]
   ·rw[if_neg e3];exact⟨fun h=>absurd h e3,fun _=>rfl⟩
  ·rw[if_neg e2,if_neg e2]
   by_cases e3:x.ky=ed
   ·rw[if_pos e3,if_pos e3];unfold nS
    by_cases e4:takeD x nP=0
    ·rw[if_pos e4];have hkq:=zD T hkd hp (k1.trans e3);refine⟨fun _=>⟨_,rfl,fin _ none (FC (leaf e4) _ _) (fun i hi=>by rw[leaf e4]at hi;cases hi) rfl rfl ?_ rfl (by rw[k1,e3];simp)⟩,fun h=>absurd e4 h⟩;show d.es.set A.length _=_;rw[hset,hent];unfold fH;rw[hkl,wG (k:=bQ) (by rw[k1,e3];decide),wG (k:=dP) (by rw[k1,e3];decide)];have:iY ns (q+1) p ed=bW x:=by
      unfold iY;rw[hkq];simp only[];rw[if_pos (by omega),k4]
     rw[this]
    ·rw[if_neg e4];exact⟨fun h=>absurd h e4,fun _=>rfl⟩
   ·rw[if_neg e3,if_neg e3]
    by_cases e4:x.ky=cZ/\x.kd=1
    ·rw[if_pos e4,if_pos e4];have hkq:=zD T hkd hp (k1.trans e4.1);refine⟨fun _=>⟨_,rfl,fin _ (some (.val A.length)) (fun i=>by rw[k3];rfl) (fun i _=>Or.inr (Or.inr (Or.inr ⟨p,hL,hkq,by rw[k2,e4.2],by rw[hA]⟩))) rfl rfl ?_ rfl (by rw[k1,e4.1];simp)⟩,fun h=>absurd rfl h⟩;show d.es=_;rw[hes];unfold fH;rw[hkl,wG (k:=bQ) (by rw[k1,e4.1];decide),wG (k:=dP) (by rw[k1,e4.1];decide),wG (k:=ed) (by rw[k1,e4.1];decide)]
    ·rw[if_neg e4,if_neg e4];exact⟨fun h=>absurd h (by decide),fun _=>rfl⟩
theorem aht(T:Tv n ns S)(H:Sk ns q d)(hp:q∈af ns p){t:Nat}(hL:t∈aU ns)(hkn:ah ns t cZ=some p)(hk1:ak ns p=1){x:Tn}(hx:ns[q]?=some x):Goes ns q x (eQ d q x (.val (dS (aU ns) t).length)):=by
 obtain⟨p0,hpk,hpp,hp0,FD⟩:=zF hL;have hpt:=(iH hkn).1;have g0:=T.gt _ _ hp0;have g1:=T.gt _ _ hpp;have g2:=T.gt _ _ hpt;have g3:=T.gt _ _ hp;obtain⟨k1,k2,k3,k4,k5⟩:=sS hx;have pk:=fun p1 (h:ah ns 0 dN=some p1)=>H.pk p1 h (by rw[hpk]at h;cases h;omega)
 have hlast:=YH T hL (kU.kid _ _ (kU.kid _ _ kU.self hpt) hp) (by omega) pk;have hN:iD ns q x=sO ns p q x:=by
  unfold iD;rw[oM T hp,if_neg (by omega),oM T hpt,if_neg (fun h=>by omega),if_neg (by rw[hk1];decide)]
 have BL:¬p∈aU ns:=fun h=>(BK T h).2.2 t hL hkn
 have hne:∀t'∈aU ns,¬t'=t->¬t'=p/\¬ah ns t' cZ=some p:=fun t' ht hn=>⟨fun e=>BL (by rw[<-e];exact ht),fun hk=>hn (T.uni _ _ _ (iH hk).1 hpt)⟩
 have hout:¬q∈aU ns:=fun h=>by
  rw[FD]at h;have:=T.uni _ _ _ h hp;omega
 have hlo:=JF hout;have hAm:∀t'∈dS (aU ns) t,t'∈aU ns/\t'<t:=fun t' ht=>by rw[uH _ t (yx T) hL,sQ]at ht;exact ht
 have hsA:=JK (l:=dS (aU ns) t) (fun t' ht=>JJ T hp (hne t' (hAm t' ht).1 (by have:=(hAm t' ht).2;omega)).1 (hne t' (hAm t' ht).1 (by have:=(hAm t' ht).2;omega)).2);obtain⟨A,hA⟩:=zN (dS (aU ns) t);rw[hA]at hlast hsA ⊢;have hes:d.es=A.map (fH ns q)++[fH ns q t]:=by rw[H.es,hlast,List.map_append];rfl
 have hkl:kl ns t=af ns p:=by unfold kl;rw[hkn]
 have hah:dS (af ns p) q=lo q (kl ns t):=by rw[hkl,uH _ q (T.inc p) hp]
 have hnew:lo (q+1) (kl ns t)=lo q (kl ns t)++[q]:=by rw[hkl];exact JG (T.inc p) hp
 have hent:aW d.es A.length=fH ns q t:=by
  rw[hes];have:=A8 (A.map (fH ns q)) (fH ns q t)
  rwa [List.length_map]at this
 have hset:∀y,d.es.set A.length y=A.map (fH ns q)++[y]:=fun y=>by
  rw[hes];have:=Ba (A.map (fH ns q)) (fH ns q t) y
  rwa [List.length_map]at this
 have hnd:(fH ns q t).nd=(lo q (kl ns t)).map (aP ns):=rfl;have ajE:(lo q (kl ns t)).length<=20:=by rcases H.nl t with h|h;exact h;exact absurd hL h
 unfold Goes;rw[hN];unfold sO eQ nT;simp only[];rw[hah,hent,hnd,List.any_map,List.length_map]
 by_cases e1:takeD x nameB=0
 ·rw[if_pos e1,if_pos e1];have hf:((fun y=>decide (y=bW x)) ∘ aP ns)=fun k=>decide (aP ns k=bW x):=rfl
  rw[hf]
  by_cases e2:(lo q (kl ns t)).any (fun k=>decide (aP ns k=bW x))=true
  ·rw[if_pos e2,if_pos e2];exact⟨fun h=>absurd h (by decide),fun _=>rfl⟩
  ·rw[if_neg e2,if_neg e2]
   by_cases e3:(lo q (kl ns t)).length=20
   ·rw[if_pos (by omega),if_pos e3];exact⟨fun h=>absurd h (by decide),fun _=>rfl⟩
   ·rw[if_neg (by omega),if_neg e3];have leaf:=JH T (by rw[k2,(zG e1).1];decide);refine⟨fun _=>⟨_,rfl,H.next T (by omega) _ none (FC leaf _ _) (fun i hi=>by rw[leaf]at hi;cases hi) (Qg T H hp (by omega)).symm ?_ ?_ ?_ (by rw[hlo];exact H.le) (fun t'=>?_) (fun t' ht kz=>?_) (Qh T hp (by omega))⟩,fun h=>absurd rfl h⟩
    ·show d.tb=_;rw[hlo];exact H.tb
    ·show d.es.set A.length _=_;rw[hset,hlo,hlast,List.map_append,hsA.1];congr 1;show _=[fH ns (q+1) t];unfold fH;rw[hnew,BJ T hp (by omega),BJ T hp (by omega),BJ T hp (by omega),List.map_append];simp only[List.map_cons,List.map_nil,k4]
    ·show d.wt++[(bW x,x.pl)]=_;rw[hlo,hlast,List.flatMap_append,hsA.2,List.flatMap_singleton,H.wt,hlast,List.flatMap_append,List.flatMap_singleton,List.append_assoc];congr 1;unfold pR;rw[hnew,List.map_append];simp only[List.map_cons,List.map_nil,k4,k5]
    ·by_cases ht:t'∈aU ns
     ·by_cases e:t'=t
      ·rw[e,hnew,List.length_append];simp only[List.length_cons,List.length_nil];omega
      ·rw[FB T hp (hne t' ht e).2];exact H.nl t'
     ·exact Or.inr ht
    ·exact absurd (T.uni _ _ _ kz hp) (fun e=>BL (by rw[<-e];exact ht))
 ·rw[if_neg e1,if_neg e1];exact⟨fun h=>absurd h e1,fun _=>rfl⟩
end
open Go.RowKit Go.Joins
section
variable {n S:Nat} {ns:List Tn}
theorem ahu(T:Tv n ns S){q:Nat}{d:Dr}(H:Sk ns q d)(h0:0<q){x:Tn}(hx:ns[q]?=some x):(iD ns q x=0->∃d',stepD ns q d=.ok d'/\Sk ns (q+1) d')/\(¬iD ns q x=0->stepD ns q d=.error (iD ns q x,x.pl)):=by
 obtain⟨p,hp⟩:=T.par q h0 (List.getElem?_eq_some_iff.1 hx).1;have go:∃k,d.lk q=some k/\Goes ns q x (eQ d q x k):=by
  rcases H.kin p q hp (T.gt _ _ hp) with⟨e,hk⟩|⟨h1,h2,hk⟩|⟨h1,hk⟩|⟨t,h1,h2,h3,hk⟩
  ·rw[e]at hp;exact⟨_,hk,ahp T H hp hx⟩
  ·exact⟨_,hk,ahq T H hp h1 h2 hx⟩
  ·exact⟨_,hk,ahs T H hp h1 hx⟩
  ·exact⟨_,hk,aht T H hp h1 h2 h3 hx⟩
 obtain⟨k,hk,g1,g2⟩:=go;unfold stepD;rw[hx];simp only[];rw[hk];simp only[];refine⟨fun h=>?_,fun h=>?_⟩
 ·obtain⟨d',e,h'⟩:=g1 h;rw[e];exact⟨d',rfl,h'⟩
 ·rw[g2 h]
theorem Qi(T:Tv n ns S):∀(m q:Nat) (d:Dr),q+m=ns.length->0<q->Sk ns q d->(∀e,kK ns m=.error e->fV ns m d=.error e)/\(∀u,kK ns m=.ok u->∃d',fV ns m d=.ok d'/\Sk ns ns.length d')
 | 0,q,d,hq,h0,H=>⟨fun e h=>(by cases h),fun u h=>⟨d,rfl,by rw[<-hq];exact H⟩⟩
 | m+1,q,d,hq,h0,H=>by
  have hlt:q<ns.length:=by omega
  have eq:ns.length-(m+1)=q:=by omega
  have hx:=List.getElem?_eq_getElem hlt;obtain⟨s1,s2⟩:=ahu T H h0 hx;have hC:kK ns (m+1)=if iD ns q ns[q]=0 then kK ns m else .error (iD ns q ns[q],ns[q].pl):=by
   show(match ns[ns.length-(m+1)]? with|none=>_|some x=>_)=_;rw[eq,hx]
  have hD:fV ns (m+1) d=match stepD ns q d with | .error e=>.error e | .ok d'=>fV ns m d':=by
   show(match stepD ns (ns.length-(m+1)) d with | .error e=>_ | .ok d'=>_)=_;rw[eq]
  rw[hC,hD]
  by_cases e:iD ns q ns[q]=0
  ·obtain⟨d',e1,h'⟩:=s1 e;rw[if_pos e,e1];exact Qi T m (q+1) d' (by omega) (by omega) h'
  ·rw[if_neg e,s2 e];exact⟨fun e' h=>by cases h;rfl,fun u h=>by cases h⟩
theorem st_start(T:Tv n ns S):Sk ns 1 (keepD iT (af ns 0) .root):=by
 have h0:∀{l:List Nat},(∀x∈l,0<x)->lo 1 l=[]:=fun h=>YG fun x hx=>h x hx
 have hL:=h0 fun x hx=>(BK T hx).1
 have hk:=fun k i (h:ah ns 0 k=some i)=>T.gt _ _ (iH h).1
 refine⟨?_,fun p i hi hp=>?_,fun p i hi hp=>?_,?_,by rw[hL];rfl,by rw[hL];rfl,by rw[hL];rfl,by rw[hL];simp,fun t=>Or.inl ?_,fun t ht i hi hl=>?_,fun p hp hl=>?_⟩
 ·unfold keepD;simp only[];rw[if_neg (fun h=>by have:=T.gt _ _ h;omega)];rfl
 ·unfold keepD;simp only[];rw[if_neg (fun h=>by have:=T.uni _ _ _ h hi;omega)];rfl
 ·obtain rfl:p=0:=by omega
  refine Or.inl ⟨rfl,?_⟩;unfold keepD;simp only[];rw[if_pos hi]
 ·cases h:ah ns 0 fM with
  | none=>rfl
  | some i=>exact(decide_eq_false (by have:=hk _ _ h;omega)).symm
 ·have:lo 1 (kl ns t)=[]:=h0 fun x hx=>by
   unfold kl at hx
   cases h:ah ns t cZ with
   | none=>rw[h]at hx;cases hx
   | some y=>rw[h]at hx;have:=T.gt _ _ hx;omega
  rw[this];simp
 ·have:=T.gt _ _ hi;omega
 ·have:=hk _ _ hp;omega
theorem ahv(T:Tv n ns S){d:Dr}(H:Sk ns ns.length d){t:Nat}(ht:t∈aU ns):decide ((af ns t).length<4)=!jh ns t:=by
 obtain⟨p0,h1,h2,h3,h4⟩:=zF ht;have hkd:=T.two p0 t (H.pk p0 h1 (T.lt _ _ h3)) h2;have hK:=T.kdd t hkd;have hnd:((af ns t).map (iR ns)).Nodup:=by
  unfold List.Nodup;rw[List.pairwise_map];exact hK
 have h4:=fun i (hi:i∈af ns t)=>H.k4 t ht i hi (T.lt _ _ hi)
 cases hf:jh ns t with
 | true =>
  unfold jh at hf;simp only[Bool.and_eq_true,Option.isSome_iff_exists]at hf;obtain⟨⟨⟨⟨a,ha⟩,b,hb⟩,c,hc⟩,e,he⟩:=hf;obtain⟨a1,a2⟩:=iH ha;obtain⟨b1,b2⟩:=iH hb;obtain⟨c1,c2⟩:=iH hc;obtain⟨e1,e2⟩:=iH he;have ne:∀{x y:Nat} {k k':List UInt8},iR ns x=k->iR ns y=k'->¬k=k'->¬x=y:=fun h h' hn e=>hn (by rw[<-h,<-h',e])
  have:=Qd [a,b,c,e] (af ns t) (by
   simp only[List.nodup_cons,List.mem_cons,List.not_mem_nil,or_false,not_or,List.nodup_nil,and_true,not_false_eq_true];exact⟨⟨ne a2 b2 (by decide),ne a2 c2 (by decide),ne a2 e2 (by decide)⟩,⟨ne b2 c2 (by decide),ne b2 e2 (by decide)⟩,ne c2 e2 (by decide)⟩) (by
   intro x hx;simp only[List.mem_cons,List.not_mem_nil,or_false]at hx
   rcases hx with rfl|rfl|rfl|rfl<;>assumption)
  simp only[List.length_cons,List.length_nil]at this;exact decide_eq_false (by omega)
 | false =>
  refine decide_eq_true ?_;have lack:∃k∈[bQ,dP,ed,cZ],ah ns t k=none:=by
   unfold jh at hf
   cases h1:ah ns t bQ with
   | none=>exact⟨_,by simp,h1⟩
   | some a=>cases h2:ah ns t dP with
    | none=>exact⟨_,by simp,h2⟩
    | some b=>cases h3:ah ns t ed with
     | none=>exact⟨_,by simp,h3⟩
     | some c=>cases h4:ah ns t cZ with
      | none=>exact⟨_,by simp,h4⟩
      | some e=>rw[h1,h2,h3,h4]at hf;cases hf
  obtain⟨k,hk,hn⟩:=lack;have:=Qd ((af ns t).map (iR ns)) ([bQ,dP,ed,cZ].erase k) hnd (fun y hy=>by
   obtain⟨i,hi,rfl⟩:=List.mem_map.1 hy;refine(List.mem_erase_of_ne (fun e=>?_)).2 (h4 i hi);rw[zD T hkd hi e]at hn
   cases hn)
  rw[List.length_map,List.length_erase_of_mem hk]at this;simp only[List.length_cons,List.length_nil]at this;omega
theorem YI{α:Type}{f g:α->Bool}:∀(l:List α),(∀x∈l,f x=g x)->l.find? f=l.find? g
 | [],_=>rfl
 | a :: r,h=>by rw[List.find?_cons,List.find?_cons,h a (by simp),YI r fun x hx=>h x (by simp[hx])]
theorem YJ(T:Tv n ns S):zC ns=oJ ns:=by
 have hl:=T.root.1;have hs:=st_start T;obtain⟨d0,hd0⟩:=zN (keepD iT (af ns 0) .root);unfold zC oJ;rw[hd0]at hs ⊢;have h1:fV ns ns.length d0=fV ns (ns.length-1) d0:=by
  have:=Oy (ns:=ns) (q:=0) hl hs.z;simpa using this
 rw[h1];obtain⟨c1,c2⟩:=Qi T (ns.length-1) 1 d0 (by omega) (by omega) hs
 cases hC:kK ns (ns.length-1) with
 | error e=>rw[c1 e hC]
 | ok u =>
  obtain⟨d,hd,H⟩:=c2 u hC;rw[hd];simp only[];have all:∀{l:List Nat},(∀x∈l,x<ns.length)->lo ns.length l=l:=fun h=>aho h
  have FH:∀x∈aU ns,x<ns.length:=fun x hx=>by
   obtain⟨p0,-,h2,-,-⟩:=zF hx;exact T.lt _ _ h2
  have hkl:∀t,∀x∈kl ns t,x<ns.length:=fun t x hx=>by
   unfold kl at hx
   cases h:ah ns t cZ with
   | none=>rw[h]at hx;cases hx
   | some y=>rw[h]at hx;exact T.lt _ _ hx
  have hkx:∀t k,iY ns ns.length t k=kx ns t k:=fun t k=>by
   unfold iY kx
   cases h:ah ns t k with
   | none=>rfl
   | some y=>simp only[];rw[if_pos (T.lt _ _ (iH h).1)]
  have hent:∀t,fH ns ns.length t=iP ns t:=fun t=>by
   unfold fH iP;rw[hkx,hkx,hkx,all (hkl t)]
  have hes:d.es=(aU ns).map (iP ns):=by rw[H.es,all FH];exact List.map_congr_left fun t _=>hent t
  have htb:d.tb=aU ns:=by rw[H.tb,all FH]
  have hwt:d.wt=((aU ns).flatMap (kl ns)).map fun y=>(aP ns y,iM ns y):=by
   rw[H.wt,all FH,List.map_flatMap];rw[List.flatMap,List.flatMap,List.map_congr_left fun t _=>(show pR ns ns.length t=(kl ns t).map fun y=>(aP ns y,iM ns y) by unfold pR;rw[all (hkl t)])]
  have hfm:=H.fm
  cases hF:ah ns 0 fM with
  | none =>
   rw[hF]at hfm;have:lC ns d=(6,0):=by unfold lC;rw[if_pos hfm]
   rw[this];rfl
  | some i =>
   rw[hF]at hfm;simp only[]at hfm;rw[decide_eq_true (T.lt _ _ (iH hF).1)]at hfm;have ahw:lC ns d=match (aU ns).find? (fun t=>!jh ns t) with
     | some q=>(6,iM ns q)
     | none=>match ((aU ns).flatMap (kl ns)).find? (fun y=>!aT ((aU ns).map (iP ns)) (aP ns y)) with
      | some y=>(6,iM ns y)
      | none=>(0,0):=by
    unfold lC;rw[hfm,if_neg (by simp),htb,hwt,hes,YI (aU ns) (fun t ht=>ahv T H ht),List.find?_map]
    cases (aU ns).find? (fun t=>!jh ns t) with
    | some q=>rfl
    | none =>
     simp only[];have:((fun y:ByteArray × Nat=>!aT ((aU ns).map (iP ns)) y.1) ∘ fun y=>(aP ns y,iM ns y))=fun y=>!aT ((aU ns).map (iP ns)) (aP ns y):=rfl
     rw[this]
     cases ((aU ns).flatMap (kl ns)).find? (fun y=>!aT ((aU ns).map (iP ns)) (aP ns y)) with
     | some y=>rfl
     | none=>rfl
   simp only[];rw[ahw,hes];unfold wF
   cases hP:ah ns 0 dN with
   | none =>
    have:aU ns=[]:=by unfold aU;rw[hP]
    rw[this];rfl
   | some p =>
    have:aU ns=af ns p:=by unfold aU;rw[hP]
    rw[this];simp only[]
    cases (af ns p).find? (fun t=>!jh ns t) with
    | some q=>rfl
    | none =>
     simp only[]
     cases ((af ns p).flatMap (kl ns)).find? (fun y=>!aT ((af ns p).map (iP ns)) (aP ns y)) with
     | some y=>rfl
     | none=>rfl
theorem ahx(T:Tv n ns S){es:List En}(h:oJ ns=.ok es):es.length<=50/\∀x∈es,x.nd.length<=20:=by
 have hl:=T.root.1;have hs:=st_start T;obtain⟨d0,hd0⟩:=zN (keepD iT (af ns 0) .root);unfold oJ at h;rw[hd0]at hs h;have h1:fV ns ns.length d0=fV ns (ns.length-1) d0:=by
  have:=Oy (ns:=ns) (q:=0) hl hs.z;simpa using this
 rw[h1]at h;obtain⟨c1,c2⟩:=Qi T (ns.length-1) 1 d0 (by omega) (by omega) hs
 cases hC:kK ns (ns.length-1) with
 | error e=>rw[c1 e hC]at h;cases h
 | ok u =>
  obtain⟨d,hd,H⟩:=c2 u hC;rw[hd]at h;simp only[]at h;have he:es=d.es:=by
   split at h
   ·cases h;rfl
   ·cases h
  rw[he,H.es];refine⟨by rw[List.length_map];exact H.le,fun x hx=>?_⟩;obtain⟨t,ht,rfl⟩:=List.mem_map.1 hx;show((lo ns.length (kl ns t)).map (aP ns)).length<=20;rw[List.length_map]
  rcases H.nl t with h2|h2
  ·exact h2
  ·exact absurd (sQ.1 ht).1 h2
end
open Go.RowKit Go.Joins
section
variable {n S:Nat} {ns:List Tn}
theorem YK:∀(m:Nat),m<ns.length->∀u,kK ns m=.ok u->∀i x,ns.length-m<=i->ns[i]?=some x->iD ns i x=0
 | 0,_,u,h,i,x,hi,hx=>by
  have:=(List.getElem?_eq_some_iff.1 hx).1;omega
 | m+1,hm,u,h,i,x,hi,hx=>by
  have hq:ns[ns.length-(m+1)]?=some (ns[ns.length-(m+1)]'(by omega)):=List.getElem?_eq_getElem (by omega);unfold kK at h;rw[hq]at h;simp only[]at h;split at h
  ·rename_i h0
   by_cases e:i=ns.length-(m+1)
   ·subst e;rw[hq]at hx
    cases hx
    exact h0
   ·exact YK m (by omega) u h i x (by omega) hx
  ·cases h
theorem ahy(T:Tv n ns S){es:List En}(h:oJ ns=.ok es):qM es:=by
 obtain⟨s1,s2⟩:=ahx T h;rw[<-YJ T]at h;unfold zC at h
 cases hC:kK ns (ns.length-1) with
 | error e=>rw[hC]at h;cases h
 | ok u =>
  have hl:=T.root.1;have hN:=fun i x (hi:0<i) (hx:ns[i]?=some x)=>YK _ (by omega) u hC i x (by omega) hx
  rw[hC]at h;simp only[]at h
  cases hF:ah ns 0 fM with
  | none=>rw[hF]at h;cases h
  | some f =>
  rw[hF]at h;simp only[]at h
  cases hP:ah ns 0 dN with
  | none =>
   rw[hP]at h
   cases h
   exact⟨by simp,by simp,fun x hx=>(by cases hx)⟩
  | some p =>
  rw[hP]at h;simp only[]at h;obtain⟨p1,p2⟩:=iH hP;have gp:=T.gt _ _ p1;have hp2:ak ns p=2:=by
   have hx:=List.getElem?_eq_getElem (T.lt _ _ p1);have h0:=hN p _ gp hx;obtain⟨k1,k2,-⟩:=sS hx;unfold iD wz at h0;rw[oM T p1,if_pos rfl,if_neg (by rw[<-k1,p2];decide)]at h0;split at h0
   ·rename_i hh;rw[k2];exact hh.2
   ·exact absurd h0 (by decide)
  unfold wF at h
  cases h1:(af ns p).find? (fun t=>!jh ns t) with
  | some t=>rw[h1]at h;cases h
  | none =>
  rw[h1]at h;simp only[]at h
  cases h2:((af ns p).flatMap (kl ns)).find? (fun y=>!aT ((af ns p).map (iP ns)) (aP ns y)) with
  | some y=>rw[h2]at h;cases h
  | none =>
  rw[h2]at h
  cases h
  rw[List.find?_eq_none]at h1 h2;have kid:∀t∈af ns p,∀k∈[bQ,dP,ed,cZ],∃y x,ah ns t k=some y/\y∈af ns t/\ns[y]?=some x/\x.ky=k/\lH ns p t x=0:=fun t ht k hk=>by
   have hf:jh ns t=true:=by simpa using h1 t ht
   unfold jh at hf;simp only[Bool.and_eq_true,Option.isSome_iff_exists]at hf;have:∃y,ah ns t k=some y:=by
    simp only[List.mem_cons,List.not_mem_nil,or_false]at hk
    rcases hk with rfl|rfl|rfl|rfl
    ·exact hf.1.1.1
    ·exact hf.1.1.2
    ·exact hf.1.2
    ·exact hf.2
   obtain⟨y,hy⟩:=this;obtain⟨y1,y2⟩:=iH hy;have hx:=List.getElem?_eq_getElem (T.lt _ _ y1);have g1:=T.gt _ _ y1;have g2:=T.gt _ _ ht;have h0:=hN y _ (by omega) hx;unfold iD at h0;rw[oM T y1,if_neg (by omega),oM T ht,if_neg (fun hh=>by omega),if_pos (T.two p t hp2 ht)]at h0;exact⟨y,_,hy,y1,hx,(sS hx).1.symm.trans y2,h0⟩
  have nam:∀t∈af ns p,nameB (kx ns t bQ)=true/\(dS (af ns p) t).any (kJ ns (kx ns t bQ))=false:=fun t ht=>by
   obtain⟨y,x,e1,-,e2,e3,e4⟩:=kid t ht bQ (by simp);unfold lH at e4;rw[if_pos e3]at e4;have ek:kx ns t bQ=bW x:=by unfold kx;rw[e1];exact(sS e2).2.2.2.1
   rw[ek];split at e4
   ·rename_i h3;refine⟨(zG h3).2,?_⟩;split at e4
    ·exact absurd e4 (by decide)
    ·rename_i h4;simpa using h4
   ·rename_i h3;exact absurd e4 h3
  have two:∀t∈af ns p,okV (kx ns t dP)=true/\nP (kx ns t ed)=true:=fun t ht=>by
   constructor
   ·obtain⟨y,x,e1,-,e2,e3,e4⟩:=kid t ht dP (by simp);unfold lH at e4;rw[if_neg (by rw[e3];decide),if_pos e3]at e4;unfold kx;rw[e1];simp only[];rw[(sS e2).2.2.2.1];exact(zG e4).2
   ·obtain⟨y,x,e1,-,e2,e3,e4⟩:=kid t ht ed (by simp);unfold lH at e4;rw[if_neg (by rw[e3];decide),if_neg (by rw[e3];decide),if_pos e3]at e4;unfold kx;rw[e1];simp only[];rw[(sS e2).2.2.2.1];exact(zG e4).2
  have nee:∀t∈af ns p,(kl ns t).Pairwise (· < ·)/\∀i∈kl ns t,nameB (aP ns i)=true/\(dS (kl ns t) i).any (fun k=>decide (aP ns k=aP ns i))=false:=fun t ht=>by
   obtain⟨y,x,e1,e0,e2,e3,e4⟩:=kid t ht cZ (by simp);unfold lH at e4;rw[if_neg (by rw[e3];decide),if_neg (by rw[e3];decide),if_neg (by rw[e3];decide)]at e4;have hk1:x.kd=1:=by
    split at e4
    ·rename_i hh;exact hh.2
    ·exact absurd e4 (by decide)
   have ek:kl ns t=af ns y:=by unfold kl;rw[e1]
   rw[ek];refine⟨T.inc y,fun i hi=>?_⟩;have hx:=List.getElem?_eq_getElem (T.lt _ _ hi);have g1:=T.gt _ _ e0;have g2:=T.gt _ _ ht;have g3:=T.gt _ _ hi;have h0:=hN i _ (by omega) hx;have hky:=(sS e2).2.1;unfold iD sO at h0;rw[oM T hi,if_neg (by omega),oM T e0,if_neg (fun hh=>by omega),if_neg (by rw[hky,hk1];decide)]at h0;rw[(sS hx).2.2.2.1];split at h0
   ·rename_i h3;refine⟨(zG h3).2,?_⟩;split at h0
    ·exact absurd h0 (by decide)
    ·rename_i h4;simpa using h4
   ·rename_i h3;exact absurd h0 h3
  refine⟨s1,?_,fun x hx=>?_⟩
  ·rw[List.map_map];unfold List.Nodup;rw[List.pairwise_map];refine(T.inc p).imp_of_mem fun {a b} ha hb hlt e=>?_
   have h3:=(nam b hb).2;rw[uH _ b (T.inc p) hb,List.any_eq_false]at h3;refine h3 a (sQ.2 ⟨ha,hlt⟩) ?_;obtain⟨y,x,e1,-⟩:=kid a ha bQ (by simp);have e':kx ns a bQ=kx ns b bQ:=e;rw[<-e'];unfold kJ kx;rw[e1];simp
  ·refine⟨s2 x hx,?_⟩;obtain⟨t,ht,rfl⟩:=List.mem_map.1 hx;obtain⟨n1,n2⟩:=nee t ht;refine⟨?_,?_,fun y hy=>?_⟩
   ·unfold qH iP;simp only[Bool.and_eq_true,List.all_eq_true];refine⟨⟨⟨(nam t ht).1,(two t ht).1⟩,(two t ht).2⟩,fun y hy=>?_⟩;obtain⟨i,hi,rfl⟩:=List.mem_map.1 hy;exact(n2 i hi).1
   ·show((kl ns t).map (aP ns)).Nodup;unfold List.Nodup;rw[List.pairwise_map];refine n1.imp_of_mem fun {a b} ha hb hlt e=>?_
    have h3:=(n2 b hb).2;rw[uH _ b n1 hb,List.any_eq_false]at h3;exact h3 a (sQ.2 ⟨ha,hlt⟩) (by simpa using e)
   ·obtain⟨i,hi,rfl⟩:=List.mem_map.1 hy;have:=h2 i (List.mem_flatMap.2 ⟨t,ht,hi⟩);exact(Fj _ _).1 (by simpa using this)
end
end Go.Proofs.YtnnbgjaphfhibaaGreatDoor
