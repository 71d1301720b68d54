import Derived.Test.YtnnbgjaphfhibaaGreatDoorN34
import Derived.Test.YtnnbgjaphfhibaaGreatDoorN37
set_option linter.unusedVariables false
set_option linter.unusedSimpArgs false
set_option maxRecDepth 100000
set_option maxHeartbeats 6400000
namespace Go.Proofs.YtnnbgjaphfhibaaGreatDoor
open Go.RowKit Go.Maps Go.WideMaps Go.Joins
theorem adB{ns:List Tn}{t p:Nat}{k:List UInt8}{c:Int × Nat}(h:fD ns t k p=.error c):c=(5,p):=by
 unfold fD at h;split at h
 ·cases h
 ·split at h
  ·cases h
  ·split at h
   ·split at h
    ·cases h
    ·cases h;rfl
   ·cases h;rfl
theorem adC{ns:List Tn}{own:List Nat}{t p:Nat}{k:List UInt8}{c:Int × Nat}(h:fJ ns own t k p=.error c):c=(5,p):=by
 unfold fJ at h;split at h
 ·cases h
 ·split at h
  ·cases h
  ·cases h;rfl
theorem adD{ns:List Tn}{t p:Nat}{k:List UInt8}{c:Int × Nat}(h:fK ns t k p=.error c):c=(5,p):=by
 unfold fK at h;split at h
 ·cases h
 ·split at h
  ·cases h
  ·cases h;rfl
section
variable {w w':World} {B P P' R:Nat} {s:ByteArray} {now de:Nat} {q:Rs Nat} {ns:List Tn} {own:List Nat}
theorem Dt.toP(h:Dt w B P R s now de q ns own)(hP:P'<B):Dt w B P' R s now de q ns own:=by
 have hb:=h.base;obtain⟨h1,h2,N,c,O,oc,xs,ks,h3,h4,h5,h6⟩:=h;have n1:=(bn h5.row (g:=N) rfl).1;have n2:=(bn h5.owr (g:=O) rfl).1;refine⟨h1,by omega,N,c,O,oc,xs,ks,by omega,by omega,h5.far2 (by omega) fun i hi e=>?_,h6⟩;have:=(bn (h5.kid i hi) e).1;omega
theorem DFr.toP(h:DFr B P w w')(hP:P'<B):DFr B P' w w':=⟨h.bel,h.oth,h.bel.block P' hP⟩
theorem Fq.toP{e:Int × Nat}(h:Fq w B P R s now de e)(hP:P'<B):Fq w B P' R s now de e:=by
 obtain⟨L,O,h1,h2,h3,h4⟩:=h;obtain⟨i,er,p,hd⟩:=h1.dd;have:=aA hd;exact⟨L,O,h1,h2,by omega,by omega⟩
end
def kQ(l:List (List UInt8 × Nat)):List Value:=l.map fun x=>.string ⟨x.1.toArray⟩
def kF(l:List (List UInt8 × Nat)):List Value:=l.map fun x=>.int .i64 (x.2:Nat)
theorem adE(l:List (List UInt8 × Nat))(x:List UInt8 × Nat):kQ (l++[x])=kQ l++[.string ⟨x.1.toArray⟩]:=by simp[kQ]
theorem adF(l:List (List UInt8 × Nat))(x:List UInt8 × Nat):kF (l++[x])=kF l++[.int .i64 (x.2:Nat)]:=by simp[kF]
theorem NE(l:List (List UInt8 × Nat))(i:Nat)(hi:i<l.length):(kQ l)[i]?=some (.string ⟨l[i].1.toArray⟩):=by simp[kQ,hi]
theorem NF(l:List (List UInt8 × Nat))(i:Nat)(hi:i<l.length):(kF l)[i]?=some (.int .i64 (l[i].2:Nat)):=by simp[kF,hi]
theorem Dt.places{w w':World}{B P R:Nat}{s:ByteArray}{now de j j' g:Nat}{ns:List Tn}{own:List Nat}(h:Dt w B P R s now de (.ok j) ns own)(hg:w.grownBy w' (some R))(hs:∀L O,Ds w R s L O now de (.ok j)->Ds w' R s L O now de (.ok j'))(h1:w.heap.size<=g)(h2:g<w'.heap.size):Dt w' B g R s now de (.ok j') ns own:=by
 have hb:=h.base;obtain⟨a1,a2,N,c,O,oc,xs,ks,a3,a4,a5,a6⟩:=h;obtain⟨cn,hn⟩:=(bn a5.row (g:=N) rfl).2;obtain⟨co,ho⟩:=(bn a5.owr (g:=O) rfl).2;have n1:=aA hn;have n2:=aA ho;refine⟨a1,by omega,N,c,O,oc,xs,ks,by omega,by omega,(a5.keepR a6.2 hg).far2 h2 fun i hi e=>?_,hs _ _ a6⟩;obtain⟨cc,hcc⟩:=(bn (a5.kid i hi) e).2;have:=aA hcc;omega
theorem Ds.uni{w:World}{R:Nat}{s:ByteArray}{L O L' O':Value}{now de i:Nat}(h:Ds w R s L O now de (.ok i))(h':Ds w R s L' O' now de (.ok i)):L=L'/\O=O':=by
 obtain⟨-,-,a,b,-⟩:=h.2.cells;obtain⟨-,-,a',b',-⟩:=h'.2.cells;rw[a]at a';rw[b]at b';exact⟨Option.some.inj a',Option.some.inj b'⟩
theorem Dt.owns{w:World}{B P R:Nat}{s:ByteArray}{now de j:Nat}{ns:List Tn}{own:List Nat}(h:Dt w B P R s now de (.ok j) ns own)(t:Nat)(ht:t<ns.length):∃O oc v,w.cell? ⟨R,3,none⟩=some (.slice (some ⟨O,0,none⟩) ns.length oc)/\w.cell? ⟨O,t,none⟩=some v/\w.frozen? ⟨O,t,none⟩=false ∧
  (w.setCell ⟨O,t,none⟩ (.bool true)).cell? ⟨R,4,none⟩=some (.int .i64 (now:Nat))/\(w.setCell ⟨O,t,none⟩ (.bool true)).frozen? ⟨R,4,none⟩=false ∧
  Dt ((w.setCell ⟨O,t,none⟩ (.bool true)).setCell ⟨R,4,none⟩ (.int .i64 (t:Nat))) B P R s t de (.ok j) ns (t :: own)/\DFr B P w ((w.setCell ⟨O,t,none⟩ (.bool true)).setCell ⟨R,4,none⟩ (.int .i64 (t:Nat))):=by
 obtain⟨hb1,hb2,hb3⟩:=h.base;obtain⟨h1,h2,N,c,O,oc,xs,ks,h3,h4,h5,h6⟩:=h;obtain⟨f1,f2⟩:=h5.flagAt t ht;obtain⟨-,-,-,c3,-⟩:=h6.2.cells;obtain⟨hOB,cu,hO⟩:=bn h5.owr (g:=O) rfl;have hRO:¬R=O:=aP h6.2 hO (by decide);have m5:=h5.mark t ht;have d6:=h6.other (iq w O t (.bool true)) hRO;obtain⟨-,-,-,-,e4,-,-,-,ef⟩:=d6.2.cells;have fr1:DFr B P w (w.setCell ⟨O,t,none⟩ (.bool true)):=DFr.row (iq w O t (.bool true)) hb1 hb2 hOB h4 hO (Or.inr (Or.inr (Or.inr rfl)));have fr2:DFr B P (w.setCell ⟨O,t,none⟩ (.bool true)) ((w.setCell ⟨O,t,none⟩ (.bool true)).setCell ⟨R,4,none⟩ (.int .i64 (t:Nat))):=qV d6 h1 h2 m5.hP (iq _ R 4 _);exact⟨O,oc,_,c3,f1,f2,e4,ef 4,⟨h1,h2,N,c,O,oc,xs,ks,h3,h4,m5.keepR d6.2 (iq _ R 4 _),d6.setN t⟩,fr1.two fr2⟩
open Go.RowKit Go.Joins
def aT(ns:List Tn):List Nat:=match ah ns 0 iY with|some p=>ae ns p|none=>[]
def iP(ns:List Tn)(q t:Nat)(k:List UInt8):ByteArray:=match ah ns t k with|some y=>if y<q then aQ ns y else⟨#[]⟩|none=>⟨#[]⟩
def eX(ns:List Tn)(q t:Nat):En:=⟨iP ns q t fA,iP ns q t iC,iP ns q t iy,(lo q (kl ns t)).map (aQ ns)⟩
def oN(ns:List Tn)(q t:Nat):List (ByteArray × Nat):=(lo q (kl ns t)).map fun y=>(aQ ns y,iD ns y)
def H9(ns:List Tn)(p:Nat)(k:Option iI):Prop:=(p=0/\k=some .root)\/(ah ns 0 iY=some p/\aj ns p=2/\k=some .tabs)\/(p∈aT ns/\k=some (.key (dU (aT ns) p).length))\/(∃t,t∈aT ns/\ah ns t dV=some p/\aj ns p=1/\k=some (.val (dU (aT ns) t).length))
structure Sk(ns:List Tn)(q:Nat)(d:Dr):Prop where
 z:d.lk 0=none
 no:∀p i,i∈ae ns p->q<=p->d.lk i=none
 kin:∀p i,i∈ae ns p->p<q->H9 ns p (d.lk i)
 fm:d.fm=(match ah ns 0 jO with|some i=>decide (i<q)|none=>false)
 tb:d.tb=lo q (aT ns)
 es:d.es=(lo q (aT ns)).map (eX ns q)
 wt:d.wt=(lo q (aT ns)).flatMap (oN ns q)
 le:(lo q (aT ns)).length<=50
 nl:∀t,(lo q (kl ns t)).length<=20\/¬t∈aT ns
 k4:∀t∈aT ns,∀i∈ae ns t,i<q->ig ns i∈[fA,iC,iy,dV]
 pk:∀p,ah ns 0 iY=some p->p<q->aj ns p=2
section
variable {n S:Nat} {ns:List Tn} {q p:Nat} {d:Dr}
theorem yg{t:Nat}(h:t∈aT ns):∃p0,ah ns 0 iY=some p0/\t∈ae ns p0/\p0∈ae ns 0/\aT ns=ae ns p0:=by
 unfold aT at h ⊢
 cases hk:ah ns 0 iY with
 | none=>rw[hk]at h;cases h
 | some p0=>rw[hk]at h;exact⟨p0,rfl,h,(iK hk).1,rfl⟩
theorem wR(T:Tv n ns S):(aT ns).Pairwise (· < ·):=by
 unfold aT;split
 ·exact T.inc _
 ·exact List.Pairwise.nil
theorem uI{t:Nat}{k:List UInt8}(h:¬ig ns q=k):iP ns (q+1) t k=iP ns q t k:=by
 unfold iP
 cases hk:ah ns t k with
 | none=>rfl
 | some y =>
  have:¬y=q:=fun e=>h (by rw[<-e];exact(iK hk).2)
  simp only[]
  by_cases h2:y<q
  ·rw[if_pos h2,if_pos (by omega)]
  ·rw[if_neg h2,if_neg (by omega)]
theorem zG(T:Tv n ns S)(hp:q∈ae ns p){t:Nat}(ht:¬t=p)(k:List UInt8):iP ns (q+1) t k=iP ns q t k:=by
 unfold iP
 cases hk:ah ns t k with
 | none=>rfl
 | some y =>
  have:¬y=q:=fun e=>ht (T.uni _ _ q (by rw[<-e];exact(iK hk).1) hp)
  simp only[]
  by_cases h2:y<q
  ·rw[if_pos h2,if_pos (by omega)]
  ·rw[if_neg h2,if_neg (by omega)]
theorem DJ(T:Tv n ns S)(hp:q∈ae ns p){t:Nat}(ht:¬ah ns t dV=some p):lo (q+1) (kl ns t)=lo q (kl ns t):=by
 refine H5 fun h=>ht ?_
 unfold kl at h
 cases hk:ah ns t dV with
 | none=>rw[hk]at h;cases h
 | some y=>rw[hk]at h;rw[T.uni _ _ q h hp]
theorem Ib(T:Tv n ns S)(hp:q∈ae ns p){t:Nat}(ht:¬t=p)(ht2:¬ah ns t dV=some p):eX ns (q+1) t=eX ns q t/\oN ns (q+1) t=oN ns q t:=by
 unfold eX oN;rw[zG T hp ht,zG T hp ht,zG T hp ht,DJ T hp ht2];exact⟨rfl,rfl⟩
theorem zH(T:Tv n ns S){t:Nat}(h:t∈aT ns):0<t/\(∀p0,ah ns 0 iY=some p0->p0<t/\0<p0/\¬ah ns t dV=some p0)/\∀t',t'∈aT ns->¬ah ns t' dV=some t:=by
 obtain⟨p0,h1,h2,h3,h4⟩:=yg h;have g0:=T.gt _ _ h2;have g1:=T.gt _ _ h3;refine⟨by omega,fun p1 hp1=>?_,fun t' ht' hk=>?_⟩
 ·rw[h1]at hp1
  cases hp1
  refine⟨g0,g1,fun hk=>?_⟩;have:=T.uni _ _ _ (iK hk).1 h3;omega
 ·have:=T.uni _ _ _ (iK hk).1 h2;rw[h4]at ht';have:=T.gt _ _ ht';omega
theorem Ic{f g:Nat->En}{u v:Nat->List (ByteArray × Nat)}{l:List Nat}(h:∀t∈l,f t=g t/\u t=v t):l.map f=l.map g/\l.flatMap u=l.flatMap v :=
 ⟨List.map_congr_left fun t ht=>(h t ht).1,by rw[List.flatMap,List.flatMap,List.map_congr_left fun t ht=>(h t ht).2]⟩
theorem Vx(T:Tv n ns S){t:Nat}(ht:t∈aT ns)(hd:kE ns t q)(hlt:t<q)(pk:∀p,ah ns 0 iY=some p->aj ns p=2):lo q (aT ns)=dU (aT ns) t++[t]:=by
 obtain⟨p0,h1,h2,h3,h4⟩:=yg ht;rw[wQ _ t (wR T) ht,<-H6 (wR T) ht];unfold lo;apply List.filter_congr;intro x hx
 by_cases hx2:t<x
 ·rw[h4]at hx;have:=T.sep p0 t x q (pk p0 h1) h2 hx hx2 hd;simp;omega
 ·simp;omega
theorem Sk.next(T:Tv n ns S)(H:Sk ns q d)(hq:0<q)(d':Dr)(kp:Option iI)(hlk:∀i,d'.lk i=if i∈ae ns q then kp else d.lk i)(hk:∀i∈ae ns q,H9 ns q kp)
  (fm:d'.fm=(match ah ns 0 jO with|some i=>decide (i<q+1)|none=>false)) (tb:d'.tb=lo (q+1) (aT ns)) (es:d'.es=(lo (q+1) (aT ns)).map (eX ns (q+1))) (wt:d'.wt=(lo (q+1) (aT ns)).flatMap (oN ns (q+1)))
  (le:(lo (q+1) (aT ns)).length<=50) (nl:∀t,(lo (q+1) (kl ns t)).length<=20\/¬t∈aT ns) (k4:∀t∈aT ns,q∈ae ns t->ig ns q∈[fA,iC,iy,dV]) (pk:ah ns 0 iY=some q->aj ns q=2):Sk ns (q+1) d':=by
 refine⟨?_,fun p i hi hp=>?_,fun p i hi hp=>?_,fm,tb,es,wt,le,nl,fun t ht i hi hl=>?_,fun p hp hl=>?_⟩
 ·rw[hlk,if_neg (fun h=>by have:=T.gt _ _ h;omega)];exact H.z
 ·rw[hlk,if_neg (fun h=>by have:=T.uni _ _ _ h hi;omega)];exact H.no p i hi (by omega)
 ·rw[hlk]
  by_cases e:p=q
  ·rw[e]at hi;rw[if_pos hi,e];exact hk i hi
  ·rw[if_neg (fun h=>e (T.uni _ _ _ hi h))];exact H.kin p i hi (by omega)
 ·by_cases e:i=q
  ·rw[e]at hi ⊢;exact k4 t ht hi
  ·exact H.k4 t ht i hi (by omega)
 ·by_cases e:p=q
  ·rw[e]at hp ⊢;exact pk hp
  ·exact H.pk p hp (by omega)
theorem DK(h:ae ns q=[])(d:Dr)(kp:Option iI):∀i,d.lk i=if i∈ae ns q then kp else d.lk i:=fun i=>by rw[h,if_neg (by simp)]
theorem NG{x:Tn}{is:ByteArray->Bool}(h:takeD x is=0):x.kd=3/\is (dh x)=true:=by
 unfold takeD at h
 by_cases h3:x.kd=3
 ·rw[if_neg (by simpa using h3)]at h
  by_cases h2:is (dh x)=true
  ·exact⟨h3,h2⟩
  ·rw[if_neg h2]at h;exact absurd h (by decide)
 ·rw[if_pos h3]at h;exact absurd h (by decide)
def Goes(ns:List Tn)(q:Nat)(x:Tn)(r:Except Int Dr):Prop:=(iM ns q x=0->∃d',r=.ok d'/\Sk ns (q+1) d')/\(¬iM ns q x=0->r=.error (iM ns q x))
end
open Go.RowKit Go.Joins
section
variable {n S:Nat} {ns:List Tn} {q p:Nat} {d:Dr}
theorem Ie{x:Tn}(h:ns[q]?=some x):ig ns q=x.ky/\aj ns q=x.kd/\ae ns q=x.ks/\aQ ns q=dh x/\iD ns q=x.pl:=by
 unfold ig aj ae aQ iD;rw[h];exact⟨rfl,rfl,rfl,rfl,rfl⟩
theorem NH(T:Tv n ns S)(H:Sk ns q d)(hp:q∈ae ns p)(h:∀t∈aT ns,¬ah ns t dV=some p):∀t,(lo (q+1) (kl ns t)).length<=20\/¬t∈aT ns:=fun t=>by
 by_cases ht:t∈aT ns
 ·rw[DJ T hp (h t ht)];exact H.nl t
 ·exact Or.inr ht
theorem adG(T:Tv n ns S)(H:Sk ns q d)(hp:q∈ae ns 0){x:Tn}(hx:ns[q]?=some x):Goes ns q x (gm d q x .root):=by
 have h0:=T.gt _ _ hp;obtain⟨k1,k2,k3,-,-⟩:=Ie hx;have hN:iM ns q x=uD x:=by unfold iM;rw[uG T hp,if_pos rfl]
 have hnt:∀t∈aT ns,¬t=0/\¬ah ns t dV=some 0:=fun t ht=>⟨by have:=(zH T ht).1;omega,fun hk=>by have:=T.gt _ _ (iK hk).1;omega⟩
 have hout:¬q∈aT ns:=fun h=>by
  obtain⟨p0,-,h2,h3,-⟩:=yg h;have e1:=T.uni _ _ _ h2 hp;have:=T.gt _ _ h3;omega
 have hsame:=Ic (l:=lo q (aT ns)) (fun t ht=>Ib T hp (hnt t (uF.1 ht).1).1 (hnt t (uF.1 ht).1).2);have hlo:=H5 hout;have fin:∀(d':Dr) (kp:Option iI),(∀i,d'.lk i=if i∈ae ns q then kp else d.lk i)->(∀i∈ae ns q,H9 ns q kp)->d'.fm=(match ah ns 0 jO with|some i=>decide (i<q+1)|none=>false)->d'.tb=d.tb->d'.es=d.es->d'.wt=d.wt->(ah ns 0 iY=some q->aj ns q=2)->Sk ns (q+1) d':=fun d' kp a b c e f g i =>
  H.next T h0 d' kp a b c (by rw[e,hlo];exact H.tb) (by rw[f,hlo,hsame.1];exact H.es) (by rw[g,hlo,hsame.2];exact H.wt) (by rw[hlo];exact H.le) (NH T H hp fun t ht=>(hnt t ht).2) (fun t ht jJ=>absurd (T.uni _ _ _ jJ hp) (hnt t ht).1) i
 have kf:¬ig ns q=jO->(match ah ns 0 jO with|some i=>decide (i<q+1)|none=>false)=d.fm:=fun hne=>by
  rw[H.fm]
  cases hk:ah ns 0 jO with
  | none=>rfl
  | some i =>
   have:¬i=q:=fun e=>hne (by rw[<-e];exact(iK hk).2)
   simp only[]
   by_cases h2:i<q
   ·rw[decide_eq_true h2,decide_eq_true (by omega)]
   ·rw[decide_eq_false h2,decide_eq_false (by omega)]
 unfold Goes;rw[hN];unfold uD gm;simp only[]
 by_cases e1:x.ky=jO
 ·rw[if_pos e1,if_pos e1]
  by_cases e2:x.kd=4
  ·rw[if_neg (show ¬¬x.kd=4 by simpa using e2),if_neg (show ¬¬x.kd=4 by simpa using e2)]
   by_cases e3:x.nu=1
   ·rw[if_neg (show ¬¬x.nu=1 by simpa using e3),if_neg (show ¬¬x.nu=1 by simpa using e3)];refine⟨fun _=>⟨_,rfl,fin _ none (DK (H7 T (by rw[k2,e2];decide)) _ _) (fun i hi=>by rw[H7 T (by rw[k2,e2];decide)]at hi;cases hi) ?_ rfl rfl rfl fun hk=>?_⟩,fun h=>absurd rfl h⟩
    ·rw[yc T T.root.2 hp (k1.trans e1)];exact(decide_eq_true (by omega)).symm
    ·have:=(iK hk).2;rw[k1,e1]at this;exact absurd this (by decide)
   ·rw[if_pos e3,if_pos e3];exact⟨fun h=>absurd h (by decide),fun _=>rfl⟩
  ·rw[if_pos e2,if_pos e2];exact⟨fun h=>absurd h (by decide),fun _=>rfl⟩
 ·rw[if_neg e1,if_neg e1]
  by_cases e2:x.ky=iY/\x.kd=2
  ·rw[if_pos e2,if_pos e2];have hpk:=yc T T.root.2 hp (k1.trans e2.1);exact⟨fun _=>⟨_,rfl,fin _ (some .tabs) (fun i=>by rw[k3];rfl) (fun i _=>Or.inr (Or.inl ⟨hpk,by rw[k2,e2.2],rfl⟩)) (kf (by rw[k1];exact e1)).symm rfl rfl rfl fun _=>by rw[k2,e2.2]⟩,fun h=>absurd rfl h⟩
  ·rw[if_neg e2,if_neg e2];exact⟨fun h=>absurd h (by decide),fun _=>rfl⟩
theorem NI(T:Tv n ns S)(H:Sk ns q d)(hp:q∈ae ns p)(h0:0<p):(match ah ns 0 jO with|some i=>decide (i<q+1)|none=>false)=d.fm:=by
 rw[H.fm]
 cases hk:ah ns 0 jO with
 | none=>rfl
 | some i =>
  have:¬i=q:=fun e=>by have:=T.uni _ _ _ (iK hk).1 (by rw[e];exact hp);omega
  simp only[]
  by_cases h2:i<q
  ·rw[decide_eq_true h2,decide_eq_true (by omega)]
  ·rw[decide_eq_false h2,decide_eq_false (by omega)]
theorem NJ(T:Tv n ns S)(hp:q∈ae ns p)(h0:0<p):ah ns 0 iY=some q->aj ns q=2:=fun hk=>by
 have:=T.uni _ _ _ (iK hk).1 hp;omega
theorem adH(T:Tv n ns S)(H:Sk ns q d)(hp:q∈ae ns p)(hpk:ah ns 0 iY=some p)(hk2:aj ns p=2){x:Tn}(hx:ns[q]?=some x):Goes ns q x (gm d q x .tabs):=by
 have hp0:=T.gt _ _ (iK hpk).1;have hpq:=T.gt _ _ hp;obtain⟨k1,k2,k3,-,-⟩:=Ie hx;have hL:aT ns=ae ns p:=by unfold aT;rw[hpk]
 have kG:q∈aT ns:=by rw[hL];exact hp
 have hah:(dU (ae ns p) q).length=d.tb.length:=by rw[<-hL,wQ _ q (wR T) kG,H.tb]
 have hN:iM ns q x=if 50<=d.tb.length then 4 else 0:=by
  unfold iM;rw[uG T hp,if_neg (by omega),uG T (iK hpk).1,if_pos ⟨rfl,hk2⟩,hah]
 have hle:=H.le;rw[<-H.tb]at hle;unfold Goes;rw[hN];unfold gm;simp only[]
 by_cases e:d.tb.length=50
 ·rw[if_pos (by omega),if_pos e];exact⟨fun h=>absurd h (by decide),fun _=>rfl⟩
 ·rw[if_neg (by omega),if_neg e];refine⟨fun _=>⟨_,rfl,?_⟩,fun h=>absurd rfl h⟩;have hin:=H6 (wR T) kG;have hnt:∀t∈aT ns,¬t=p/\¬ah ns t dV=some p:=fun t ht=>⟨by have:=((zH T ht).2.1 p hpk).1;omega,((zH T ht).2.1 p hpk).2.2⟩
  have hsame:=Ic (l:=lo q (aT ns)) (fun t ht=>Ib T hp (hnt t (uF.1 ht).1).1 (hnt t (uF.1 ht).1).2);have hgt:∀k y,ah ns q k=some y->q<y:=fun k y h=>T.gt _ _ (iK h).1
  have hkx:∀k,iP ns (q+1) q k=⟨#[]⟩:=fun k=>by
   unfold iP
   cases hk:ah ns q k with
   | none=>rfl
   | some y=>simp only[];rw[if_neg (by have:=hgt k y hk;omega)]
  have hkl:lo (q+1) (kl ns q)=[]:=Vw fun z hz=>by
   unfold kl at hz
   cases hk:ah ns q dV with
   | none=>rw[hk]at hz;cases hz
   | some y=>rw[hk]at hz;have:=hgt _ y hk;have:=T.gt _ _ hz;omega
  have hnew:eX ns (q+1) q=en0/\oN ns (q+1) q=[]:=by
   unfold eX oN;rw[hkx,hkx,hkx,hkl];exact⟨rfl,rfl⟩
  have hel:d.es.length=d.tb.length:=by rw[H.es,H.tb,List.length_map]
  refine H.next T (by omega) _ (some (.key d.es.length)) (fun i=>by rw[k3];rfl) (fun i _=>Or.inr (Or.inr (Or.inl ⟨kG,?_⟩))) ?_ ?_ ?_ ?_ ?_ (NH T H hp fun t ht=>(hnt t ht).2) (fun t ht jJ=>absurd (T.uni _ _ _ jJ hp) (hnt t ht).1) (NJ T hp hp0)
  ·rw[hel,hL,hah]
  ·exact(NI T H hp hp0).symm
  ·show d.tb++[q]=_;rw[hin,H.tb]
  ·show d.es++[en0]=_;rw[hin,List.map_append,hsame.1,H.es];simp[hnew.1]
  ·show d.wt=_;rw[hin,List.flatMap_append,hsame.2,H.wt];simp[hnew.2]
  ·rw[hin,List.length_append,<-H.tb];simp;omega
end
open Go.RowKit Go.Joins
theorem adI{s:ByteArray}(h:nameB s=true):¬s=⟨#[]⟩:=fun e=>by
 rw[rY (fun hp=>by have:=hp.1;rw[e]at this;exact absurd this (by decide))]at h
 cases h
section
variable {n S:Nat} {ns:List Tn} {q p:Nat} {d:Dr}
theorem adJ(T:Tv n ns S)(H:Sk ns q d)(hp:q∈ae ns p)(hL:p∈aT ns){x:Tn}(hx:ns[q]?=some x):Goes ns q x (gm d q x (.key (dU (aT ns) p).length)):=by
 obtain⟨p0,hpk,hpp,hp0,DL⟩:=yg hL;have g0:=T.gt _ _ hp0;have g1:=T.gt _ _ hpp;have g2:=T.gt _ _ hp;obtain⟨k1,k2,k3,k4,-⟩:=Ie hx;have pk:∀p,ah ns 0 iY=some p->aj ns p=2:=fun p1 h=>H.pk p1 h (by rw[hpk]at h;cases h;omega)
 have hkd:aj ns p=0:=T.two p0 p (pk p0 hpk) hpp;have hlast:=Vx T hL (kE.kid _ _ kE.self hp) g2 pk;have hN:iM ns q x=lY ns p0 p x:=by
  unfold iM;rw[uG T hp,if_neg (by omega),uG T hpp,if_neg (fun h=>by omega),if_pos hkd]
 have hne:∀t∈aT ns,¬ah ns t dV=some p:=fun t ht=>(zH T hL).2.2 t ht
 have hout:¬q∈aT ns:=fun h=>by rw[DL]at h;have:=T.uni _ _ _ h hp;omega
 have hlo:=H5 hout;have hsA:=Ic (l:=dU (aT ns) p) (fun t ht=>Ib T hp (t:=t) (fun e=>by
  rw[wQ _ p (wR T) hL,uF]at ht;omega) (hne t (by rw[wQ _ p (wR T) hL,uF]at ht;exact ht.1)))
 obtain⟨A,hA⟩:=zN (dU (aT ns) p);have hAm:∀t∈A,t∈aT ns/\t<p:=fun t ht=>by rw[<-hA,wQ _ p (wR T) hL,uF]at ht;exact ht
 rw[hA]at hlast hsA ⊢;have hes:d.es=A.map (eX ns q)++[eX ns q p]:=by rw[H.es,hlast,List.map_append];rfl
 have hwp:oN ns (q+1) p=oN ns q p:=by unfold oN;rw[DJ T hp (hne p hL)]
 have hkl:=DJ T hp (hne p hL);have hent:bg d.es A.length=eX ns q p:=by
  rw[hes];have:=UD (A.map (eX ns q)) (eX ns q p)
  rwa [List.length_map]at this
 have hset:∀y,d.es.set A.length y=A.map (eX ns q)++[y]:=fun y=>by
  rw[hes];have:=UE (A.map (eX ns q)) (eX ns q p) y
  rwa [List.length_map]at this
 have fin:∀(d':Dr) (kp:Option iI),(∀i,d'.lk i=if i∈ae ns q then kp else d.lk i)->(∀i∈ae ns q,H9 ns q kp)->d'.fm=d.fm->d'.tb=d.tb->d'.es=A.map (eX ns q)++[eX ns (q+1) p]->d'.wt=d.wt->ig ns q∈[fA,iC,iy,dV]->Sk ns (q+1) d':=fun d' kp a b c e f g i =>
  H.next T (by omega) d' kp a b (by rw[c];exact(NI T H hp (by omega)).symm) (by rw[e,hlo];exact H.tb) (by rw[f,hlo,hlast,List.map_append,hsA.1];rfl) (by
   rw[g,hlo,H.wt,hlast,List.flatMap_append,List.flatMap_append,hsA.2,List.flatMap_singleton,List.flatMap_singleton,hwp]) (by rw[hlo];exact H.le) (NH T H hp hne) (fun t ht jJ=>i) (NJ T hp (by omega))
 have leaf:∀{is:ByteArray->Bool},takeD x is=0->ae ns q=[]:=fun h=>H7 T (by rw[k2,(NG h).1];decide)
 unfold Goes;rw[hN];unfold lY gm lX;simp only[]
 by_cases e1:x.ky=fA
 ·rw[if_pos e1,if_pos e1]
  by_cases e2:takeD x nameB=0
  ·rw[if_pos e2,if_pos e2];have hnn:=adI (NG e2).2;have hkq:=yc T hkd hp (k1.trans e1);have hhas:aW d.es (dh x)=(dU (ae ns p0) p).any (jS ns (dh x)):=by
    rw[<-DL,hA,hes];unfold aW;rw[List.any_append,List.any_map];have h1:([eX ns q p].any fun e=>decide (e.nm=dh x))=false:=by
     have:(eX ns q p).nm=⟨#[]⟩:=by
      show iP ns q p fA=_;unfold iP;rw[hkq];simp only[];rw[if_neg (by omega)]
     simp only[List.any_cons,List.any_nil,Bool.or_false,this];exact decide_eq_false fun h=>hnn h.symm
    rw[h1,Bool.or_false];have key:∀t∈A,decide ((eX ns q t).nm=dh x)=jS ns (dh x) t:=fun t ht=>by
     have e1:(eX ns q t).nm=iP ns q t fA:=rfl;unfold jS
     cases hk:ah ns t fA with
     | none =>
      have e2:iP ns q t fA=⟨#[]⟩:=by unfold iP;rw[hk]
      exact decide_eq_false fun h=>hnn (h.symm.trans (e1.trans e2))
     | some y =>
      have hy:=(iK hk).1;have htp:=hAm t ht;have:y<p:=T.sep p0 t p y (pk p0 hpk) (by rw[<-DL];exact htp.1) hpp htp.2 (kE.kid _ _ kE.self hy);have e2:iP ns q t fA=aQ ns y:=by
       unfold iP;rw[hk];simp only[];rw[if_pos (by omega)]
      simp only[e1,e2]
    have any_c:∀(f g:Nat->Bool) (l:List Nat),(∀t∈l,f t=g t)->l.any f=l.any g:=fun f g l h=>by
     induction l with
     | nil=>rfl
     | cons a r ih=>rw[List.any_cons,List.any_cons,h a (by simp),ih fun t ht=>h t (by simp[ht])]
    exact any_c _ _ A key
   rw[hhas]
   by_cases e3:(dU (ae ns p0) p).any (jS ns (dh x))=true
   ·rw[if_pos e3,if_pos e3];exact⟨fun h=>absurd h (by decide),fun _=>rfl⟩
   ·rw[if_neg e3,if_neg e3];refine⟨fun _=>⟨_,rfl,fin _ none (DK (leaf e2) _ _) (fun i hi=>by rw[leaf e2]at hi;cases hi) rfl rfl ?_ rfl (by rw[k1,e1];simp)⟩,fun h=>absurd rfl h⟩;show d.es.set A.length _=_;rw[hset,hent];unfold eX;rw[hkl,uI (k:=iC) (by rw[k1,e1];decide),uI (k:=iy) (by rw[k1,e1];decide)];have:iP ns (q+1) p fA=dh x:=by
     unfold iP;rw[hkq];simp only[];rw[if_pos (by omega),k4]
    rw[this]
  ·rw[if_neg e2,if_neg e2];exact⟨fun h=>absurd h e2,fun _=>rfl⟩
 ·rw[if_neg e1,if_neg e1]
  by_cases e2:x.ky=iC
  ·rw[if_pos e2,if_pos e2];unfold oJ
   by_cases e3:takeD x okV=0
   ·rw[if_pos e3];have hkq:=yc T hkd hp (k1.trans e2);refine⟨fun _=>⟨_,rfl,fin _ none (DK (leaf e3) _ _) (fun i hi=>by rw[leaf e3]at hi;cases hi) rfl rfl ?_ rfl (by rw[k1,e2];simp)⟩,fun h=>absurd e3 h⟩;show d.es.set A.length _=_;rw[hset,hent];unfold eX;rw[hkl,uI (k:=fA) (by rw[k1,e2];decide),uI (k:=iy) (by rw[k1,e2];decide)];have:iP ns (q+1) p iC=dh x:=by
     unfold iP;rw[hkq];simp only[];rw[if_pos (by omega),k4]
    rw[this]
   ·rw[if_neg e3];exact⟨fun h=>absurd h e3,fun _=>rfl⟩
  ·rw[if_neg e2,if_neg e2]
   by_cases e3:x.ky=iy
   ·rw[if_pos e3,if_pos e3];unfold oJ
    by_cases e4:takeD x pK=0
    ·rw[if_pos e4];have hkq:=yc T hkd hp (k1.trans e3);refine⟨fun _=>⟨_,rfl,fin _ none (DK (leaf e4) _ _) (fun i hi=>by rw[leaf e4]at hi;cases hi) rfl rfl ?_ rfl (by rw[k1,e3];simp)⟩,fun h=>absurd e4 h⟩;show d.es.set A.length _=_;rw[hset,hent];unfold eX;rw[hkl,uI (k:=fA) (by rw[k1,e3];decide),uI (k:=iC) (by rw[k1,e3];decide)];have:iP ns (q+1) p iy=dh x:=by
      unfold iP;rw[hkq];simp only[];rw[if_pos (by omega),k4]
     rw[this]
    ·rw[if_neg e4];exact⟨fun h=>absurd h e4,fun _=>rfl⟩
   ·rw[if_neg e3,if_neg e3]
    by_cases e4:x.ky=dV/\x.kd=1
    ·rw[if_pos e4,if_pos e4];have hkq:=yc T hkd hp (k1.trans e4.1);refine⟨fun _=>⟨_,rfl,fin _ (some (.val A.length)) (fun i=>by rw[k3];rfl) (fun i _=>Or.inr (Or.inr (Or.inr ⟨p,hL,hkq,by rw[k2,e4.2],by rw[hA]⟩))) rfl rfl ?_ rfl (by rw[k1,e4.1];simp)⟩,fun h=>absurd rfl h⟩;show d.es=_;rw[hes];unfold eX;rw[hkl,uI (k:=fA) (by rw[k1,e4.1];decide),uI (k:=iC) (by rw[k1,e4.1];decide),uI (k:=iy) (by rw[k1,e4.1];decide)]
    ·rw[if_neg e4,if_neg e4];exact⟨fun h=>absurd h (by decide),fun _=>rfl⟩
theorem adK(T:Tv n ns S)(H:Sk ns q d)(hp:q∈ae ns p){t:Nat}(hL:t∈aT ns)(hkn:ah ns t dV=some p)(hk1:aj ns p=1){x:Tn}(hx:ns[q]?=some x):Goes ns q x (gm d q x (.val (dU (aT ns) t).length)):=by
 obtain⟨p0,hpk,hpp,hp0,DL⟩:=yg hL;have hpt:=(iK hkn).1;have g0:=T.gt _ _ hp0;have g1:=T.gt _ _ hpp;have g2:=T.gt _ _ hpt;have g3:=T.gt _ _ hp;obtain⟨k1,k2,k3,k4,k5⟩:=Ie hx;have pk:∀p,ah ns 0 iY=some p->aj ns p=2:=fun p1 h=>H.pk p1 h (by rw[hpk]at h;cases h;omega)
 have hlast:=Vx T hL (kE.kid _ _ (kE.kid _ _ kE.self hpt) hp) (by omega) pk;have hN:iM ns q x=pV ns p q x:=by
  unfold iM;rw[uG T hp,if_neg (by omega),uG T hpt,if_neg (fun h=>by omega),if_neg (by rw[hk1];decide)]
 have zI:¬p∈aT ns:=fun h=>(zH T h).2.2 t hL hkn
 have hne:∀t'∈aT ns,¬t'=t->¬t'=p/\¬ah ns t' dV=some p:=fun t' ht hn=>⟨fun e=>zI (by rw[<-e];exact ht),fun hk=>hn (T.uni _ _ _ (iK hk).1 hpt)⟩
 have hout:¬q∈aT ns:=fun h=>by
  rw[DL]at h;have:=T.uni _ _ _ h hp;omega
 have hlo:=H5 hout;have hAm:∀t'∈dU (aT ns) t,t'∈aT ns/\t'<t:=fun t' ht=>by rw[wQ _ t (wR T) hL,uF]at ht;exact ht
 have hsA:=Ic (l:=dU (aT ns) t) (fun t' ht=>Ib T hp (hne t' (hAm t' ht).1 (by have:=(hAm t' ht).2;omega)).1 (hne t' (hAm t' ht).1 (by have:=(hAm t' ht).2;omega)).2);obtain⟨A,hA⟩:=zN (dU (aT ns) t);rw[hA]at hlast hsA ⊢;have hes:d.es=A.map (eX ns q)++[eX ns q t]:=by rw[H.es,hlast,List.map_append];rfl
 have hkl:kl ns t=ae ns p:=by unfold kl;rw[hkn]
 have hah:dU (ae ns p) q=lo q (kl ns t):=by rw[hkl,wQ _ q (T.inc p) hp]
 have hnew:lo (q+1) (kl ns t)=lo q (kl ns t)++[q]:=by rw[hkl];exact H6 (T.inc p) hp
 have hent:bg d.es A.length=eX ns q t:=by
  rw[hes];have:=UD (A.map (eX ns q)) (eX ns q t)
  rwa [List.length_map]at this
 have hset:∀y,d.es.set A.length y=A.map (eX ns q)++[y]:=fun y=>by
  rw[hes];have:=UE (A.map (eX ns q)) (eX ns q t) y
  rwa [List.length_map]at this
 have hnd:(eX ns q t).nd=(lo q (kl ns t)).map (aQ ns):=rfl;have afP:(lo q (kl ns t)).length<=20:=by rcases H.nl t with h|h;exact h;exact absurd hL h
 unfold Goes;rw[hN];unfold pV gm oL;simp only[];rw[hah,hent,hnd,List.any_map,List.length_map]
 by_cases e1:takeD x nameB=0
 ·rw[if_pos e1,if_pos e1];have hf:((fun y=>decide (y=dh x)) ∘ aQ ns)=fun k=>decide (aQ ns k=dh x):=rfl
  rw[hf]
  by_cases e2:(lo q (kl ns t)).any (fun k=>decide (aQ ns k=dh x))=true
  ·rw[if_pos e2,if_pos e2];exact⟨fun h=>absurd h (by decide),fun _=>rfl⟩
  ·rw[if_neg e2,if_neg e2]
   by_cases e3:(lo q (kl ns t)).length=20
   ·rw[if_pos (by omega),if_pos e3];exact⟨fun h=>absurd h (by decide),fun _=>rfl⟩
   ·rw[if_neg (by omega),if_neg e3];have leaf:ae ns q=[]:=H7 T (by rw[k2,(NG e1).1];decide);refine⟨fun _=>⟨_,rfl,H.next T (by omega) _ none (DK leaf _ _) (fun i hi=>by rw[leaf]at hi;cases hi) (NI T H hp (by omega)).symm ?_ ?_ ?_ (by rw[hlo];exact H.le) (fun t'=>?_) (fun t' ht jJ=>?_) (NJ T hp (by omega))⟩,fun h=>absurd rfl h⟩
    ·show d.tb=_;rw[hlo];exact H.tb
    ·show d.es.set A.length _=_;rw[hset,hlo,hlast,List.map_append,hsA.1];congr 1;show _=[eX ns (q+1) t];unfold eX;rw[hnew,zG T hp (by omega),zG T hp (by omega),zG T hp (by omega),List.map_append];simp only[List.map_cons,List.map_nil,k4]
    ·show d.wt++[(dh x,x.pl)]=_;rw[hlo,hlast,List.flatMap_append,hsA.2,List.flatMap_singleton,H.wt,hlast,List.flatMap_append,List.flatMap_singleton,List.append_assoc];congr 1;unfold oN;rw[hnew,List.map_append];simp only[List.map_cons,List.map_nil,k4,k5]
    ·by_cases ht:t'∈aT ns
     ·by_cases e:t'=t
      ·rw[e,hnew,List.length_append];simp only[List.length_cons,List.length_nil];omega
      ·rw[DJ T hp (hne t' ht e).2];exact H.nl t'
     ·exact Or.inr ht
    ·exact absurd (T.uni _ _ _ jJ hp) (fun e=>zI (by rw[<-e];exact ht))
 ·rw[if_neg e1,if_neg e1];exact⟨fun h=>absurd h e1,fun _=>rfl⟩
end
open Go.RowKit Go.Joins
section
variable {n S:Nat} {ns:List Tn}
theorem adL(T:Tv n ns S){q:Nat}{d:Dr}(H:Sk ns q d)(h0:0<q){x:Tn}(hx:ns[q]?=some x):(iM ns q x=0->∃d',stepD ns q d=.ok d'/\Sk ns (q+1) d')/\(¬iM ns q x=0->stepD ns q d=.error (iM ns q x,x.pl)):=by
 obtain⟨p,hp⟩:=T.par q h0 (List.getElem?_eq_some_iff.1 hx).1;have go:∃k,d.lk q=some k/\Goes ns q x (gm d q x k):=by
  rcases H.kin p q hp (T.gt _ _ hp) with⟨e,hk⟩|⟨h1,h2,hk⟩|⟨h1,hk⟩|⟨t,h1,h2,h3,hk⟩
  ·rw[e]at hp;exact⟨_,hk,adG T H hp hx⟩
  ·exact⟨_,hk,adH T H hp h1 h2 hx⟩
  ·exact⟨_,hk,adJ T H hp h1 hx⟩
  ·exact⟨_,hk,adK T H hp h1 h2 h3 hx⟩
 obtain⟨k,hk,g1,g2⟩:=go;unfold stepD;rw[hx];simp only[];rw[hk];simp only[];refine⟨fun h=>?_,fun h=>?_⟩
 ·obtain⟨d',e,h'⟩:=g1 h;rw[e];exact⟨d',rfl,h'⟩
 ·rw[g2 h]
theorem NK(T:Tv n ns S):∀(m q:Nat) (d:Dr),q+m=ns.length->0<q->Sk ns q d->(∀e,lC ns m=.error e->iJ ns m d=.error e)/\(∀u,lC ns m=.ok u->∃d',iJ ns m d=.ok d'/\Sk ns ns.length d')
 | 0,q,d,hq,h0,H=>⟨fun e h=>(by cases h),fun u h=>⟨d,rfl,by rw[<-hq];exact H⟩⟩
 | m+1,q,d,hq,h0,H=>by
  have hlt:q<ns.length:=by omega
  have eq:ns.length-(m+1)=q:=by omega
  have hx:ns[q]?=some ns[q]:=List.getElem?_eq_getElem hlt;obtain⟨s1,s2⟩:=adL T H h0 hx;have hC:lC ns (m+1)=if iM ns q ns[q]=0 then lC ns m else .error (iM ns q ns[q],ns[q].pl):=by
   show(match ns[ns.length-(m+1)]? with|none=>_|some x=>_)=_;rw[eq,hx]
  have hD:iJ ns (m+1) d=match stepD ns q d with | .error e=>.error e | .ok d'=>iJ ns m d':=by
   show(match stepD ns (ns.length-(m+1)) d with | .error e=>_ | .ok d'=>_)=_;rw[eq]
  rw[hC,hD]
  by_cases e:iM ns q ns[q]=0
  ·obtain⟨d',e1,h'⟩:=s1 e;rw[if_pos e,e1];exact NK T m (q+1) d' (by omega) (by omega) h'
  ·rw[if_neg e,s2 e];exact⟨fun e' h=>by cases h;rfl,fun u h=>by cases h⟩
theorem st_start(T:Tv n ns S):Sk ns 1 (keepD jP (ae ns 0) .root):=by
 have h0:∀{l:List Nat},(∀x∈l,0<x)->lo 1 l=[]:=fun h=>Vw fun x hx=>h x hx
 have hL:lo 1 (aT ns)=[]:=h0 fun x hx=>(zH T hx).1
 have hk:∀k i,ah ns 0 k=some i->0<i:=fun k i h=>T.gt _ _ (iK h).1
 refine⟨?_,fun p i hi hp=>?_,fun p i hi hp=>?_,?_,by rw[hL];rfl,by rw[hL];rfl,by rw[hL];rfl,by rw[hL];simp,fun t=>Or.inl ?_,fun t ht i hi hl=>?_,fun p hp hl=>?_⟩
 ·unfold keepD;simp only[];rw[if_neg (fun h=>by have:=T.gt _ _ h;omega)];rfl
 ·unfold keepD;simp only[];rw[if_neg (fun h=>by have:=T.uni _ _ _ h hi;omega)];rfl
 ·obtain rfl:p=0:=by omega
  refine Or.inl ⟨rfl,?_⟩;unfold keepD;simp only[];rw[if_pos hi]
 ·cases h:ah ns 0 jO with
  | none=>rfl
  | some i=>exact(decide_eq_false (by have:=hk _ _ h;omega)).symm
 ·have:lo 1 (kl ns t)=[]:=h0 fun x hx=>by
   unfold kl at hx
   cases h:ah ns t dV with
   | none=>rw[h]at hx;cases hx
   | some y=>rw[h]at hx;have:=T.gt _ _ hx;omega
  rw[this];simp
 ·have:=T.gt _ _ hi;omega
 ·have:=hk _ _ hp;omega
theorem adM(T:Tv n ns S){d:Dr}(H:Sk ns ns.length d){t:Nat}(ht:t∈aT ns):decide ((ae ns t).length<4)=!jv ns t:=by
 obtain⟨p0,h1,h2,h3,h4⟩:=yg ht;have hkd:aj ns t=0:=T.two p0 t (H.pk p0 h1 (T.lt _ _ h3)) h2;have hK:=T.kdd t hkd;have hnd:((ae ns t).map (ig ns)).Nodup:=by
  unfold List.Nodup;rw[List.pairwise_map];exact hK
 have h4:∀i∈ae ns t,ig ns i∈[fA,iC,iy,dV]:=fun i hi=>H.k4 t ht i hi (T.lt _ _ hi)
 cases hf:jv ns t with
 | true =>
  unfold jv at hf;simp only[Bool.and_eq_true,Option.isSome_iff_exists]at hf;obtain⟨⟨⟨⟨a,ha⟩,b,hb⟩,c,hc⟩,e,he⟩:=hf;obtain⟨a1,a2⟩:=iK ha;obtain⟨b1,b2⟩:=iK hb;obtain⟨c1,c2⟩:=iK hc;obtain⟨e1,e2⟩:=iK he;have ne:∀{x y:Nat} {k k':List UInt8},ig ns x=k->ig ns y=k'->¬k=k'->¬x=y:=fun h h' hn e=>hn (by rw[<-h,<-h',e])
  have:=ND [a,b,c,e] (ae ns t) (by
   simp only[List.nodup_cons,List.mem_cons,List.not_mem_nil,or_false,not_or,List.nodup_nil,and_true,not_false_eq_true];exact⟨⟨ne a2 b2 (by decide),ne a2 c2 (by decide),ne a2 e2 (by decide)⟩,⟨ne b2 c2 (by decide),ne b2 e2 (by decide)⟩,ne c2 e2 (by decide)⟩) (by
   intro x hx;simp only[List.mem_cons,List.not_mem_nil,or_false]at hx
   rcases hx with rfl|rfl|rfl|rfl<;>assumption)
  simp only[List.length_cons,List.length_nil]at this;exact decide_eq_false (by omega)
 | false =>
  refine decide_eq_true ?_;have lack:∃k∈[fA,iC,iy,dV],ah ns t k=none:=by
   unfold jv at hf
   cases h1:ah ns t fA with
   | none=>exact⟨_,by simp,h1⟩
   | some a=>cases h2:ah ns t iC with
    | none=>exact⟨_,by simp,h2⟩
    | some b=>cases h3:ah ns t iy with
     | none=>exact⟨_,by simp,h3⟩
     | some c=>cases h4:ah ns t dV with
      | none=>exact⟨_,by simp,h4⟩
      | some e=>rw[h1,h2,h3,h4]at hf;cases hf
  obtain⟨k,hk,hn⟩:=lack;have:=ND ((ae ns t).map (ig ns)) ([fA,iC,iy,dV].erase k) hnd (fun y hy=>by
   obtain⟨i,hi,rfl⟩:=List.mem_map.1 hy;refine(List.mem_erase_of_ne (fun e=>?_)).2 (h4 i hi);rw[yc T hkd hi e]at hn
   cases hn)
  rw[List.length_map,List.length_erase_of_mem hk]at this;simp only[List.length_cons,List.length_nil]at this;omega
theorem Vy{α:Type}{f g:α->Bool}:∀(l:List α),(∀x∈l,f x=g x)->l.find? f=l.find? g
 | [],_=>rfl
 | a :: r,h=>by rw[List.find?_cons,List.find?_cons,h a (by simp),Vy r fun x hx=>h x (by simp[hx])]
theorem adN(T:Tv n ns S):zD ns=sH ns:=by
 have hl:=T.root.1;have hs:=st_start T;obtain⟨d0,hd0⟩:=zN (keepD jP (ae ns 0) .root);unfold zD sH;rw[hd0]at hs ⊢;have h1:iJ ns ns.length d0=iJ ns (ns.length-1) d0:=by
  have:=UC (ns:=ns) (q:=0) hl hs.z;simpa using this
 rw[h1];obtain⟨c1,c2⟩:=NK T (ns.length-1) 1 d0 (by omega) (by omega) hs
 cases hC:lC ns (ns.length-1) with
 | error e=>rw[c1 e hC]
 | ok u =>
  obtain⟨d,hd,H⟩:=c2 u hC;rw[hd];simp only[];have all:∀{l:List Nat},(∀x∈l,x<ns.length)->lo ns.length l=l:=fun h=>ady h
  have NL:∀x∈aT ns,x<ns.length:=fun x hx=>by
   obtain⟨p0,-,h2,-,-⟩:=yg hx;exact T.lt _ _ h2
  have hkl:∀t,∀x∈kl ns t,x<ns.length:=fun t x hx=>by
   unfold kl at hx
   cases h:ah ns t dV with
   | none=>rw[h]at hx;cases hx
   | some y=>rw[h]at hx;exact T.lt _ _ hx
  have hkx:∀t k,iP ns ns.length t k=kx ns t k:=fun t k=>by
   unfold iP kx
   cases h:ah ns t k with
   | none=>rfl
   | some y=>simp only[];rw[if_pos (T.lt _ _ (iK h).1)]
  have hent:∀t,eX ns ns.length t=iO ns t:=fun t=>by
   unfold eX iO;rw[hkx,hkx,hkx,all (hkl t)]
  have hes:d.es=(aT ns).map (iO ns):=by rw[H.es,all NL];exact List.map_congr_left fun t _=>hent t
  have htb:d.tb=aT ns:=by rw[H.tb,all NL]
  have hwt:d.wt=((aT ns).flatMap (kl ns)).map fun y=>(aQ ns y,iD ns y):=by
   rw[H.wt,all NL,List.map_flatMap];rw[List.flatMap,List.flatMap,List.map_congr_left fun t _=>(show oN ns ns.length t=(kl ns t).map fun y=>(aQ ns y,iD ns y) by unfold oN;rw[all (hkl t)])]
  have hfm:=H.fm
  cases hF:ah ns 0 jO with
  | none =>
   rw[hF]at hfm;have:mZ ns d=(6,0):=by unfold mZ;rw[if_pos hfm]
   rw[this];rfl
  | some i =>
   rw[hF]at hfm;simp only[]at hfm;rw[decide_eq_true (T.lt _ _ (iK hF).1)]at hfm;have adO:mZ ns d=match (aT ns).find? (fun t=>!jv ns t) with
     | some q=>(6,iD ns q)
     | none=>match ((aT ns).flatMap (kl ns)).find? (fun y=>!aW ((aT ns).map (iO ns)) (aQ ns y)) with
      | some y=>(6,iD ns y)
      | none=>(0,0):=by
    unfold mZ;rw[hfm,if_neg (by simp),htb,hwt,hes,Vy (aT ns) (fun t ht=>adM T H ht),List.find?_map]
    cases (aT ns).find? (fun t=>!jv ns t) with
    | some q=>rfl
    | none =>
     simp only[];have:((fun y:ByteArray × Nat=>!aW ((aT ns).map (iO ns)) y.1) ∘ fun y=>(aQ ns y,iD ns y))=fun y=>!aW ((aT ns).map (iO ns)) (aQ ns y):=rfl
     rw[this]
     cases ((aT ns).flatMap (kl ns)).find? (fun y=>!aW ((aT ns).map (iO ns)) (aQ ns y)) with
     | some y=>rfl
     | none=>rfl
   simp only[];rw[adO,hes];unfold wP
   cases hP:ah ns 0 iY with
   | none =>
    have:aT ns=[]:=by unfold aT;rw[hP]
    rw[this];rfl
   | some p =>
    have:aT ns=ae ns p:=by unfold aT;rw[hP]
    rw[this];simp only[]
    cases (ae ns p).find? (fun t=>!jv ns t) with
    | some q=>rfl
    | none =>
     simp only[]
     cases ((ae ns p).flatMap (kl ns)).find? (fun y=>!aW ((ae ns p).map (iO ns)) (aQ ns y)) with
     | some y=>rfl
     | none=>rfl
theorem adP(T:Tv n ns S){es:List En}(h:sH ns=.ok es):es.length<=50/\∀x∈es,x.nd.length<=20:=by
 have hl:=T.root.1;have hs:=st_start T;obtain⟨d0,hd0⟩:=zN (keepD jP (ae ns 0) .root);unfold sH at h;rw[hd0]at hs h;have h1:iJ ns ns.length d0=iJ ns (ns.length-1) d0:=by
  have:=UC (ns:=ns) (q:=0) hl hs.z;simpa using this
 rw[h1]at h;obtain⟨c1,c2⟩:=NK T (ns.length-1) 1 d0 (by omega) (by omega) hs
 cases hC:lC ns (ns.length-1) with
 | error e=>rw[c1 e hC]at h;cases h
 | ok u =>
  obtain⟨d,hd,H⟩:=c2 u hC;rw[hd]at h;simp only[]at h;have he:es=d.es:=by
   split at h
   ·cases h;rfl
   ·cases h
  rw[he,H.es];refine⟨by rw[List.length_map];exact H.le,fun x hx=>?_⟩;obtain⟨t,ht,rfl⟩:=List.mem_map.1 hx;show((lo ns.length (kl ns t)).map (aQ ns)).length<=20;rw[List.length_map]
  rcases H.nl t with h2|h2
  ·exact h2
  ·exact absurd (uF.1 ht).1 h2
end
end Go.Proofs.YtnnbgjaphfhibaaGreatDoor
