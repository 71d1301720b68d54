import Derived.Test.YtnnbgjaphfhibaaGreatDoorE01
set_option linter.all false
set_option maxRecDepth 100000
set_option maxHeartbeats 0
open Go.Proofs.Tryz
namespace Go.Proofs.YtnnbgjaphfhibaaGreatDoor
def af(ns:List Tn)(p:Nat):List Nat:=match ns[p]? with|some u=>u.ks|none=>[]
def iQ(ns:List Tn)(k:List UInt8)(q:Nat):Bool:=match ns[q]? with|some x=>decide (x.ky=k)|none=>false
theorem qZ(ns:List Tn)(t:Nat)(k:List UInt8):ah ns t k=(af ns t).find? (iQ ns k):=by
 unfold ah af
 cases ns[t]?<;>rfl
theorem La(ns:List Tn)(up:Nat)(n:Tn):∃X:List Tn,X.length=ns.length/\∀m,addN ns up m=X++[m]:=by
 unfold addN
 cases h:ns[up]? with
 | none=>exact⟨ns,rfl,fun _=>rfl⟩
 | some u=>exact⟨ns.set up { u with ks:=u.ks++[ns.length] },by simp,fun _=>rfl⟩
theorem bY(ns:List Tn)(up:Nat)(n:Tn):(addN ns up n).length=ns.length+1:=by
 obtain⟨X,h1,h2⟩:=La ns up n;rw[h2];simp[h1]
theorem Lc(ns:List Tn)(up:Nat)(n m:Tn):(addN ns up n).set ns.length m=addN ns up m:=by
 obtain⟨X,h1,h2⟩:=La ns up n;rw[h2,h2,<-h1];simp
theorem uT(ns:List Tn)(up:Nat)(n:Tn)(hu:up<ns.length)(i:Nat):(addN ns up n)[i]?=if i=ns.length then some n else if i=up then some { ns[up] with ks:=ns[up].ks++[ns.length] } else ns[i]?:=by
 unfold addN;rw[List.getElem?_eq_getElem hu];simp only[]
 by_cases h:i=ns.length
 ·rw[if_pos h,h,List.getElem?_append_right (by simp)];simp
 ·rw[if_neg h]
  by_cases hl:i<ns.length
  ·rw[List.getElem?_append_left (by simpa using hl)]
   by_cases hup:i=up
   ·subst hup;rw[if_pos rfl,List.getElem?_set_self hl]
   ·rw[if_neg hup,List.getElem?_set_ne (fun e=>hup e.symm)]
  ·rw[List.getElem?_append_right (by simp;omega),if_neg (by omega),List.getElem?_eq_none (l:=ns) (by omega)];rw[List.getElem?_eq_none];simp;omega
theorem jS(ns:List Tn)(up:Nat)(n:Tn)(hu:up<ns.length)(p:Nat):af (addN ns up n) p=if p=ns.length then n.ks else if p=up then af ns up++[ns.length] else af ns p:=by
 unfold af;rw[uT ns up n hu]
 by_cases h:p=ns.length
 ·simp only[if_pos h]
 ·rw[if_neg h,if_neg h]
  by_cases h2:p=up
  ·rw[if_pos h2,if_pos h2,List.getElem?_eq_getElem hu]
  ·rw[if_neg h2,if_neg h2]
theorem fF(ns:List Tn)(up:Nat)(n:Tn)(hu:up<ns.length)(p:Nat):ak (addN ns up n) p=if p=ns.length then n.kd else ak ns p:=by
 unfold ak;rw[uT ns up n hu]
 by_cases h:p=ns.length
 ·simp only[if_pos h]
 ·rw[if_neg h,if_neg h]
  by_cases h2:p=up
  ·subst h2;rw[if_pos rfl,List.getElem?_eq_getElem hu]
  ·rw[if_neg h2]
theorem Sl(ns:List Tn)(up:Nat)(n:Tn)(hu:up<ns.length)(k:List UInt8)(q:Nat):iQ (addN ns up n) k q=if q=ns.length then decide (n.ky=k) else iQ ns k q:=by
 unfold iQ;rw[uT ns up n hu]
 by_cases h:q=ns.length
 ·simp only[if_pos h]
 ·rw[if_neg h,if_neg h]
  by_cases h2:q=up
  ·subst h2;rw[if_pos rfl,List.getElem?_eq_getElem hu]
  ·rw[if_neg h2]
structure WF(ns:List Tn)(own:List Nat):Prop where
 par:∀p p' q,q∈af ns p->q∈af ns p'->p=p'
 lt:∀p q,q∈af ns p->q<ns.length
 own:∀q∈own,q<ns.length
 len:∀p,(af ns p).length<=ns.length
theorem zW(ns:List Tn)(p:Nat)(h:ns.length<=p):af ns p=[]:=by
 unfold af;rw[List.getElem?_eq_none h]
theorem Le{α:Type}{p q:α->Bool}:∀(l:List α),(∀x∈l,p x=q x)->l.find? p=l.find? q
 | [],_=>rfl
 | a :: r,h=>by
  rw[List.find?_cons,List.find?_cons,h a (by simp),Le r fun x hx=>h x (by simp[hx])]
theorem Lh(ns:List Tn)(own:List Nat)(up:Nat)(n:Tn)(hn:n.ks=[])(hu:up<ns.length)(W:WF ns own)(t:Nat)(k:List UInt8) :
  ah (addN ns up n) t k=if t=up then(match ah ns up k with|some q=>some q|none=>if n.ky=k then some ns.length else none) else if t=ns.length then none else ah ns t k:=by
 have hc:∀p,(af ns p).find? (iQ (addN ns up n) k)=ah ns p k:=fun p=>by
  rw[qZ];refine Le _ fun x hx=>?_
  have:=W.lt p x hx;rw[Sl ns up n hu,if_neg (by omega)]
 rw[qZ,jS ns up n hu]
 by_cases h1:t=up
 ·subst h1;rw[if_neg (by omega),if_pos rfl,if_pos rfl,List.find?_append,hc]
  cases ah ns t k with
  | some q=>rfl
  | none =>
   simp only[Option.none_or,List.find?_cons,Sl ns t n hu,if_true,List.find?_nil]
   by_cases hk:n.ky=k
   ·rw[if_pos hk,decide_eq_true hk]
   ·rw[if_neg hk,decide_eq_false hk]
 ·rw[if_neg h1,if_neg h1]
  by_cases h2:t=ns.length
  ·rw[if_pos h2,if_pos h2,hn];rfl
  ·rw[if_neg h2,if_neg h2,hc]
def hold(ns:List Tn)(own:List Nat)(t:Nat)(k:List UInt8):Option (Nat × Bool):=if ak ns t=0 then(ah ns t k).map fun q=>(q,decide (q∈own)) else none
def zX(f:Nat->List UInt8->Option (Nat × Bool))(t:Nat)(k:List UInt8)(v:Nat × Bool):Nat->List UInt8->Option (Nat × Bool):=fun t' k'=>if t'=t/\k'=k then some v else f t' k'
theorem rq{ns:List Tn}{t q:Nat}{k:List UInt8}(h:ah ns t k=some q):q∈af ns t/\iQ ns k q=true:=by
 rw[qZ]at h;exact⟨List.mem_of_find?_eq_some h,List.find?_some h⟩
theorem aaI(ns:List Tn)(own:List Nat)(up:Nat)(n:Tn)(hn:n.ks=[])(hu:up<ns.length)(W:WF ns own)(h0:ak ns up=0)(hno:ah ns up n.ky=none):hold (addN ns up n) own=zX (hold ns own) up n.ky (ns.length,false):=by
 funext t k;unfold zX hold;rw[fF ns up n hu,Lh ns own up n hn hu W]
 by_cases h1:t=up
 ·subst h1;have hne:¬t=ns.length:=by omega
  simp only[if_neg hne,if_pos h0,true_and,if_true]
  by_cases hk:k=n.ky
  ·subst hk;rw[hno];simp only[if_true,Option.map_some];rw[decide_eq_false (fun hm=>by have:=W.own _ hm;omega)]
  ·have hk':¬n.ky=k:=fun e=>hk e.symm
   simp only[if_neg hk]
   cases ah ns t k with
   | some q=>rfl
   | none=>simp only[if_neg hk']
 ·have h1':¬(t=up/\k=n.ky):=fun h=>h1 h.1
  simp only[if_neg h1,if_neg h1']
  by_cases h2:t=ns.length
  ·have:ah ns t k=none:=by rw[qZ,zW ns t (by omega)];rfl
   rw[this];simp only[if_pos h2];simp
  ·simp only[if_neg h2]
theorem aaJ(ns:List Tn)(own:List Nat)(up:Nat)(n:Tn)(hn:n.ks=[])(hu:up<ns.length)(W:WF ns own)(h0:¬ak ns up=0):hold (addN ns up n) own=hold ns own:=by
 funext t k;unfold hold;rw[fF ns up n hu,Lh ns own up n hn hu W]
 by_cases h1:t=up
 ·subst h1;have hne:¬t=ns.length:=by omega
  simp only[if_neg hne,if_neg h0]
 ·simp only[if_neg h1]
  by_cases h2:t=ns.length
  ·have:ah ns t k=none:=by rw[qZ,zW ns t (by omega)];rfl
   rw[this];simp only[if_pos h2];simp
  ·simp only[if_neg h2]
theorem ru(ns:List Tn)(own:List Nat)(up:Nat)(n:Tn)(hn:n.ks=[])(hu:up<ns.length)(W:WF ns own):WF (addN ns up n) own:=by
 have hk:∀p q,q∈af (addN ns up n) p->(q=ns.length/\p=up)\/(q∈af ns p/\q<ns.length):=fun p q h=>by
  rw[jS ns up n hu]at h
  by_cases h1:p=ns.length
  ·rw[if_pos h1,hn]at h;simp at h
  ·rw[if_neg h1]at h
   by_cases h2:p=up
   ·subst h2;rw[if_pos rfl]at h
    rcases List.mem_append.1 h with h|h
    ·exact Or.inr ⟨h,W.lt _ _ h⟩
    ·exact Or.inl ⟨by simpa using h,rfl⟩
   ·rw[if_neg h2]at h;exact Or.inr ⟨h,W.lt _ _ h⟩
 refine⟨fun p p' q h h'=>?_,fun p q h=>?_,fun q h=>?_,fun p=>?_⟩
 ·rcases hk p q h with⟨e1,e2⟩|⟨e1,e2⟩<;>rcases hk p' q h' with⟨e3,e4⟩|⟨e3,e4⟩
  ·rw[e2,e4]
  ·omega
  ·omega
  ·exact W.par p p' q e1 e3
 ·rw[bY]
  rcases hk p q h with⟨e1,e2⟩|⟨e1,e2⟩<;>omega
 ·rw[bY];have:=W.own q h;omega
 ·rw[bY,jS ns up n hu];have h1:=W.len p;have h2:=W.len up;split
  ·rw[hn];simp
  ·split
   ·simp;omega
   ·omega
theorem Sr(ns:List Tn)(own:List Nat)(W:WF ns own)(t q:Nat)(k:List UInt8)(h0:ak ns t=0)(h:ah ns t k=some q):hold ns (q :: own)=zX (hold ns own) t k (q,true):=by
 funext t' k';unfold zX hold;obtain⟨hm,hy⟩:=rq h
 by_cases h1:t'=t/\k'=k
 ·rw[if_pos h1,h1.1,h1.2,if_pos h0,h];simp
 ·rw[if_neg h1]
  by_cases h2:ak ns t'=0
  ·rw[if_pos h2,if_pos h2]
   cases hq:ah ns t' k' with
   | none=>rfl
   | some q' =>
    obtain⟨hm',hy'⟩:=rq hq;have hne:¬q'=q:=fun e=>by
     subst e;have e1:=W.par _ _ _ hm' hm;unfold iQ at hy hy'
     cases hx:ns[q']? with
     | none=>rw[hx]at hy;cases hy
     | some x =>
      rw[hx]at hy hy';exact h1 ⟨e1,(of_decide_eq_true hy').symm.trans (of_decide_eq_true hy)⟩
    simp[hne]
  ·rw[if_neg h2,if_neg h2]
theorem aaK(ns:List Tn)(own:List Nat)(W:WF ns own)(t q:Nat)(h0:¬ak ns t=0)(h:q∈af ns t):hold ns (q :: own)=hold ns own:=by
 funext t' k';unfold hold
 by_cases h2:ak ns t'=0
 ·rw[if_pos h2,if_pos h2]
  cases hq:ah ns t' k' with
  | none=>rfl
  | some q' =>
   obtain⟨hm',hy'⟩:=rq hq;have hne:¬q'=q:=fun e=>by
    subst e;have e1:=W.par _ _ _ hm' h;subst e1;exact h0 h2
   simp[hne]
 ·rw[if_neg h2,if_neg h2]
theorem Su(ns:List Tn)(own:List Nat)(W:WF ns own)(q:Nat)(h:q<ns.length):WF ns (q :: own) :=
 ⟨W.par,W.lt,fun x hx=>by
  rcases List.mem_cons.1 hx with rfl|hx
  ·exact h
  ·exact W.own x hx,W.len⟩
def WT(ns:List Tn):Prop:=∀q,ak ns q=2->af ns q≠[]/\∀x∈af ns q,ak ns x=0
theorem aaL(ns:List Tn)(q:Nat)(n:Tn)(hq:q<ns.length)(h1:n.kd=ns[q].kd)(h2:n.ky=ns[q].ky)(h3:n.ks=ns[q].ks):(∀p,af (ns.set q n) p=af ns p)/\(∀p,ak (ns.set q n) p=ak ns p)/\(∀k p,iQ (ns.set q n) k p=iQ ns k p):=by
 have key:∀p,p=q\/(ns.set q n)[p]?=ns[p]?:=fun p=>by
  by_cases h:p=q
  ·exact Or.inl h
  ·exact Or.inr (List.getElem?_set_ne (fun e=>h e.symm))
 have hs:(ns.set q n)[q]?=some n:=List.getElem?_set_self hq;have hn:=List.getElem?_eq_getElem hq;refine⟨fun p=>?_,fun p=>?_,fun k p=>?_⟩
 ·unfold af
  rcases key p with rfl|h
  ·rw[hs,hn];exact h3
  ·rw[h]
 ·unfold ak
  rcases key p with rfl|h
  ·rw[hs,hn];exact h1
  ·rw[h]
 ·unfold iQ
  rcases key p with rfl|h
  ·rw[hs,hn];simp only[h2]
  ·rw[h]
theorem aaM{ns ns':List Tn}(own:List Nat)(h1:∀p,af ns' p=af ns p)(h2:∀p,ak ns' p=ak ns p)(h3:∀k p,iQ ns' k p=iQ ns k p):hold ns' own=hold ns own:=by
 funext t k;unfold hold;rw[h2,qZ,qZ,h1,Le (p:=iQ ns' k) (q:=iQ ns k) _ fun x _=>h3 k x]
def iR(ns:List Tn)(q:Nat):List UInt8:=match ns[q]? with|some u=>u.ky|none=>[]
def KD(ns:List Tn)(t:Nat):Prop:=(af ns t).Pairwise fun a b=>iR ns a≠iR ns b
theorem aaN{ns:List Tn}{q:Nat}(h:q<ns.length):iR ns q=ns[q].ky:=by
 unfold iR;rw[List.getElem?_eq_getElem h]
open Go.RowKit Go.Joins
def Dd(w:World)(R:Nat)(s:ByteArray)(L O:Value)(now de i:Nat)(er:Int)(p:Nat):Prop:=w.heap[R]?=some (.cells #[.string s,.int .i64 (i:Nat),L,O,.int .i64 (now:Nat),.int .i64 er,.int .i64 (p:Nat),.int .i64 (de:Nat)] 74 (0,0))
section
variable {w w':World} {R:Nat} {s:ByteArray} {L O:Value} {now de i:Nat} {er:Int} {p:Nat}
theorem Dd.grow(h:Dd w R s L O now de i er p)(hg:w.grownBy w' none):Dd w' R s L O now de i er p:=(hg.block R (dO h) (by simp)).trans h
theorem Dd.cells(h:Dd w R s L O now de i er p):w.cell? ⟨R,0,none⟩=some (.string s)/\w.cell? ⟨R,1,none⟩=some (.int .i64 (i:Nat))/\w.cell? ⟨R,2,none⟩=some L/\w.cell? ⟨R,3,none⟩=some O/\w.cell? ⟨R,4,none⟩=some (.int .i64 (now:Nat))/\w.cell? ⟨R,5,none⟩=some (.int .i64 er)/\w.cell? ⟨R,6,none⟩=some (.int .i64 (p:Nat))/\w.cell? ⟨R,7,none⟩=some (.int .i64 (de:Nat))/\∀k,w.frozen? ⟨R,k,none⟩=false :=
 ⟨by rw[ag h];rfl,by rw[ag h];rfl,by rw[ag h];rfl,by rw[ag h];rfl,by rw[ag h];rfl,by rw[ag h];rfl,by rw[ag h];rfl,by rw[ag h];rfl,fun k=>Lib.frozen_of_heap h k⟩
theorem Dd.setI(h:Dd w R s L O now de i er p)(j:Nat):Dd (w.setCell ⟨R,1,none⟩ (.int .i64 (j:Nat))) R s L O now de j er p:=block_setCell (i:=1) h _
theorem Dd.setL(h:Dd w R s L O now de i er p)(v:Value):Dd (w.setCell ⟨R,2,none⟩ v) R s v O now de i er p:=block_setCell (i:=2) h _
theorem Dd.setO(h:Dd w R s L O now de i er p)(v:Value):Dd (w.setCell ⟨R,3,none⟩ v) R s L v now de i er p:=block_setCell (i:=3) h _
theorem Dd.setN(h:Dd w R s L O now de i er p)(j:Nat):Dd (w.setCell ⟨R,4,none⟩ (.int .i64 (j:Nat))) R s L O j de i er p:=block_setCell (i:=4) h _
theorem Dd.setE(h:Dd w R s L O now de i er p)(e:Int):Dd (w.setCell ⟨R,5,none⟩ (.int .i64 e)) R s L O now de i e p:=block_setCell (i:=5) h _
theorem Dd.setA(h:Dd w R s L O now de i er p)(j:Nat):Dd (w.setCell ⟨R,6,none⟩ (.int .i64 (j:Nat))) R s L O now de i er j:=block_setCell (i:=6) h _
theorem Dd.setD(h:Dd w R s L O now de i er p)(j:Nat):Dd (w.setCell ⟨R,7,none⟩ (.int .i64 (j:Nat))) R s L O now j i er p:=block_setCell (i:=7) h _
end
def Ds(w:World)(R:Nat)(s:ByteArray)(L O:Value)(now de:Nat)(q:Rs Nat):Prop:=match q with | .ok i=>i<=s.size/\Dd w R s L O now de i 0 0 | .error (c,p)=>c≠0/\∃j,j<=s.size/\Dd w R s L O now de j c p
theorem Ds.grow{w w':World}{R:Nat}{s:ByteArray}{L O:Value}{now de:Nat}{q:Rs Nat}(h:Ds w R s L O now de q)(hg:w.grownBy w' none):Ds w' R s L O now de q:=by
 match q,h with
 | .ok i,h=>exact⟨h.1,h.2.grow hg⟩
 | .error (c,p),⟨h1,j,h2,h3⟩=>exact⟨h1,j,h2,h3.grow hg⟩
def iU(l:List UInt8)(q:Rs Nat)(c:Int):Bool:=match q with | .ok i=>decide (nx l i=c) | .error _=>false
theorem Lj(R:Nat)(s:ByteArray)(L O:Value)(now de i:Nat)(er:Int)(p:Nat)(e:Int)(a:Nat)(w:World)(h:Dd w R s L O now de i er p)(hE:¬er=0) :
  Calls prog 82 #[.pointer (some ⟨R,0,none⟩),.int .i64 e,.int .i64 (a:Nat)] w fun en w'=>en=.returned (.tuple #[])/\w'=w:=by
 obtain⟨-,-,-,-,-,c5,-,-,-⟩:=h.cells;have hn:(er == 0)=false:=by simpa using hE
 clear h hE;go_enter func82,ntmps82;go_wp2;exact bodyPost_end (results_none rfl _ _ _) rfl ⟨rfl,rfl⟩
theorem qg(R:Nat)(s:ByteArray)(L O:Value)(now de i:Nat)(e:Int)(a:Nat)(w:World)(h:Dd w R s L O now de i 0 0) :
  Calls prog 82 #[.pointer (some ⟨R,0,none⟩),.int .i64 e,.int .i64 (a:Nat)] w fun en w'=>en=.returned (.tuple #[])/\Dd w' R s L O now de i e a/\w.grownBy w' (some R):=by
 obtain⟨-,-,-,-,-,c5,c6,-,df⟩:=h.cells;have df5:=df 5;have df6:=df 6;have HS:=ae ((h.setE e).setA a);have HG:Hd (w.grownBy ((w.setCell ⟨R,5,none⟩ (.int .i64 e)).setCell ⟨R,6,none⟩ (.int .i64 (a:Nat))) (some R)):=aS (aS (au w (some R)) 5 _) 6 _;clear h df;go_enter func82,ntmps82;go_wp2;exact bodyPost_end (results_none rfl _ _ _) rfl ⟨rfl,HS.o,HG.o⟩
theorem tH(R:Nat)(s:ByteArray)(L O:Value)(now de:Nat)(q:Rs Nat)(c:Int)(hc:0<=c)(w:World)(h:Ds w R s L O now de q)(hs:s.size<=1048576) :
  Calls prog 52 #[.pointer (some ⟨R,0,none⟩),.int .u8 c] w fun e w'=>e=.returned (.bool (iU s.data.toList q c))/\w.grownBy w' none:=by
 have hl:s.data.toList.length=s.size:=by simp
 match q,h with
 | .error (k,p),⟨h1,j,h2,h3⟩ =>
  obtain⟨c0,c1,-,-,-,c5,-,-,-⟩:=h3.cells;have hn:(k == 0)=false:=by simpa using h1
  have e:iU s.data.toList (.error (k,p)) c=false:=rfl;rw[e];clear h3 h1 e;go_enter func52,ntmps52;go_wp2;go_quiet (fail);go_wp2;go_ret;exact⟨rfl,⟨rfl,rfl,rfl,Nat.le_refl _,fun _ _ _=>rfl⟩⟩
 | .ok i,⟨h1,h2⟩ =>
  obtain⟨c0,c1,-,-,-,c5,-,-,-⟩:=h2.cells;have e:iU s.data.toList (.ok i) c=decide (nx s.data.toList i=c):=rfl;rw[e];clear h2 e
  by_cases hlt:i<s.size
  ·have hn:nx s.data.toList i=(s[i].toNat:Int):=by rw[pX _ _ (by omega)];rfl
   rw[hn];obtain⟨b,hb⟩:=zN (((s[i].toNat:Int) == c));have hb2:decide ((s[i].toNat:Int)=c)=b:=by rw[<-hb,Bool.eq_iff_iff];simp
   have hlt':decide ((i:Int)<(s.size:Int))=true:=by simp;omega
   rw[hb2];clear hn hb2
   cases b with
   | true =>
    go_enter func52,ntmps52;go_wp2;go_quiet (fail);go_wp2;go_ret;exact⟨rfl,⟨rfl,rfl,rfl,Nat.le_refl _,fun _ _ _=>rfl⟩⟩
   | false =>
    go_enter func52,ntmps52;go_wp2;go_quiet (fail);go_wp2;go_ret;exact⟨rfl,⟨rfl,rfl,rfl,Nat.le_refl _,fun _ _ _=>rfl⟩⟩
  ·rw[jJ _ _ (by omega),decide_eq_false (by omega)];have hge:decide ((i:Int)<(s.size:Int))=false:=by simp;omega
   go_enter func52,ntmps52;go_wp2;go_quiet (fail);go_wp2;go_ret;exact⟨rfl,⟨rfl,rfl,rfl,Nat.le_refl _,fun _ _ _=>rfl⟩⟩
theorem Ll(R:Nat)(s:ByteArray)(L O:Value)(now de:Nat)(q:Rs Nat)(c:Int)(hc:0<=c)(w:World)(h:Ds w R s L O now de q)(hs:s.size<=1048576) :
  Calls prog 56 #[.pointer (some ⟨R,0,none⟩),.int .u8 c] w fun e w'=>e=.returned (.tuple #[])/\Ds w' R s L O now de (q.bind fun i=>must s.data.toList i c)/\w.grownBy w' (some R):=by
 have hl:s.data.toList.length=s.size:=by simp
 have CI:=ae (tH R s L O now de q c hc w h hs)
 match q,h with
 | .error (k,p),⟨h1,j,h2,h3⟩ =>
  have e:iU s.data.toList (.error (k,p)) c=false:=rfl;rw[e]at CI;have HD:=ae h3;have HK:=ae h1;have HJ:=ae h2;clear h3 h1 h2 e;go_enter func56,ntmps56;go_wp2_with (go_at_call 52;refine CI.o.mono ?_);rintro e w1 ⟨rfl,hg1⟩;have HD1:=ae (HD.o.grow hg1);have ax:=ae (aG (au w (some R)) hg1);obtain⟨-,c1,-⟩:=HD1.o.cells;clear hg1;go_wp2_with (go_at_call 82;refine(Lj R s L O now de j k p _ _ _ HD1.o HK.o).mono ?_;rintro e w2 ⟨rfl,rfl⟩);refine bodyPost_ret (results_none rfl _ _ _) rfl ?_;exact⟨rfl,⟨HK.o,j,HJ.o,HD1.o⟩,ax.o⟩
 | .ok i,⟨h1,h2⟩ =>
  have e:iU s.data.toList (.ok i) c=decide (nx s.data.toList i=c):=rfl;rw[e]at CI;have HD:=ae h2;have HI:=ae h1;have e2:(Except.bind (.ok i) fun i=>must s.data.toList i c:Rs Nat)=if nx s.data.toList i=c then .ok (i+1) else .error (2,i):=rfl;rw[e2];have bP:Hd (nx s.data.toList i=c->i<s.size):=fun hn=>by rw[<-hl];exact aY (by omega)
  clear h2 e e2
  by_cases hn:nx s.data.toList i=c
  ·rw[decide_eq_true hn]at CI;rw[if_pos hn];have hlt:=bP.o hn;clear hn bP;go_enter func56,ntmps56;go_wp2_with (go_at_call 52;refine CI.o.mono ?_);rintro e w1 ⟨rfl,hg1⟩;have HD1:=ae (HD.o.grow hg1);have ax:=ae (aG (au w (some R)) hg1);obtain⟨-,c1,-,-,-,-,-,-,df⟩:=HD1.o.cells;have df1:=df 1;have HS:Hd (Dd (w1.setCell ⟨R,1,none⟩ (.int .i64 ((i:Int)+1))) R s L O now de (i+1) 0 0):=HD1.o.setI (i+1);clear hg1 df;go_wp2;exact bodyPost_end (results_none rfl _ _ _) rfl ⟨rfl,⟨by omega,HS.o⟩,aS ax.o 1 _⟩
  ·rw[decide_eq_false hn]at CI;rw[if_neg hn];clear hn bP;go_enter func56,ntmps56;go_wp2_with (go_at_call 52;refine CI.o.mono ?_);rintro e w1 ⟨rfl,hg1⟩;have HD1:=ae (HD.o.grow hg1);have ax:=ae (aG (au w (some R)) hg1);obtain⟨-,c1,-⟩:=HD1.o.cells;clear hg1;go_wp2_with (go_at_call 82;refine(qg R s L O now de i 2 i _ HD1.o).mono ?_;rintro e w2 ⟨rfl,h2,h3⟩);refine bodyPost_ret (results_none rfl _ _ _) rfl ?_;exact⟨rfl,⟨by decide,i,HI.o,h2⟩,dK ax.o h3⟩
open Go.RowKit Go.Joins
def dI(wr:World)(R:Nat):Nat:=match wr.cell? ⟨R,1,none⟩ with|some (.int _ k)=>k.toNat|_=>0
theorem wR{w:World}{R:Nat}{s:ByteArray}{L O:Value}{now de i:Nat}{er:Int}{p:Nat}(h:Dd w R s L O now de i er p):dI w R=i:=by unfold dI;rw[h.cells.2.1];simp
def jo(l:List UInt8)(i:Nat):Rs Nat:=if(aZ l i).1=true then .ok (aZ l i).2 else .error (2,(aZ l i).2)
def jT(l:List UInt8)(i:Nat):Rs Nat:=if nx l (toR fB l i)=10\/nx l (toR fB l i)=-1 then .ok (toR fB l i) else .error (2,toR fB l i)
theorem Sv(l:List UInt8)(i:Nat)(h:nx l i=35):jo l i=jT l i:=by
 unfold jo aZ jT;rw[if_pos h]
 by_cases h2:nx l (toR fB l i)=10\/nx l (toR fB l i)=-1
 ·simp only[if_pos h2,if_true]
 ·simp[if_neg h2]
theorem Sz(l:List UInt8)(i:Nat)(h:¬nx l i=35):jo l i=.ok i:=by
 unfold jo;rw[yE l i h];rfl
theorem aaO(l:List UInt8)(i:Nat)(h:nx l i=-1):jT l i=.ok i:=by
 unfold jT;rw[Cb fB l i (Cc h),if_pos (Or.inr h)]
theorem aaP(l:List UInt8)(i:Nat)(h:nx l i=10):jT l i=.ok i:=by
 unfold jT;rw[kX fB l i (by rw[h];rfl),if_pos (Or.inl h)]
theorem aaQ(l:List UInt8)(i:Nat)(h:ji (nx l i)=true)(h10:¬nx l i=10)(h1:¬nx l i=-1):jT l i=.error (2,i):=by
 unfold jT;rw[kX fB l i (by unfold fB;rw[h];simp),if_neg (by rintro(h|h);exact h10 h;exact h1 h)]
theorem SA(l:List UInt8)(i:Nat)(h:ji (nx l i)=false)(h10:¬nx l i=10)(h1:¬nx l i=-1):jT l i=jT l (i+1):=by
 unfold jT;have hb:=Gv l i;rw[qV fB l i (aY (by omega)) (by unfold fB;rw[h];simp[h10])]
theorem SB(c:UInt8)(w:World):Calls prog 84 #[.int .u8 (c.toNat:Int)] w fun e w'=>e=.returned (.bool (ji (c.toNat:Int)))/\w'=w:=by
 have:=c.toNat_lt;go_enter func84,ntmps84;go_wp2
 all_goals go_ret
 all_goals (refine⟨bJ ?_,rfl⟩;rw[Bool.eq_iff_iff];unfold ji yD;simp;try omega)
theorem SC(R:Nat)(s:ByteArray)(L O:Value)(now de:Nat)(q:Rs Nat)(w:World)(h:Ds w R s L O now de q)(hs:s.size<=1048576) :
  Calls prog 51 #[.pointer (some ⟨R,0,none⟩)] w fun e w'=>e=.returned (.tuple #[])/\Ds w' R s L O now de (q.bind fun i=>.ok (bl s.data.toList i))/\w.grownBy w' (some R):=by
 have hl:s.data.toList.length=s.size:=by simp
 have CI:=ae (fun q c w (h0:0<=c) (h1:Ds w R s L O now de q)=>tH R s L O now de q c h0 w h1 hs);have HST:Hd (∀k,k<s.size->eU (nx s.data.toList k)=true->bl s.data.toList k=bl s.data.toList (k+1)):=fun k hk hb=>qV eU _ k (by omega) hb
 have kY:Hd (∀k,eU (nx s.data.toList k)=false->bl s.data.toList k=k):=fun k hb=>kX eU _ k hb
 have bP:Hd (∀k,0<=nx s.data.toList k->k<s.size):=fun k hb=>by rw[<-hl];exact aY hb
 obtain⟨J,hJ⟩:∃J:Rs Nat,(q.bind fun i=>.ok (bl s.data.toList i))=J:=⟨_,rfl⟩;have HJ:=ae hJ;have H0:=ae h;rw[hJ];clear h hJ;go_enter func51,ntmps51;go_wp2;go_loopw [] (fun wr=>∃q:Rs Nat,Ds wr R s L O now de q/\(q.bind fun i=>.ok (bl s.data.toList i))=J/\w.grownBy wr (some R)) (fun wr=>s.size-dI wr R)
 case atStart=>exact⟨q,H0.o,HJ.o,au _ _⟩
 case round =>
  obtain⟨q,hds,hbl,hg⟩:=hrel;have HG:=ae hg;have C1:=ae (CI.o q);have fG:=ae hds;have fP:=ae hbl;clear hds hbl hg;obtain⟨b1,hb1⟩:=zN (iU s.data.toList q 32);obtain⟨b2,hb2⟩:=zN (iU s.data.toList q 9);have yK:Hd (∀w,Ds w R s L O now de q->Calls prog 52 #[.pointer (some ⟨R,0,none⟩),.int .u8 32] w fun e w'=>e=.returned (.bool b1)/\w.grownBy w' none):=fun w h=>by rw[<-hb1];exact C1.o 32 w (by decide) h
  have C9:Hd (∀w,Ds w R s L O now de q->Calls prog 52 #[.pointer (some ⟨R,0,none⟩),.int .u8 9] w fun e w'=>e=.returned (.bool b2)/\w.grownBy w' none):=fun w h=>by rw[<-hb2];exact C1.o 9 w (by decide) h
  have HB1:=ae hb1;have HB2:=ae hb2;clear hb1 hb2;have SE:Hd ((b1=true\/b2=true)->∃k,k<s.size/\Dd wr R s L O now de k 0 0/\(Except.ok (bl s.data.toList (k+1)):Rs Nat)=J):=fun hor=>by
   match q,fG.o,HB1.o,HB2.o,fP.o with
   | .error e,_,hh1,hh2,_=>
    exfalso;unfold iU at hh1 hh2;subst hh1 hh2
    rcases hor with h|h<;>cases h
   | .ok k,hd,hh1,hh2,hj =>
    have hx:eU (nx s.data.toList k)=true:=by
     unfold iU at hh1 hh2;unfold eU;subst hh1 hh2
     rcases hor with h|h
     ·have:=of_decide_eq_true h;simp[this]
     ·have:=of_decide_eq_true h;simp[this]
    have hkl:=bP.o k (by unfold eU at hx;have:=of_decide_eq_true hx;omega);refine⟨k,hkl,hd.2,?_⟩;rw[<-HST.o k hkl hx];exact hj
  have qW:Hd (b1=false->b2=false->q=J):=fun h1 h2=>by
   match q,fG.o,HB1.o,HB2.o,fP.o with
   | .error e,_,_,_,hj=>exact hj
   | .ok k,hd,hh1,hh2,hj =>
    rw[<-hj];show _=Except.ok _;rw[kY.o k];unfold iU at hh1 hh2;unfold eU;rw[h1]at hh1;rw[h2]at hh2;have:=of_decide_eq_false hh1;have:=of_decide_eq_false hh2;simp[*]
  have step:∀(wx:World) (k:Nat),wr.grownBy wx none->k<s.size->Dd wr R s L O now de k 0 0->(Except.ok (bl s.data.toList (k+1)):Rs Nat)=J->(∃q:Rs Nat,Ds (wx.setCell ⟨R,1,none⟩ (.int .i64 ((k:Int)+1))) R s L O now de q/\(q.bind fun i=>.ok (bl s.data.toList i))=J/\w.grownBy (wx.setCell ⟨R,1,none⟩ (.int .i64 ((k:Int)+1))) (some R))/\s.size-dI (wx.setCell ⟨R,1,none⟩ (.int .i64 ((k:Int)+1))) R<s.size-dI wr R:=fun wx k hg hk hd hj=>by
   have hd2:=(hd.grow hg).setI (k+1);refine⟨⟨.ok (k+1),⟨by omega,hd2⟩,hj,aS (aG HG.o hg) 1 _⟩,?_⟩;have e1:=wR hd2;rw[wR hd];have e2:(wx.setCell ⟨R,1,none⟩ (.int .i64 ((k+1:Nat):Int)))=wx.setCell ⟨R,1,none⟩ (.int .i64 ((k:Int)+1)):=rfl;rw[e2]at e1;rw[e1];omega
  have SG:=ae step;clear step
  cases b1 with
  | true =>
   obtain⟨k,hk,hd,hj⟩:=SE.o (Or.inl rfl);have HD:=ae hd;have HJ2:=ae hj;clear hd hj;go_wp2_with (go_at_call 52;refine(yK.o _ fG.o).mono ?_)
   first|rintro e w1 rfl hg1|rintro e w1 ⟨rfl,hg1⟩
   have ax:=ae hg1;obtain⟨-,c1,-,-,-,-,-,-,df⟩:=(HD.o.grow hg1).cells;have df1:=df 1;clear hg1 df;go_wp2;exact SG.o w1 k ax.o hk HD.o HJ2.o
  | false =>
   cases b2 with
   | true =>
    obtain⟨k,hk,hd,hj⟩:=SE.o (Or.inr rfl);have HD:=ae hd;have HJ2:=ae hj;clear hd hj;go_wp2_with (go_at_call 52;refine(yK.o _ fG.o).mono ?_)
    first|rintro e w1 rfl hg1|rintro e w1 ⟨rfl,hg1⟩
    have ax:=ae hg1;clear hg1;go_wp2_with (go_at_call 52;refine(C9.o _ (fG.o.grow ax.o)).mono ?_)
    first|rintro e w2 rfl hg2|rintro e w2 ⟨rfl,hg2⟩
    have HG2:=ae (ai ax.o hg2);obtain⟨-,c1,-,-,-,-,-,-,df⟩:=(HD.o.grow HG2.o).cells;have df1:=df 1;clear hg2 df;go_wp2;exact SG.o w2 k HG2.o hk HD.o HJ2.o
   | false =>
    have HQ:=ae (qW.o rfl rfl);go_wp2_with (go_at_call 52;refine(yK.o _ fG.o).mono ?_)
    first|rintro e w1 rfl hg1|rintro e w1 ⟨rfl,hg1⟩
    have ax:=ae hg1;clear hg1;go_wp2_with (go_at_call 52;refine(C9.o _ (fG.o.grow ax.o)).mono ?_)
    first|rintro e w2 rfl hg2|rintro e w2 ⟨rfl,hg2⟩
    have HG2:=ae (ai ax.o hg2);clear hg2;go_wp2;refine bodyPost_end (results_none rfl _ _ _) rfl ⟨rfl,?_,aG HG.o HG2.o⟩;rw[<-HQ.o];exact fG.o.grow HG2.o
theorem aaR(l:List UInt8)(f i:Nat)(h:eU (nx l i)=true):gap l f i=gap l f (i+1)\/f=0:=by
 cases f with
 | zero=>exact Or.inr rfl
 | succ f =>
  left;have hi:i<l.length:=aY (by unfold eU at h;have:=of_decide_eq_true h;omega);have e:bl l i=bl l (i+1):=qV eU l i hi h;rw[uP,uP,e]
theorem SH(l:List UInt8)(f i:Nat)(h:nx l i=10):gap l (f+1) i=gap l f (i+1):=by
 have e:bl l i=i:=kX eU l i (by rw[h];rfl);have e2:=yE l i (by rw[h];decide);rw[uP,e,e2];simp only[h];rfl
theorem SK(l:List UInt8)(f i:Nat)(h:eU (nx l i)=false)(h1:¬nx l i=10)(h2:¬nx l i=35):gap l (f+1) i=.ok i:=by
 have e:bl l i=i:=kX eU l i h;have e2:=yE l i h2;rw[uP,e,e2];simp[h1]
theorem aaS(l:List UInt8)(f i:Nat)(h:nx l i=35):gap l (f+1) i=(jo l i).bind (gap l (f+1)):=by
 have e:bl l i=i:=kX eU l i (by rw[h];rfl);rw[uP,e];unfold jo;have hc:aZ l i=if nx l (toR fB l i)=10\/nx l (toR fB l i)=-1 then(true,toR fB l i) else(false,toR fB l i):=by unfold aZ;rw[if_pos h]
 rw[hc]
 by_cases h1:nx l (toR fB l i)=10\/nx l (toR fB l i)=-1
 ·simp only[if_pos h1,if_true];rw[if_neg (by decide)];show _=gap l (f+1) (toR fB l i)
  rcases h1 with h1|h1
  ·rw[if_pos h1,SH l f _ h1]
  ·rw[if_neg (by rw[h1];decide),SK l f _ (by rw[h1];rfl) (by rw[h1];decide) (by rw[h1];decide)]
 ·simp only[if_neg h1,if_true];rw[if_neg (by decide)];rfl
theorem aaT(l:List UInt8)(i j:Nat)(h:nx l i=35)(hj:jo l i=.ok j):i<j/\j<=l.length:=by
 have hi:i<l.length:=aY (by omega);rw[Sv l i h,SA l i (by rw[h];rfl) (by rw[h];decide) (by rw[h];decide)]at hj;have:=pY fB l (i+1) (by omega);unfold jT at hj;split at hj
 ·injection hj with hj;omega
 ·cases hj
def jB:List UInt8->Nat->Nat
 | [],n=>n
 | c :: r,n=>jB r (if n<=99999999999999999 then 10*n+(c.toNat - 48) else 1000000000000000000)
theorem SN:∀(ds:List UInt8),jB ds 1000000000000000000=1000000000000000000
 | []=>rfl
 | c :: r=>by
  unfold jB;rw[if_neg (by omega)];exact SN r
theorem SS:∀(ds:List UInt8) (n a:Nat),(∀c∈ds,c.toNat<=57)->n<10 ^ a->a+ds.length<=18->jB ds n=ja ds n/\ja ds n<10 ^ (a+ds.length)
 | [],n,a,_,hn,_=>⟨rfl,hn⟩
 | c :: r,n,a,hd,hn,hl=>by
  have hc:=hd c (by simp);simp only[List.length_cons]at hl ⊢;have h17:10 ^ a<=10 ^ 17:=Nat.pow_le_pow_right (by omega) (by omega);have hle:n<=99999999999999999:=by
   have e:(10:Nat) ^ 17=100000000000000000:=by decide
   omega
  unfold jB ja;rw[if_pos hle];have hn':10*n+(c.toNat - 48)<10 ^ (a+1):=by rw[Nat.pow_succ];omega
  have:=SS r _ (a+1) (fun x hx=>hd x (by simp[hx])) hn' (by omega);rw[show a+1+r.length=a+(r.length+1) by omega]at this;exact this
theorem SV:∀(ds:List UInt8) (n a:Nat),(∀c∈ds,c.toNat<=57)->10 ^ a<=n->n<=1000000000000000000->18<=a+ds.length->jB ds n=1000000000000000000
 | [],n,a,_,hn,hm,hl=>by
  have h18:10 ^ 18<=10 ^ a:=Nat.pow_le_pow_right (by omega) (by simpa using hl);have e:(10:Nat) ^ 18=1000000000000000000:=by decide
  show n=_;omega
 | c :: r,n,a,hd,hn,hm,hl=>by
  have hc:=hd c (by simp);unfold jB
  by_cases hle:n<=99999999999999999
  ·rw[if_pos hle];refine SV r _ (a+1) (fun x hx=>hd x (by simp[hx])) (by rw[Nat.pow_succ];omega) (by omega) (by simp only[List.length_cons]at hl;omega)
  ·rw[if_neg hle];exact SN r
theorem SX:∀(a b:List UInt8) (n:Nat),jB (a++b) n=jB b (jB a n)
 | [],b,n=>rfl
 | c :: r,b,n=>by
  show jB (r++b) _=jB b (jB r _);rw[SX r b]
open Go.RowKit Go.Joins
def dE(wr:World)(R:Nat):Int:=match wr.cell? ⟨R,5,none⟩ with|some (.int _ e)=>e|_=>1
theorem SY{w:World}{R:Nat}{s:ByteArray}{L O:Value}{now de i:Nat}{er:Int}{p:Nat}(h:Dd w R s L O now de i er p):dE w R=er:=by unfold dE;rw[h.cells.2.2.2.2.2.1]
def dM(wr:World)(R:Nat)(s:ByteArray):Nat:=if dE wr R=0 then s.size-dI wr R+1 else 0
theorem uU{w:World}{R:Nat}{s:ByteArray}{L O:Value}{now de i:Nat}{p:Nat}(h:Dd w R s L O now de i 0 p):dM w R s=s.size-i+1:=by
 unfold dM;rw[SY h,wR h,if_pos rfl]
theorem GM{w:World}{R:Nat}{s:ByteArray}{L O:Value}{now de i:Nat}{er:Int}{p:Nat}(h:Dd w R s L O now de i er p)(he:¬er=0):dM w R s=0:=by
 unfold dM;rw[SY h,if_neg he]
theorem byte_at(s:ByteArray)(k:Nat)(hk:k<s.size):nx s.data.toList k=(s[k].toNat:Int):=by
 rw[pX _ _ (by simpa using hk)];rfl
theorem S9(R:Nat)(s:ByteArray)(L O:Value)(now de:Nat)(q:Rs Nat)(w:World)(h:Ds w R s L O now de q)(hs:s.size<=1048576) :
  Calls prog 55 #[.pointer (some ⟨R,0,none⟩)] w fun e w'=>e=.returned (.tuple #[])/\Ds w' R s L O now de (q.bind (jo s.data.toList))/\w.grownBy w' (some R):=by
 have hl:s.data.toList.length=s.size:=by simp
 have CI:=ae (tH R s L O now de q 35 (by decide) w h hs);have fG:=ae h;have ry:Hd (iU s.data.toList q 35=true->∃k,q=.ok k/\q.bind (jo s.data.toList)=jT s.data.toList k):=fun hh=>by
  match q with
  | .error e=>unfold iU at hh;cases hh
  | .ok k=>exact⟨k,rfl,Sv _ k (of_decide_eq_true hh)⟩
 have HC2:Hd (iU s.data.toList q 35=false->q.bind (jo s.data.toList)=q):=fun hh=>by
  match q with
  | .error e=>rfl
  | .ok k=>exact Sz _ k (of_decide_eq_false hh)
 obtain⟨b,hb⟩:=zN (iU s.data.toList q 35);rw[hb]at CI ry HC2;have HX:Hd (∀k (hk:k<s.size),nx s.data.toList k=(s[k].toNat:Int)):=byte_at s;have jC:Hd (∀k,nx s.data.toList k=10->jT s.data.toList k=.ok k):=aaP _;have HE2:Hd (∀k,s.size<=k->jT s.data.toList k=.ok k):=fun k hk=>aaO _ _ (jJ _ _ (by omega))
 have Lm:Hd (∀k (hk:k<s.size),ji (s[k].toNat:Int)=true->¬(s[k].toNat:Int)=10->jT s.data.toList k=.error (2,k)):=fun k hk h1 h2=>aaQ _ _ (by rw[byte_at s k hk];exact h1) (by rw[byte_at s k hk];exact h2) (by rw[byte_at s k hk];omega)
 have GN:Hd (∀k (hk:k<s.size),ji (s[k].toNat:Int)=false->¬(s[k].toNat:Int)=10->jT s.data.toList k=jT s.data.toList (k+1)):=fun k hk h1 h2=>SA _ _ (by rw[byte_at s k hk];exact h1) (by rw[byte_at s k hk];exact h2) (by rw[byte_at s k hk];omega)
 clear h hb
 cases b with
 | false =>
  rw[HC2.o rfl];go_enter func55,ntmps55;go_wp2_with (go_at_call 52;refine CI.o.mono ?_)
  first|rintro e w1 rfl hg1|rintro e w1 ⟨rfl,hg1⟩
  have ax:=ae hg1;clear hg1;go_wp2;refine bodyPost_ret (results_none rfl _ _ _) rfl ?_;exact⟨rfl,fG.o.grow ax.o,aG (au w (some R)) ax.o⟩
 | true =>
  obtain⟨k0,hq,hcr⟩:=ry.o rfl;rw[hcr];obtain⟨Q,hQ⟩:=zN (jT s.data.toList k0);have HQ:=ae hQ;rw[hQ];have HD0:Hd (k0<=s.size/\Dd w R s L O now de k0 0 0):=by
   have:=fG.o;rw[hq]at this;exact this
  clear hq hcr hQ ry HC2 fG;go_enter func55,ntmps55;go_wp2_with (go_at_call 52;refine CI.o.mono ?_)
  first|rintro e w1 rfl hg1|rintro e w1 ⟨rfl,hg1⟩
  have ax:=ae (aG (au w (some R)) hg1);have HD1:=ae (HD0.o.2.grow hg1);clear hg1;go_wp2;go_loopw [] (fun wr=>∃q:Rs Nat,Ds wr R s L O now de q/\q.bind (jT s.data.toList)=Q/\w.grownBy wr (some R)) (fun wr=>dM wr R s)
  case atStart=>exact⟨.ok k0,⟨HD0.o.1,HD1.o⟩,HQ.o,ax.o⟩
  case round =>
   obtain⟨q,hds,hbl,hg⟩:=hrel;have HG:=ae hg;clear hg
   match q,hds,hbl with
   | .error (c,p),⟨hc,j,hj,hd⟩,hq =>
    have ng:Hd (Q=.error (c,p)):=hq.symm;obtain⟨c0,c1,-,-,-,c5,-,-,-⟩:=hd.cells;have hn:(c == 0)=false:=by simpa using hc
    have HD:=ae hd;have HC:=ae hc;clear hd hq hc
    by_cases hlt:j<s.size
    ·have hlt':decide ((j:Int)<(s.size:Int))=true:=by simp;omega
     obtain⟨b,hb⟩:=zN (((s[j].toNat:Int) != 10))
     cases b with
     | true =>
      go_wp2;go_quiet (fail);go_wp2;refine bodyPost_end (results_none rfl _ _ _) rfl ?_;rw[ng.o];exact⟨rfl,⟨HC.o,j,hj,HD.o⟩,⟨HG.o.os,HG.o.tape,HG.o.output,HG.o.size,HG.o.block⟩⟩
     | false =>
      go_wp2;go_quiet (fail);go_wp2;refine bodyPost_end (results_none rfl _ _ _) rfl ?_;rw[ng.o];exact⟨rfl,⟨HC.o,j,hj,HD.o⟩,⟨HG.o.os,HG.o.tape,HG.o.output,HG.o.size,HG.o.block⟩⟩
    ·have hge:decide ((j:Int)<(s.size:Int))=false:=by simp;omega
     go_wp2;go_quiet (fail);go_wp2;refine bodyPost_end (results_none rfl _ _ _) rfl ?_;rw[ng.o];exact⟨rfl,⟨HC.o,j,hj,HD.o⟩,⟨HG.o.os,HG.o.tape,HG.o.output,HG.o.size,HG.o.block⟩⟩
   | .ok k,⟨hk,hd⟩,hq =>
    have GR:Hd (jT s.data.toList k=Q):=hq;obtain⟨c0,c1,-,-,-,c5,-,-,df⟩:=hd.cells;have df1:=df 1;have HD:=ae hd;have HM:=ae (uU hd);clear hd hq df
    by_cases hlt:k<s.size
    ·have hlt':decide ((k:Int)<(s.size:Int))=true:=by simp;omega
     have hu:=s[k].toNat_lt;have GU:=ae (HX.o k hlt);have aaU:=ae (jC.o k);have Tc:=ae (Lm.o k hlt);have Td:=ae (GN.o k hlt);have CC:=ae (SB s[k]);obtain⟨b,hb⟩:=zN (((s[k].toNat:Int) != 10))
     cases b with
     | false =>
      have ng:Hd (Q=.ok k):=by
       show _=_;rw[<-GR.o,aaU.o (by rw[GU.o];simpa using hb)]
      go_wp2;go_quiet (fail);go_wp2;refine bodyPost_end (results_none rfl _ _ _) rfl ?_;rw[ng.o];exact⟨rfl,⟨hk,HD.o⟩,⟨HG.o.os,HG.o.tape,HG.o.output,HG.o.size,HG.o.block⟩⟩
     | true =>
      have Ce:Hd (¬(s[k].toNat:Int)=10):=by
       show ¬_;simpa using hb
      obtain⟨b2,hb2⟩:=zN (ji (s[k].toNat:Int));rw[hb2]at CC Tc Td;clear hb2
      cases b2 with
      | true =>
       have ng:=ae (GR.o.symm.trans (Tc.o rfl Ce.o));have CF:=ae (fun wx (hg:Dd wx R s L O now de k 0 0)=>qg R s L O now de k 2 k wx hg);go_wp2;go_quiet (fail);have aF:Hd (Dd (wr.drewN nq) R s L O now de k 0 0):=HD.o;have dW:=ae (ay HG.o nq);obtain⟨wA,hwA⟩:=zN (wr.drewN nq);rw[hwA]at aF dW ⊢;obtain⟨d0,d1,-,-,-,d5,-,-,dg⟩:=aF.o.cells;have dg1:=dg 1;clear hwA dg;go_wp2;go_quiet (first|(go_at_call 84;exact Calls.quiet_of_same (CC.o _)));go_wp2_with (first|(go_at_call 84;refine(CC.o _).mono ?_;rintro e w' ⟨rfl,rfl⟩)|(go_at_call 82;refine(CF.o _ ?_).mono ?_;exact aF.o;rintro e w2 ⟨rfl,hd2,hg2⟩;obtain⟨-,d1,-,-,-,-,-,-,dff⟩:=hd2.cells;have dff1:=dff 1));refine⟨⟨.error (2,k),⟨by decide,k+1,by omega,hd2.setI (k+1)⟩,ng.o.symm,aS (dK (w1:=wA) dW.o ⟨hg2.os,hg2.tape,hg2.output,hg2.size,hg2.block⟩) 1 _⟩,?_⟩;rw[HM.o]
       have e1:=GM (hd2.setI (k+1)) (by decide);have e2:(w2.setCell ⟨R,1,none⟩ (.int .i64 ((k+1:Nat):Int)))=w2.setCell ⟨R,1,none⟩ (.int .i64 ((k:Int)+1)):=rfl;rw[e2]at e1;rw[e1];omega
      | false =>
       have ng:=ae ((Td.o rfl Ce.o).symm.trans GR.o);go_wp2;go_quiet (fail);have aF:Hd (Dd (wr.drewN nq) R s L O now de k 0 0):=HD.o;have dW:=ae (ay HG.o nq);obtain⟨wA,hwA⟩:=zN (wr.drewN nq);rw[hwA]at aF dW ⊢;obtain⟨d0,d1,-,-,-,d5,-,-,dg⟩:=aF.o.cells;have dg1:=dg 1;clear hwA dg;go_wp2;go_quiet (first|(go_at_call 84;exact Calls.quiet_of_same (CC.o _)));go_wp2_with (go_at_call 84;refine(CC.o _).mono ?_;rintro e w' ⟨rfl,rfl⟩);have HS:=aF.o.setI (k+1);refine⟨⟨.ok (k+1),⟨by omega,HS⟩,ng.o,?_⟩,?_⟩
       ·exact aS (ay dW.o _) 1 _
       ·rw[HM.o];refine Nat.lt_of_le_of_lt (Nat.le_of_eq (uU (i:=k+1) HS)) (by omega)
    ·have hge:decide ((k:Int)<(s.size:Int))=false:=by simp;omega
     have ng:=ae (GR.o.symm.trans (HE2.o k (by omega)));go_wp2;go_quiet (fail);go_wp2;refine bodyPost_end (results_none rfl _ _ _) rfl ?_;rw[ng.o];exact⟨rfl,⟨hk,HD.o⟩,⟨HG.o.os,HG.o.tape,HG.o.output,HG.o.size,HG.o.block⟩⟩
end Go.Proofs.YtnnbgjaphfhibaaGreatDoor
