import Derived.Test.YtnnbgjaphfhibaaGreatDoorN01
import Derived.Lib.DecodeNEq
set_option linter.unusedVariables false
set_option linter.unusedSimpArgs false
set_option maxRecDepth 100000
set_option maxHeartbeats 6400000
namespace Go.Proofs.YtnnbgjaphfhibaaGreatDoor
def uU(c x1 x2 x3:Int):Nat :=
 if c<0 then 0
 else if c<128 then 1
 else if c<194\/244<c then 0
 else if decide ((if c=224 then 160 else if c=240 then 144 else 128)<=x1/\x1<=(if c=237 then 159 else if c=244 then 143 else 191))=false then 0
 else if c<224 then 2
 else if decide (128<=x2/\x2<=191)=false then 0
 else if c<240 then 3
 else if decide (128<=x3/\x3<=191)=false then 0
 else 4
theorem XC(l:List UInt8)(i:Nat):aJ l i=uU (nx l i) (nx l (i+1)) (nx l (i+2)) (nx l (i+3)):=rfl
theorem XD(b0:Nat)(x1 x2 x3:Int)(h:b0<128):uU (b0:Int) x1 x2 x3=1:=by
 unfold uU;rw[if_neg (by omega),if_pos (by omega)]
theorem XE(b0:Nat)(x1 x2 x3:Int)(h:128<=b0)(h2:b0<194\/244<b0):uU (b0:Int) x1 x2 x3=0:=by
 unfold uU;rw[if_neg (by omega),if_neg (by omega),if_pos (by omega)]
theorem xn(b0:Nat)(x1 x2 x3:Int)(lo hi:Int)(h:194<=b0/\b0<=244)(hlo:(if(b0:Int)=224 then 160 else if(b0:Int)=240 then 144 else 128)=lo)(hhi:(if(b0:Int)=237 then 159 else if(b0:Int)=244 then 143 else 191)=hi) :
  uU (b0:Int) x1 x2 x3=if lo<=x1/\x1<=hi then(if b0<224 then 2 else if 128<=x2/\x2<=191 then(if b0<240 then 3 else if 128<=x3/\x3<=191 then 4 else 0) else 0) else 0:=by
 unfold uU;rw[if_neg (by omega),if_neg (by omega),if_neg (by omega),hlo,hhi]
 by_cases h1:lo<=x1/\x1<=hi
 ·rw[if_neg (by simp[h1]),if_pos h1]
  by_cases h2:b0<224
  ·rw[if_pos (by omega),if_pos h2]
  ·rw[if_neg (by omega),if_neg h2]
   by_cases h3:128<=x2/\x2<=191
   ·rw[if_neg (by simp[h3]),if_pos h3]
    by_cases h4:b0<240
    ·rw[if_pos (by omega),if_pos h4]
    ·rw[if_neg (by omega),if_neg h4]
     by_cases h5:128<=x3/\x3<=191
     ·rw[if_neg (by simp[h5]),if_pos h5]
     ·rw[if_pos (by simpa using h5),if_neg h5]
   ·rw[if_pos (by simpa using h3),if_neg h3]
 ·rw[if_pos (by simpa using h1),if_neg h1]
def Told(S:Nat)(q:Nat × Nat):Prop:=(S=0->q=(65533,1))/\(0<S->q.2=S/\¬(q.1=65533/\q.2=1))
theorem XF(n b0 b1 b2 b3 sz lo hi:Nat)(hsz:sz=2\/sz=3\/sz=4)(h:n<sz\/(b1<lo\/hi<b1)\/(3<=sz/\(b2<128\/191<b2))\/(4<=sz/\(b3<128\/191<b3))):Lib.slowN n b0 b1 b2 b3 sz lo hi=(65533,1):=by
 unfold Lib.slowN
 by_cases a1:n<sz
 ·rw[if_pos a1]
 rw[if_neg a1]
 by_cases a2:b1<lo\/hi<b1
 ·rw[if_pos a2]
 rw[if_neg a2,if_neg (show ¬sz<=2 by omega)]
 by_cases a3:b2<128\/191<b2
 ·rw[if_pos a3]
 rw[if_neg a3,if_neg (show ¬sz<=3 by omega),if_pos (by omega)]
theorem XG(n b0 b1 b2 b3 sz lo hi:Nat)(hsz:sz=2\/sz=3\/sz=4)(h:¬(n<sz\/(b1<lo\/hi<b1)\/(3<=sz/\(b2<128\/191<b2))\/(4<=sz/\(b3<128\/191<b3)))):(Lib.slowN n b0 b1 b2 b3 sz lo hi).2=sz:=by
 unfold Lib.slowN;rw[if_neg (by omega),if_neg (by omega)]
 by_cases a2:sz<=2
 ·rw[if_pos a2];show 2=sz;omega
 rw[if_neg a2,if_neg (by omega)]
 by_cases a3:sz<=3
 ·rw[if_pos a3];show 3=sz;omega
 rw[if_neg a3,if_neg (by omega)];show 4=sz;omega
theorem xq(n b0 b1 b2 b3 sz lo hi:Nat)(x1 x2 x3:Int)(hsz:(b0<224/\sz=2)\/(224<=b0/\b0<240/\sz=3)\/(240<=b0/\sz=4))(hlo:128<=lo)(hn:1<=n)
  (e1:x1=if 1<n then(b1:Int) else -1) (e2:x2=if 2<n then(b2:Int) else -1) (e3:x3=if 3<n then(b3:Int) else -1) :
  Told (if(lo:Int)<=x1/\x1<=(hi:Int) then(if b0<224 then 2 else if 128<=x2/\x2<=191 then(if b0<240 then 3 else if 128<=x3/\x3<=191 then 4 else 0) else 0) else 0) (Lib.slowN n b0 b1 b2 b3 sz lo hi):=by
 have f1:(1<n/\x1=b1)\/(n<=1/\x1=-1):=by
  by_cases a:1<n
  ·rw[if_pos a]at e1;exact Or.inl ⟨a,e1⟩
  ·rw[if_neg a]at e1;exact Or.inr ⟨by omega,e1⟩
 have f2:(2<n/\x2=b2)\/(n<=2/\x2=-1):=by
  by_cases a:2<n
  ·rw[if_pos a]at e2;exact Or.inl ⟨a,e2⟩
  ·rw[if_neg a]at e2;exact Or.inr ⟨by omega,e2⟩
 have f3:(3<n/\x3=b3)\/(n<=3/\x3=-1):=by
  by_cases a:3<n
  ·rw[if_pos a]at e3;exact Or.inl ⟨a,e3⟩
  ·rw[if_neg a]at e3;exact Or.inr ⟨by omega,e3⟩
 clear e1 e2 e3
 by_cases hb:n<sz\/(b1<lo\/hi<b1)\/(3<=sz/\(b2<128\/191<b2))\/(4<=sz/\(b3<128\/191<b3))
 ·rw[XF n b0 b1 b2 b3 sz lo hi (by omega) hb];refine⟨fun _=>rfl,fun hp=>?_⟩;exfalso
  by_cases a1:(lo:Int)<=x1/\x1<=(hi:Int)
  ·rw[if_pos a1]at hp
   by_cases a2:b0<224
   ·omega
   rw[if_neg a2]at hp
   by_cases a3:128<=x2/\x2<=191
   ·rw[if_pos a3]at hp
    by_cases a4:b0<240
    ·omega
    rw[if_neg a4]at hp
    by_cases a5:128<=x3/\x3<=191
    ·omega
    ·rw[if_neg a5]at hp;omega
   ·rw[if_neg a3]at hp;omega
  ·rw[if_neg a1]at hp;omega
 ·have hg:=XG n b0 b1 b2 b3 sz lo hi (by omega) hb;have hS:(if(lo:Int)<=x1/\x1<=(hi:Int) then(if b0<224 then 2 else if 128<=x2/\x2<=191 then(if b0<240 then 3 else if 128<=x3/\x3<=191 then 4 else 0) else 0) else 0)=sz:=by
   rw[if_pos (by omega)]
   by_cases a2:b0<224
   ·rw[if_pos a2];omega
   rw[if_neg a2,if_pos (by omega)]
   by_cases a4:b0<240
   ·rw[if_pos a4];omega
   rw[if_neg a4,if_pos (by omega)];omega
  rw[hS];exact⟨fun hz=>absurd hz (by omega),fun _=>⟨hg,fun hh=>by omega⟩⟩
theorem XH(b0:Nat)(h:128<=b0)(h2:b0<194\/244<b0):Lib.firstT b0=241:=by
 unfold Lib.firstT;rw[if_neg (by omega)]
 by_cases a:b0<194
 ·rw[if_pos a]
 ·rw[if_neg a,if_neg (by omega),if_neg (by omega),if_neg (by omega),if_neg (by omega),if_neg (by omega),if_neg (by omega),if_neg (by omega),if_neg (by omega)]
theorem XI(n b0 b1 b2 b3:Nat)(x1 x2 x3:Int)(hn:1<=n)(h0:b0<256)(h1:b1<256)(h2:b2<256)(h3:b3<256)
  (e1:x1=if 1<n then(b1:Int) else -1) (e2:x2=if 2<n then(b2:Int) else -1) (e3:x3=if 3<n then(b3:Int) else -1) :
  Told (uU (b0:Int) x1 x2 x3) (Lib.decodeN n b0 b1 b2 b3):=by
 by_cases ha:b0<128
 ·rw[XD b0 x1 x2 x3 ha,Lib.ascii_eq n b0 b1 b2 b3 (by unfold Lib.firstT;rw[if_pos ha])];exact⟨fun h=>(by cases h),fun _=>⟨rfl,fun hh=>by simp at hh;omega⟩⟩
 by_cases hb:b0<194\/244<b0
 ·rw[XE b0 x1 x2 x3 (by omega) hb,Lib.bad_eq n b0 b1 b2 b3 h0 (XH b0 (by omega) hb)];exact⟨fun _=>rfl,fun h=>absurd h (by decide)⟩
 have hr:194<=b0/\b0<=244:=by omega
 by_cases c1:b0<224
 ·rw[<-Lib.slow_C2 n b0 b1 b2 b3 hn h1 h2 h3 (by omega),xn b0 x1 x2 x3 128 191 hr (by rw[if_neg (by omega),if_neg (by omega)]) (by rw[if_neg (by omega),if_neg (by omega)])];exact xq n b0 b1 b2 b3 2 128 191 x1 x2 x3 (by omega) (by omega) hn e1 e2 e3
 by_cases c2:b0=224
 ·rw[<-Lib.slow_E0 n b0 b1 b2 b3 hn h1 h2 h3 c2,xn b0 x1 x2 x3 160 191 hr (by rw[if_pos (by omega)]) (by rw[if_neg (by omega),if_neg (by omega)])];exact xq n b0 b1 b2 b3 3 160 191 x1 x2 x3 (by omega) (by omega) hn e1 e2 e3
 by_cases c3:b0=237
 ·rw[<-Lib.slow_ED n b0 b1 b2 b3 hn h1 h2 h3 c3,xn b0 x1 x2 x3 128 159 hr (by rw[if_neg (by omega),if_neg (by omega)]) (by rw[if_pos (by omega)])];exact xq n b0 b1 b2 b3 3 128 159 x1 x2 x3 (by omega) (by omega) hn e1 e2 e3
 by_cases c4:b0<240
 ·rw[<-Lib.slow_E1 n b0 b1 b2 b3 hn h1 h2 h3 (by omega),xn b0 x1 x2 x3 128 191 hr (by rw[if_neg (by omega),if_neg (by omega)]) (by rw[if_neg (by omega),if_neg (by omega)])];exact xq n b0 b1 b2 b3 3 128 191 x1 x2 x3 (by omega) (by omega) hn e1 e2 e3
 by_cases c5:b0=240
 ·rw[<-Lib.slow_F0 n b0 b1 b2 b3 hn h1 h2 h3 c5,xn b0 x1 x2 x3 144 191 hr (by rw[if_neg (by omega),if_pos (by omega)]) (by rw[if_neg (by omega),if_neg (by omega)])];exact xq n b0 b1 b2 b3 4 144 191 x1 x2 x3 (by omega) (by omega) hn e1 e2 e3
 by_cases c6:b0=244
 ·rw[<-Lib.slow_F4 n b0 b1 b2 b3 hn h1 h2 h3 c6,xn b0 x1 x2 x3 128 143 hr (by rw[if_neg (by omega),if_neg (by omega)]) (by rw[if_neg (by omega),if_pos (by omega)])];exact xq n b0 b1 b2 b3 4 128 143 x1 x2 x3 (by omega) (by omega) hn e1 e2 e3
 ·rw[<-Lib.slow_F1 n b0 b1 b2 b3 hn h1 h2 h3 (by omega),xn b0 x1 x2 x3 128 191 hr (by rw[if_neg (by omega),if_neg (by omega)]) (by rw[if_neg (by omega),if_neg (by omega)])];exact xq n b0 b1 b2 b3 4 128 191 x1 x2 x3 (by omega) (by omega) hn e1 e2 e3
def ae(ns:List Tn)(p:Nat):List Nat:=match ns[p]? with|some u=>u.ks|none=>[]
def gK(ns:List Tn)(k:List UInt8)(q:Nat):Bool:=match ns[q]? with|some x=>decide (x.ky=k)|none=>false
theorem qp(ns:List Tn)(t:Nat)(k:List UInt8):ah ns t k=(ae ns t).find? (gK ns k):=by
 unfold ah ae
 cases ns[t]?<;>rfl
theorem I8(ns:List Tn)(up:Nat)(n:Tn):∃X:List Tn,X.length=ns.length/\∀m,addN ns up m=X++[m]:=by
 unfold addN
 cases h:ns[up]? with
 | none=>exact⟨ns,rfl,fun _=>rfl⟩
 | some u=>exact⟨ns.set up { u with ks:=u.ks++[ns.length] },by simp,fun _=>rfl⟩
theorem bZ(ns:List Tn)(up:Nat)(n:Tn):(addN ns up n).length=ns.length+1:=by
 obtain⟨X,h1,h2⟩:=I8 ns up n;rw[h2];simp[h1]
theorem I9(ns:List Tn)(up:Nat)(n m:Tn):(addN ns up n).set ns.length m=addN ns up m:=by
 obtain⟨X,h1,h2⟩:=I8 ns up n;rw[h2,h2,<-h1];simp
theorem tN(ns:List Tn)(up:Nat)(n:Tn)(hu:up<ns.length)(i:Nat):(addN ns up n)[i]?=if i=ns.length then some n else if i=up then some { ns[up] with ks:=ns[up].ks++[ns.length] } else ns[i]?:=by
 unfold addN;rw[List.getElem?_eq_getElem hu];simp only[]
 by_cases h:i=ns.length
 ·rw[if_pos h,h,List.getElem?_append_right (by simp)];simp
 ·rw[if_neg h]
  by_cases hl:i<ns.length
  ·rw[List.getElem?_append_left (by simpa using hl)]
   by_cases hup:i=up
   ·subst hup;rw[if_pos rfl,List.getElem?_set_self hl]
   ·rw[if_neg hup,List.getElem?_set_ne (fun e=>hup e.symm)]
  ·rw[List.getElem?_append_right (by simp;omega),if_neg (by omega),List.getElem?_eq_none (l:=ns) (by omega)];rw[List.getElem?_eq_none];simp;omega
theorem jB(ns:List Tn)(up:Nat)(n:Tn)(hu:up<ns.length)(p:Nat):ae (addN ns up n) p=if p=ns.length then n.ks else if p=up then ae ns up++[ns.length] else ae ns p:=by
 unfold ae;rw[tN ns up n hu]
 by_cases h:p=ns.length
 ·simp only[if_pos h]
 ·rw[if_neg h,if_neg h]
  by_cases h2:p=up
  ·rw[if_pos h2,if_pos h2,List.getElem?_eq_getElem hu]
  ·rw[if_neg h2,if_neg h2]
theorem eQ(ns:List Tn)(up:Nat)(n:Tn)(hu:up<ns.length)(p:Nat):aj (addN ns up n) p=if p=ns.length then n.kd else aj ns p:=by
 unfold aj;rw[tN ns up n hu]
 by_cases h:p=ns.length
 ·simp only[if_pos h]
 ·rw[if_neg h,if_neg h]
  by_cases h2:p=up
  ·subst h2;rw[if_pos rfl,List.getElem?_eq_getElem hu]
  ·rw[if_neg h2]
theorem Pv(ns:List Tn)(up:Nat)(n:Tn)(hu:up<ns.length)(k:List UInt8)(q:Nat):gK (addN ns up n) k q=if q=ns.length then decide (n.ky=k) else gK ns k q:=by
 unfold gK;rw[tN ns up n hu]
 by_cases h:q=ns.length
 ·simp only[if_pos h]
 ·rw[if_neg h,if_neg h]
  by_cases h2:q=up
  ·subst h2;rw[if_pos rfl,List.getElem?_eq_getElem hu]
  ·rw[if_neg h2]
structure WF(ns:List Tn)(own:List Nat):Prop where
 par:∀p p' q,q∈ae ns p->q∈ae ns p'->p=p'
 lt:∀p q,q∈ae ns p->q<ns.length
 own:∀q∈own,q<ns.length
 len:∀p,(ae ns p).length<=ns.length
theorem yF(ns:List Tn)(p:Nat)(h:ns.length<=p):ae ns p=[]:=by
 unfold ae;rw[List.getElem?_eq_none h]
theorem Ja{α:Type}{p q:α->Bool}:∀(l:List α),(∀x∈l,p x=q x)->l.find? p=l.find? q
 | [],_=>rfl
 | a :: r,h=>by
  rw[List.find?_cons,List.find?_cons,h a (by simp),Ja r fun x hx=>h x (by simp[hx])]
theorem Jb(ns:List Tn)(own:List Nat)(up:Nat)(n:Tn)(hn:n.ks=[])(hu:up<ns.length)(W:WF ns own)(t:Nat)(k:List UInt8) :
  ah (addN ns up n) t k=if t=up then(match ah ns up k with|some q=>some q|none=>if n.ky=k then some ns.length else none) else if t=ns.length then none else ah ns t k:=by
 have hc:∀p,(ae ns p).find? (gK (addN ns up n) k)=ah ns p k:=fun p=>by
  rw[qp];refine Ja _ fun x hx=>?_
  have:=W.lt p x hx;rw[Pv ns up n hu,if_neg (by omega)]
 rw[qp,jB ns up n hu]
 by_cases h1:t=up
 ·subst h1;rw[if_neg (by omega),if_pos rfl,if_pos rfl,List.find?_append,hc]
  cases ah ns t k with
  | some q=>rfl
  | none =>
   simp only[Option.none_or,List.find?_cons,Pv ns t n hu,if_true,List.find?_nil]
   by_cases hk:n.ky=k
   ·rw[if_pos hk,decide_eq_true hk]
   ·rw[if_neg hk,decide_eq_false hk]
 ·rw[if_neg h1,if_neg h1]
  by_cases h2:t=ns.length
  ·rw[if_pos h2,if_pos h2,hn];rfl
  ·rw[if_neg h2,if_neg h2,hc]
def hold(ns:List Tn)(own:List Nat)(t:Nat)(k:List UInt8):Option (Nat × Bool):=if aj ns t=0 then(ah ns t k).map fun q=>(q,decide (q∈own)) else none
def xu(f:Nat->List UInt8->Option (Nat × Bool))(t:Nat)(k:List UInt8)(v:Nat × Bool):Nat->List UInt8->Option (Nat × Bool):=fun t' k'=>if t'=t/\k'=k then some v else f t' k'
theorem qw{ns:List Tn}{t q:Nat}{k:List UInt8}(h:ah ns t k=some q):q∈ae ns t/\gK ns k q=true:=by
 rw[qp]at h;exact⟨List.mem_of_find?_eq_some h,List.find?_some h⟩
theorem XJ(ns:List Tn)(own:List Nat)(up:Nat)(n:Tn)(hn:n.ks=[])(hu:up<ns.length)(W:WF ns own)(h0:aj ns up=0)(hno:ah ns up n.ky=none):hold (addN ns up n) own=xu (hold ns own) up n.ky (ns.length,false):=by
 funext t k;unfold xu hold;rw[eQ ns up n hu,Jb ns own up n hn hu W]
 by_cases h1:t=up
 ·subst h1;have hne:¬t=ns.length:=by omega
  simp only[if_neg hne,if_pos h0,true_and,if_true]
  by_cases hk:k=n.ky
  ·subst hk;rw[hno];simp only[if_true,Option.map_some];rw[decide_eq_false (fun hm=>by have:=W.own _ hm;omega)]
  ·have hk':¬n.ky=k:=fun e=>hk e.symm
   simp only[if_neg hk]
   cases ah ns t k with
   | some q=>rfl
   | none=>simp only[if_neg hk']
 ·have h1':¬(t=up/\k=n.ky):=fun h=>h1 h.1
  simp only[if_neg h1,if_neg h1']
  by_cases h2:t=ns.length
  ·have:ah ns t k=none:=by rw[qp,yF ns t (by omega)];rfl
   rw[this];simp only[if_pos h2];simp
  ·simp only[if_neg h2]
theorem XK(ns:List Tn)(own:List Nat)(up:Nat)(n:Tn)(hn:n.ks=[])(hu:up<ns.length)(W:WF ns own)(h0:¬aj ns up=0):hold (addN ns up n) own=hold ns own:=by
 funext t k;unfold hold;rw[eQ ns up n hu,Jb ns own up n hn hu W]
 by_cases h1:t=up
 ·subst h1;have hne:¬t=ns.length:=by omega
  simp only[if_neg hne,if_neg h0]
 ·simp only[if_neg h1]
  by_cases h2:t=ns.length
  ·have:ah ns t k=none:=by rw[qp,yF ns t (by omega)];rfl
   rw[this];simp only[if_pos h2];simp
  ·simp only[if_neg h2]
theorem qx(ns:List Tn)(own:List Nat)(up:Nat)(n:Tn)(hn:n.ks=[])(hu:up<ns.length)(W:WF ns own):WF (addN ns up n) own:=by
 have hk:∀p q,q∈ae (addN ns up n) p->(q=ns.length/\p=up)\/(q∈ae ns p/\q<ns.length):=fun p q h=>by
  rw[jB ns up n hu]at h
  by_cases h1:p=ns.length
  ·rw[if_pos h1,hn]at h;simp at h
  ·rw[if_neg h1]at h
   by_cases h2:p=up
   ·subst h2;rw[if_pos rfl]at h
    rcases List.mem_append.1 h with h|h
    ·exact Or.inr ⟨h,W.lt _ _ h⟩
    ·exact Or.inl ⟨by simpa using h,rfl⟩
   ·rw[if_neg h2]at h;exact Or.inr ⟨h,W.lt _ _ h⟩
 refine⟨fun p p' q h h'=>?_,fun p q h=>?_,fun q h=>?_,fun p=>?_⟩
 ·rcases hk p q h with⟨e1,e2⟩|⟨e1,e2⟩<;>rcases hk p' q h' with⟨e3,e4⟩|⟨e3,e4⟩
  ·rw[e2,e4]
  ·omega
  ·omega
  ·exact W.par p p' q e1 e3
 ·rw[bZ]
  rcases hk p q h with⟨e1,e2⟩|⟨e1,e2⟩<;>omega
 ·rw[bZ];have:=W.own q h;omega
 ·rw[bZ,jB ns up n hu];have h1:=W.len p;have h2:=W.len up;split
  ·rw[hn];simp
  ·split
   ·simp;omega
   ·omega
theorem Px(ns:List Tn)(own:List Nat)(W:WF ns own)(t q:Nat)(k:List UInt8)(h0:aj ns t=0)(h:ah ns t k=some q):hold ns (q :: own)=xu (hold ns own) t k (q,true):=by
 funext t' k';unfold xu hold;obtain⟨hm,hy⟩:=qw h
 by_cases h1:t'=t/\k'=k
 ·rw[if_pos h1,h1.1,h1.2,if_pos h0,h];simp
 ·rw[if_neg h1]
  by_cases h2:aj ns t'=0
  ·rw[if_pos h2,if_pos h2]
   cases hq:ah ns t' k' with
   | none=>rfl
   | some q' =>
    obtain⟨hm',hy'⟩:=qw hq;have hne:¬q'=q:=fun e=>by
     subst e;have e1:=W.par _ _ _ hm' hm;unfold gK at hy hy'
     cases hx:ns[q']? with
     | none=>rw[hx]at hy;cases hy
     | some x =>
      rw[hx]at hy hy';exact h1 ⟨e1,(of_decide_eq_true hy').symm.trans (of_decide_eq_true hy)⟩
    simp[hne]
  ·rw[if_neg h2,if_neg h2]
theorem XL(ns:List Tn)(own:List Nat)(W:WF ns own)(t q:Nat)(h0:¬aj ns t=0)(h:q∈ae ns t):hold ns (q :: own)=hold ns own:=by
 funext t' k';unfold hold
 by_cases h2:aj ns t'=0
 ·rw[if_pos h2,if_pos h2]
  cases hq:ah ns t' k' with
  | none=>rfl
  | some q' =>
   obtain⟨hm',hy'⟩:=qw hq;have hne:¬q'=q:=fun e=>by
    subst e;have e1:=W.par _ _ _ hm' h;subst e1;exact h0 h2
   simp[hne]
 ·rw[if_neg h2,if_neg h2]
theorem Py(ns:List Tn)(own:List Nat)(W:WF ns own)(q:Nat)(h:q<ns.length):WF ns (q :: own) :=
 ⟨W.par,W.lt,fun x hx=>by
  rcases List.mem_cons.1 hx with rfl|hx
  ·exact h
  ·exact W.own x hx,W.len⟩
def WT(ns:List Tn):Prop:=∀q,aj ns q=2->ae ns q≠[]/\∀x∈ae ns q,aj ns x=0
theorem XM(ns:List Tn)(q:Nat)(n:Tn)(hq:q<ns.length)(h1:n.kd=ns[q].kd)(h2:n.ky=ns[q].ky)(h3:n.ks=ns[q].ks):(∀p,ae (ns.set q n) p=ae ns p)/\(∀p,aj (ns.set q n) p=aj ns p)/\(∀k p,gK (ns.set q n) k p=gK ns k p):=by
 have key:∀p,p=q\/(ns.set q n)[p]?=ns[p]?:=fun p=>by
  by_cases h:p=q
  ·exact Or.inl h
  ·exact Or.inr (List.getElem?_set_ne (fun e=>h e.symm))
 have hs:(ns.set q n)[q]?=some n:=List.getElem?_set_self hq;have hn:ns[q]?=some ns[q]:=List.getElem?_eq_getElem hq;refine⟨fun p=>?_,fun p=>?_,fun k p=>?_⟩
 ·unfold ae
  rcases key p with rfl|h
  ·rw[hs,hn];exact h3
  ·rw[h]
 ·unfold aj
  rcases key p with rfl|h
  ·rw[hs,hn];exact h1
  ·rw[h]
 ·unfold gK
  rcases key p with rfl|h
  ·rw[hs,hn];simp only[h2]
  ·rw[h]
theorem XN{ns ns':List Tn}(own:List Nat)(h1:∀p,ae ns' p=ae ns p)(h2:∀p,aj ns' p=aj ns p)(h3:∀k p,gK ns' k p=gK ns k p):hold ns' own=hold ns own:=by
 funext t k;unfold hold;rw[h2,qp,qp,h1,Ja (p:=gK ns' k) (q:=gK ns k) _ fun x _=>h3 k x]
def ig(ns:List Tn)(q:Nat):List UInt8:=match ns[q]? with|some u=>u.ky|none=>[]
def KD(ns:List Tn)(t:Nat):Prop:=(ae ns t).Pairwise fun a b=>ig ns a≠ig ns b
theorem XO{ns:List Tn}{q:Nat}(h:q<ns.length):ig ns q=ns[q].ky:=by
 unfold ig;rw[List.getElem?_eq_getElem h]
structure Jt(ns:List Tn)(own:List Nat)(t:Nat):Prop where
 wf:WF ns own
 wt:WT ns
 lt:t<ns.length
 kd:aj ns t=0
theorem nz{ns:List Tn}{t:Nat}{z:Int}(h:aj ns t=z)(hz:0<=z):t<ns.length:=by
 apply Classical.byContradiction;intro hn;unfold aj at h;rw[List.getElem?_eq_none (by omega)]at h;simp only[]at h;omega
theorem xw{ns:List Tn}{t q:Nat}(h:q∈ae ns t):t<ns.length:=by
 apply Classical.byContradiction;intro hn;rw[yF ns t (by omega)]at h;simp at h
theorem Jc(ns:List Tn)(own:List Nat)(W:WF ns own)(up:Nat)(n:Tn)(hu:up<ns.length)(h:WT ns)(h1:¬n.kd=2)(h2:¬aj ns up=2\/n.kd=0):WT (addN ns up n):=by
 intro q hq;rw[eQ ns up n hu]at hq
 by_cases hn:q=ns.length
 ·rw[if_pos hn]at hq;exact absurd hq h1
 ·rw[if_neg hn]at hq;obtain⟨a,b⟩:=h q hq;rw[jB ns up n hu,if_neg hn]
  by_cases hqu:q=up
  ·subst hqu;rw[if_pos rfl];refine⟨by simp,fun x hx=>?_⟩;rw[eQ ns q n hu]
   rcases List.mem_append.1 hx with hx|hx
   ·have:=W.lt _ _ hx;rw[if_neg (by omega)];exact b x hx
   ·rw[if_pos (by simpa using hx)]
    rcases h2 with h2|h2
    ·exact absurd hq h2
    ·exact h2
  ·rw[if_neg hqu];refine⟨a,fun x hx=>?_⟩;have:=W.lt _ _ hx;rw[eQ ns up n hu,if_neg (by omega)];exact b x hx
theorem Pz{ns:List Tn}{own:List Nat}{t:Nat}(J:Jt ns own t)(n:Tn)(hn:n.ks=[])(h0:n.kd=0):Jt (addN ns t n) own ns.length:=by
 refine⟨qx ns own t n hn J.lt J.wf,Jc ns own J.wf t n J.lt J.wt (by rw[h0];decide) (Or.inr h0),by rw[bZ];omega,?_⟩;rw[eQ ns t n J.lt,if_pos rfl];exact h0
theorem Ah{ns ns':List Tn}{own:List Nat}{t t' p:Nat}{k:List UInt8}(J:Jt ns own t)(h:fD ns t k p=.ok (t',ns')):Jt ns' own t'/\ns.length<=ns'.length/\ns'.length<=ns.length+1:=by
 unfold fD at h
 cases hq:ah ns t k with
 | none =>
  rw[hq]at h
  cases h
  exact⟨Pz J _ rfl rfl,by rw[bZ];omega,by rw[bZ];omega⟩
 | some q =>
  rw[hq]at h;simp only[]at h
  by_cases h0:aj ns q=0
  ·rw[if_pos h0]at h
   cases h
   exact⟨⟨J.wf,J.wt,nz h0 (by omega),h0⟩,by omega,by omega⟩
  ·rw[if_neg h0]at h
   by_cases h2:aj ns q=2
   ·have hl:=nz h2 (by omega);rw[if_pos h2,List.getElem?_eq_getElem hl]at h;simp only[]at h;obtain⟨a,b⟩:=J.wt q h2;have hks:ae ns q=ns[q].ks:=by unfold ae;rw[List.getElem?_eq_getElem hl]
    rw[hks]at a b;have hm:ns[q].ks.getLastD 0∈ns[q].ks:=by
     rw[List.getLastD_eq_getLast?,List.getLast?_eq_some_getLast a];exact List.getLast_mem a
    have hkd:=b _ hm
    cases h
    exact⟨⟨J.wf,J.wt,nz hkd (by omega),hkd⟩,by omega,by omega⟩
   ·rw[if_neg h2]at h;cases h
theorem PD{ns ns':List Tn}{own:List Nat}{t t' p:Nat}{k:List UInt8}(J:Jt ns own t)(h:fJ ns own t k p=.ok (t',ns')):Jt ns' (t' :: own) t'/\ns.length<=ns'.length/\ns'.length<=ns.length+2:=by
 unfold fJ at h;have fin:∀{n:List Tn} {q:Nat},Jt n own q->Jt n (q :: own) q:=fun j=>⟨Py _ _ j.wf _ j.lt,j.wt,j.lt,j.kd⟩
 cases hq:ah ns t k with
 | none =>
  rw[hq]at h
  cases h
  exact⟨fin (Pz J _ rfl rfl),by rw[bZ];omega,by rw[bZ];omega⟩
 | some q =>
  rw[hq]at h;simp only[]at h
  by_cases h0:aj ns q=0/\¬q∈own
  ·rw[if_pos h0]at h
   cases h
   exact⟨fin ⟨J.wf,J.wt,nz h0.1 (by omega),h0.1⟩,by omega,by omega⟩
  ·rw[if_neg h0]at h;cases h
theorem PE{ns ns':List Tn}{own:List Nat}{t t' p:Nat}{k:List UInt8}(J:Jt ns own t)(h:fK ns t k p=.ok (t',ns')):Jt ns' (t' :: own) t'/\ns.length<=ns'.length/\ns'.length<=ns.length+2:=by
 unfold fK at h;have fin:∀{n:List Tn} {q:Nat},Jt n own q->Jt n (q :: own) q:=fun j=>⟨Py _ _ j.wf _ j.lt,j.wt,j.lt,j.kd⟩
 cases hq:ah ns t k with
 | none =>
  rw[hq]at h
  cases h
  have hu:ns.length<(addN ns t ⟨2,k,[],0,[],p⟩).length:=by rw[bZ];omega
  have w1:=qx ns own t ⟨2,k,[],0,[],p⟩ rfl J.lt J.wf;have w2:=qx _ own ns.length ⟨0,[],[],0,[],p⟩ rfl hu w1;have hl:(addN ns t ⟨2,k,[],0,[],p⟩).length=ns.length+1:=bZ _ _ _;refine⟨fin ⟨w2,?_,by rw[bZ,bZ];omega,?_⟩,by rw[bZ,bZ];omega,by rw[bZ,bZ];omega⟩
  ·intro q h2;rw[eQ _ _ _ hu,hl]at h2
   by_cases e1:q=ns.length+1
   ·rw[if_pos e1]at h2;exact absurd (show(0:Int)=2 from h2) (by decide)
   ·rw[if_neg e1,eQ _ _ _ J.lt]at h2;rw[jB _ _ _ hu,hl,if_neg e1]
    by_cases e2:q=ns.length
    ·rw[if_pos e2];refine⟨by simp,fun x hx=>?_⟩;rw[jB _ _ _ J.lt,if_pos rfl]at hx;simp only[List.nil_append,List.mem_singleton]at hx;rw[eQ _ _ _ hu,hl,if_pos hx]
    ·rw[if_neg e2]at h2;rw[if_neg e2];obtain⟨a,b⟩:=J.wt q h2;have jJ:¬q=t:=fun e=>by rw[e,J.kd]at h2;exact absurd h2 (by decide)
     rw[jB _ _ _ J.lt,if_neg e2,if_neg jJ];refine⟨a,fun x hx=>?_⟩;have:=J.wf.lt _ _ hx;rw[eQ _ _ _ hu,hl,if_neg (by omega),eQ _ _ _ J.lt,if_neg (by omega)];exact b x hx
  ·rw[eQ _ _ _ hu,hl,if_pos rfl]
 | some q =>
  rw[hq]at h;simp only[]at h
  by_cases h2:aj ns q=2
  ·rw[if_pos h2]at h
   cases h
   have hu:=nz h2 (by omega);refine⟨fin ⟨qx ns own q _ rfl hu J.wf,Jc ns own J.wf q _ hu J.wt (fun e=>absurd (show(0:Int)=2 from e) (by decide)) (Or.inr rfl),by rw[bZ];omega,?_⟩,by rw[bZ];omega,by rw[bZ];omega⟩;rw[eQ _ _ _ hu,if_pos rfl]
  ·rw[if_neg h2]at h;cases h
theorem Ai(many:Bool)(own:List Nat)(k:List UInt8)(p t:Nat)(ns:List Tn):way many own [(k,p)] t ns=if many=true then fK ns t k p else fJ ns own t k p:=rfl
theorem Aj(many:Bool)(own:List Nat)(k:List UInt8)(p:Nat)(b:List UInt8 × Nat)(r:List (List UInt8 × Nat))(t:Nat)(ns:List Tn):way many own ((k,p) :: b :: r) t ns=match fD ns t k p with | .error e=>.error e | .ok (t1,ns1)=>way many own (b :: r) t1 ns1:=rfl
theorem PG(many:Bool)(own:List Nat):∀(l:List (List UInt8 × Nat)) (t:Nat) (ns ns':List Tn) (t':Nat),l≠[]->Jt ns own t->way many own l t ns=.ok (t',ns')->Jt ns' (t' :: own) t'/\ns.length<=ns'.length/\ns'.length<=ns.length+l.length+1
 | [],_,_,_,_,hl,_,_=>absurd rfl hl
 | [(k,p)],t,ns,ns',t',_,J,h=>by
  rw[Ai]at h;split at h
  ·obtain⟨a,b,c⟩:=PE J h;exact⟨a,b,by simp;omega⟩
  ·obtain⟨a,b,c⟩:=PD J h;exact⟨a,b,by simp;omega⟩
 | (k,p) :: b :: r,t,ns,ns',t',_,J,h=>by
  rw[Aj]at h
  cases hs:fD ns t k p with
  | error e=>rw[hs]at h;cases h
  | ok q =>
   obtain⟨t1,ns1⟩:=q;rw[hs]at h;obtain⟨a,b',c⟩:=Ah J hs;obtain⟨a2,b2,c2⟩:=PG many own (b :: r) t1 ns1 ns' t' (by simp) a h;refine⟨a2,by omega,?_⟩;simp only[List.length_cons]at c2 ⊢;omega
end Go.Proofs.YtnnbgjaphfhibaaGreatDoor
