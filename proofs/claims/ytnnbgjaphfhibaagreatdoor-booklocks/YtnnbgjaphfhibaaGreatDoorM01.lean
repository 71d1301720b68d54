import Derived.Lib.Bytealg
import Derived.Lib.TrimByte
import Derived.Lib.Small
import Derived.Lib.ItoaNum
import Derived.Test.YtnnbgjaphfhibaaGreatDoorProg
import Derived.WalkKit
import Derived.WalkSpells
import Derived.WalkLawsBesides
import Derived.Deep.QuietTactic
import Derived.BigQuiet
import Derived.Below
import Derived.Lib.ConvBytes
import Derived.Deep.RegionHeld3
import Derived.Carry
import Derived.OwnWalk
import Derived.Laws.AppendOwn
import Derived.Deep.AppendSrc
import Derived.Deep.AppendLies
import Derived.Deep.OwnRows
import Derived.Shelf.Small.Wraps
set_option linter.unusedVariables false
set_option linter.unusedSimpArgs false
set_option maxRecDepth 100000
set_option maxHeartbeats 6400000
open Go.Proofs.Tryz
namespace Go.Proofs.YtnnbgjaphfhibaaGreatDoor
structure Good{α:Type}(c:α->α->Int):Prop where
 rng:∀a b,c a b=-1\/c a b=0\/c a b=1
 anti:∀a b,c b a=- c a b
 trans:∀a b d,c a b<=0->c b d<=0->c a d<=0/\((c a b=0/\c b d=0)↔c a d=0)
theorem Good.self{α:Type}{c:α->α->Int}(h:Good c)(a:α):c a a=0:=by
 have:=h.anti a a;omega
def aI(c:UInt8):Bool:=decide (48<=c.toNat) && decide (c.toNat<=57)
def bg(c:UInt8):Bool:=aI c || (decide (65<=c.toNat) && decide (c.toNat<=90)) || (decide (97<=c.toNat) && decide (c.toNat<=122)) || decide (c.toNat=45)
def oq(l:List UInt8):Bool:=!l.isEmpty && l.all aI
def qp:List UInt8->List (List UInt8)
 | []=>[[]]
 | c :: l=>if c=46 then[] :: qp l else match qp l with
  | p :: ps=>(c :: p) :: ps
  | []=>[[c]]
theorem Pn(c:UInt8)(l:List UInt8):qp (c :: l)=if c=46 then[] :: qp l else match qp l with
  | p :: ps=>(c :: p) :: ps
  | []=>[[c]]:=by rw[qp]
theorem Po:∀(p:List UInt8),(∀c∈p,c≠46)->qp p=[p]
 | [],_=>rfl
 | c :: p,h=>by
  have ih:=Po p (fun x hx=>h x (List.mem_cons_of_mem _ hx));rw[Pn];rw[if_neg (h c (List.mem_cons_self ..)),ih]
theorem Pq:∀(p r:List UInt8),(∀c∈p,c≠46)->qp (p++46 :: r)=p :: qp r
 | [],r,_=>by simp[qp]
 | c :: p,r,h=>by
  have ih:=Pq p r (fun x hx=>h x (List.mem_cons_of_mem _ hx));rw[List.cons_append,Pn];rw[if_neg (h c (List.mem_cons_self ..)),ih]
structure V where
 major:Int
 minor:Int
 patch:Int
 pre:List UInt8
theorem yO{c:UInt8}(h:aI c=true):48<=c.toNat/\c.toNat<=57:=by
 unfold aI at h;simpa using h
def runN(p:UInt8->Bool)(l:List UInt8)(i:Nat):Nat:=((l.drop i).takeWhile p).length
def ag(l:List UInt8)(i k:Nat):List UInt8:=(l.drop i).take k
theorem Pv(p:UInt8->Bool):∀(l:List UInt8),(l.takeWhile p).length<=l.length
 | []=>by simp
 | c :: l=>by
  have ih:=Pv p l;rw[List.takeWhile_cons];split<;>simp;omega
theorem Px(p:UInt8->Bool):∀(l:List UInt8) (k:Nat),k<(l.takeWhile p).length->∃h:k<l.length,p l[k]=true
 | [],k,h=>by simp at h
 | c :: l,k,h=>by
  rw[List.takeWhile_cons]at h;split at h
  ·cases k with
   | zero=>exact⟨by simp,by simpa⟩
   | succ k =>
    obtain⟨h1,h2⟩:=Px p l k (by simpa using h);exact⟨by simp;omega,by simpa using h2⟩
  ·simp at h
theorem Py(p:UInt8->Bool):∀(l:List UInt8) (h:(l.takeWhile p).length<l.length),p l[(l.takeWhile p).length]=false
 | [],h=>by simp at h
 | c :: l,h=>by
  cases hc:p c with
  | true =>
   have e:(c :: l).takeWhile p=c :: l.takeWhile p:=by rw[List.takeWhile_cons,if_pos hc]
   have h':(l.takeWhile p).length<l.length:=by rw[e]at h;simpa using h
   have:=Py p l h';simp only[e,List.length_cons,List.getElem_cons_succ];exact this
  | false =>
   have e:(c :: l).takeWhile p=[]:=by rw[List.takeWhile_cons,if_neg (by simp[hc])]
   simp only[e,List.length_nil,List.getElem_cons_zero];exact hc
theorem Pz(p:UInt8->Bool):∀(l:List UInt8),l.take (l.takeWhile p).length=l.takeWhile p
 | []=>by simp
 | c :: l=>by
  have ih:=Pz p l;rw[List.takeWhile_cons];split<;>simp[ih]
theorem rH(p:UInt8->Bool)(l:List UInt8)(i:Nat)(h:i<=l.length):i+runN p l i<=l.length:=by
 have:=Pv p (l.drop i);unfold runN;simp at this ⊢;omega
theorem IZ(p:UInt8->Bool)(l:List UInt8)(i k:Nat)(h:k<runN p l i):∃h:i+k<l.length,p l[i+k]=true:=by
 obtain⟨h1,h2⟩:=Px p (l.drop i) k h;simp only[List.length_drop]at h1;exact⟨by omega,by simpa using h2⟩
theorem EG(p:UInt8->Bool)(l:List UInt8)(i:Nat)(h:i+runN p l i<l.length):p l[i+runN p l i]=false:=by
 have h':((l.drop i).takeWhile p).length<(l.drop i).length:=by unfold runN at h;simp at h ⊢;omega
 have:=Py p (l.drop i) h';simpa [runN] using this
theorem Xc(p:UInt8->Bool)(l:List UInt8)(i:Nat):ag l i (runN p l i)=(l.drop i).takeWhile p:=Pz p (l.drop i)
def qw(n:Int)(c:UInt8):Int:=10*n+((c.toNat:Int)-48)
def aW(l:List UInt8):Int:=l.foldl qw 0
theorem PD(l:List UInt8)(c:UInt8):aW (l++[c])=qw (aW l) c:=by unfold aW;rw[List.foldl_append];rfl
theorem I4:∀(l:List UInt8) (n:Int),0<=n->l.all aI=true->n<=l.foldl qw n
 | [],n,_,_=>Int.le_refl n
 | c :: l,n,h,hd=>by
  simp only[List.all_cons,Bool.and_eq_true]at hd;have h1:=yO hd.1;have h2:n<=qw n c:=by unfold qw;omega
  exact Int.le_trans h2 (I4 l _ (by omega) hd.2)
theorem EH(l:List UInt8)(hd:l.all aI=true):0<=aW l:=I4 l 0 (by omega) hd
theorem PE(a b:List UInt8)(hd:(a++b).all aI=true):aW a<=aW (a++b):=by
 rw[List.all_append,Bool.and_eq_true]at hd;unfold aW;rw[List.foldl_append];exact I4 b _ (EH a hd.1) hd.2
def rdNum(l:List UInt8)(i:Nat):Int × Int × Nat :=
 if runN aI l i=0 then(2,0,i)
 else if 1<runN aI l i/\l[i]?=some 48 then(2,0,i)
 else if aW (ag l i (runN aI l i)) > 999999999 then(3,0,i)
 else(0,aW (ag l i (runN aI l i)),i+runN aI l i)
def jd(strict:Bool)(p:List UInt8):Bool:=strict && (p.all aI && (decide (1<p.length) && decide (p[0]?=some 48)))
def aC(strict:Bool)(l:List UInt8)(i:Nat):Int × Nat :=
 if runN bg l i=0 then(2,i)
 else if jd strict (ag l i (runN bg l i))=true then(2,i)
 else if h:l[i+runN bg l i]?=some 46 then aC strict l (i+runN bg l i+1)
 else(0,i+runN bg l i)
termination_by l.length-i
decreasing_by
 have:=(List.getElem?_eq_some_iff.1 h).1;omega
theorem EI(strict:Bool)(l:List UInt8)(i:Nat):aC strict l i =
 if runN bg l i=0 then(2,i)
 else if jd strict (ag l i (runN bg l i))=true then(2,i)
 else if l[i+runN bg l i]?=some 46 then aC strict l (i+runN bg l i+1)
 else(0,i+runN bg l i):=by
 rw[aC];split
 ·rfl
 ·split
  ·rfl
  ·split<;>rfl
def I5(strict:Bool)(p:List UInt8):Bool:=!p.isEmpty && p.all bg && !jd strict p
theorem Xd{c:UInt8}(h:bg c=true):c≠46:=by
 intro e;subst e;exact absurd h (by decide)
theorem EJ(p:UInt8->Bool)(l:List UInt8)(i:Nat):(ag l i (runN p l i)).all p=true:=by
 rw[Xc];exact List.all_takeWhile
theorem tN(l:List UInt8)(i k:Nat)(h:i+k<=l.length):(ag l i k).length=k:=by
 unfold ag;simp;omega
theorem Xe(u:Nat)(h:u<10):(UInt8.ofNat (48+u)).toNat=48+u:=by
 show(48+u) % 256=48+u;omega
theorem Xf(l:List UInt8)(hne:l≠[])(hd:l.all aI=true)(hz:¬(1<l.length/\l[0]?=some 48)):Lib.decDigits (aW l).toNat=l:=by
 -- the last digit off
 have key:∀(n:Nat) (l:List UInt8),l.length=n->l≠[]->l.all aI=true->¬(1<l.length/\l[0]?=some 48)->Lib.decDigits (aW l).toNat=l/\(1<l.length->0<aW l.dropLast):=by
  intro n
  induction n with
  | zero=>intro l hl hne;exact absurd (List.length_eq_zero_iff.1 hl) hne
  | succ n ih =>
   intro l hl hne hd hz;obtain⟨q,c,rfl⟩:∃q c,l=q++[c]:=⟨l.dropLast,l.getLast hne,(List.dropLast_concat_getLast hne).symm⟩;have hd':=hd;rw[List.all_append,Bool.and_eq_true]at hd';have hc:=yO (show aI c=true by simpa using hd'.2);have hcv:UInt8.ofNat (48+(c.toNat - 48))=c:=by
    apply UInt8.toNat_inj.1;rw[Xe _ (by omega)];omega
   rw[List.dropLast_concat]
   by_cases hq:q=[]
   ·subst hq;refine⟨?_,by simp⟩;have hv:aW ([]++[c])=(c.toNat:Int)-48:=by show qw 0 c=_;unfold qw;omega
    have hn:((c.toNat:Int)-48).toNat=c.toNat - 48:=by omega
    rw[hv,hn,Lib.decDigits_one (by omega),hcv];rfl
   ·have dN:0<q.length:=List.length_pos_iff.2 hq;have hz1:q[0]?≠some 48:=by
     intro h;refine hz ⟨by simp;omega,?_⟩;rw[List.getElem?_append_left dN];exact h
    have hlen:q.length=n:=by simp at hl;exact hl
    have h1:=ih q hlen hq hd'.1 (fun h=>hz1 h.2);have hpos:0<aW q:=by
     rcases Nat.lt_or_ge 1 q.length with hgt|hle
     ·have h2:=h1.2 hgt;have:aW q.dropLast<=aW q:=by
       conv=>rhs;rw[<-List.dropLast_concat_getLast hq]
       exact PE _ _ (by rw[List.dropLast_concat_getLast hq];exact hd'.1)
      omega
     ·obtain⟨x,rfl⟩:∃x,q=[x]:=List.length_eq_one_iff.1 (by omega);have hx:=yO (show aI x=true by simpa using hd'.1);have hx0:x.toNat≠48:=fun hh=>hz1 (by
       have:x=48:=UInt8.toNat_inj.1 hh;rw[this];rfl)
      show 0<qw 0 x;unfold qw;omega
    refine⟨?_,fun _=>hpos⟩;rw[PD];have hv:(qw (aW q) c).toNat=10*(aW q).toNat+(c.toNat - 48):=by unfold qw;omega
    rw[hv,Lib.decDigits,dif_neg (by omega)];have e1:(10*(aW q).toNat+(c.toNat - 48)) / 10=(aW q).toNat:=by omega
    have e2:(10*(aW q).toNat+(c.toNat - 48)) % 10=c.toNat - 48:=by omega
    rw[e1,e2,h1.1,hcv]
 exact(key _ l rfl hne hd hz).1
theorem Xg(l:List UInt8)(i:Nat)(hi:i<=l.length)(h:(rdNum l i).1=0) :
  ∃k,0<k/\i+k<=l.length/\(rdNum l i).2.2=i+k/\ag l i k=Lib.decDigits (rdNum l i).2.1.toNat/\0<=(rdNum l i).2.1/\(rdNum l i).2.1<=999999999:=by
 have hle:=rH aI l i hi;have hall:=EJ aI l i;have hlen:=tN l i _ hle;unfold rdNum at h ⊢
 by_cases h0:runN aI l i=0
 ·rw[if_pos h0]at h;simp at h
 ·rw[if_neg h0]at h ⊢
  by_cases hz:1<runN aI l i/\l[i]?=some 48
  ·rw[if_pos hz]at h;simp at h
  ·rw[if_neg hz]at h ⊢
   by_cases hv:aW (ag l i (runN aI l i)) > 999999999
   ·rw[if_pos hv]at h;simp at h
   ·rw[if_neg hv];refine⟨runN aI l i,by omega,hle,rfl,?_,EH _ hall,Int.not_lt.1 hv⟩;have hne:ag l i (runN aI l i)≠[]:=fun e=>by rw[e]at hlen;simp at hlen;omega
    have h48:(ag l i (runN aI l i))[0]?=l[i]?:=by
     unfold ag;rw[List.getElem?_take_of_lt (by omega),List.getElem?_drop];rfl
    rw[Xf _ hne hall (by rw[hlen,h48];exact hz)]
theorem Xh(l:List UInt8)(i k j:Nat)(hk:i+k<j)(hj:j<=l.length)(h46:l[i+k]?=some 46) :
  ag l i (j-i)=ag l i k++46 :: ag l (i+k+1) (j-(i+k+1)):=by
 unfold ag;obtain⟨hlt,e⟩:=List.getElem?_eq_some_iff.1 h46;have h1:j-i=k+((j-(i+k+1))+1):=by omega
 rw[h1,List.take_add,List.drop_drop,List.drop_eq_getElem_cons hlt,List.take_succ_cons,e]
theorem I7(s:Bool)(l:List UInt8):∀(n i:Nat),l.length-i=n->i<=l.length->(aC s l i).1=0 →
  i<(aC s l i).2/\(aC s l i).2<=l.length/\(qp (ag l i ((aC s l i).2-i))).all (I5 s)=true:=by
 intro n
 induction n using Nat.strongRecOn with
 | ind n ih =>
  intro i hn hi h;have hle:=rH bg l i hi;have hall:=EJ bg l i;have hlen:=tN l i _ hle;have hnd:∀x∈ag l i (runN bg l i),x≠46:=fun x hx=>Xd (List.all_eq_true.1 hall x hx)
  rw[EI]at h ⊢
  by_cases h0:runN bg l i=0
  ·rw[if_pos h0]at h;simp at h
  ·rw[if_neg h0]at h ⊢
   by_cases hb:jd s (ag l i (runN bg l i))=true
   ·rw[if_pos hb]at h;simp at h
   ·rw[if_neg hb]at h ⊢;have hok:I5 s (ag l i (runN bg l i))=true:=by
     have h1:(ag l i (runN bg l i)).isEmpty=false:=by
      cases h:ag l i (runN bg l i) with
      | nil=>rw[h]at hlen;simp at hlen;omega
      | cons c r=>rfl
     have h2:jd s (ag l i (runN bg l i))=false:=by simpa using hb
     simp[I5,h1,hall,h2]
    by_cases hg:l[i+runN bg l i]?=some 46
    ·rw[if_pos hg]at h ⊢;have hlt:=(List.getElem?_eq_some_iff.1 hg).1;obtain⟨g1,g2,g3⟩:=ih (l.length-(i+runN bg l i+1)) (by omega) (i+runN bg l i+1) rfl (by omega) h;refine⟨by omega,g2,?_⟩;rw[Xh l i (runN bg l i) _ (by omega) g2 hg,Pq _ _ hnd,List.all_cons,hok,g3];rfl
    ·rw[if_neg hg];refine⟨by simp only;omega,hle,?_⟩;simp only;rw[show i+runN bg l i-i=runN bg l i by omega,Po _ hnd];simp[hok]
structure Vv where
 major:Int
 minor:Int
 patch:Int
 pre:List UInt8
 build:List UInt8
def zeroV:Vv:=⟨0,0,0,[],[]⟩
def bC(c:UInt8)(s:Bool)(l:List UInt8)(i:Nat):Int × Nat × List UInt8 :=
 if l[i]?=some c then
  (if(aC s l (i+1)).1=0 then(0,(aC s l (i+1)).2,ag l (i+1) ((aC s l (i+1)).2-(i+1))) else((aC s l (i+1)).1,(aC s l (i+1)).2,[]))
 else(0,i,[])
def bQ(l:List UInt8):Int × Nat × Int × Int × Int :=
 if(rdNum l 0).1=0 then
  if l[(rdNum l 0).2.2]?=some 46 then
   if(rdNum l ((rdNum l 0).2.2+1)).1=0 then
    if l[(rdNum l ((rdNum l 0).2.2+1)).2.2]?=some 46 then
     if(rdNum l ((rdNum l ((rdNum l 0).2.2+1)).2.2+1)).1=0 then
      (0,(rdNum l ((rdNum l ((rdNum l 0).2.2+1)).2.2+1)).2.2,(rdNum l 0).2.1,(rdNum l ((rdNum l 0).2.2+1)).2.1,(rdNum l ((rdNum l ((rdNum l 0).2.2+1)).2.2+1)).2.1)
     else((rdNum l ((rdNum l ((rdNum l 0).2.2+1)).2.2+1)).1,(rdNum l ((rdNum l ((rdNum l 0).2.2+1)).2.2+1)).2.2,0,0,0)
    else(2,(rdNum l ((rdNum l 0).2.2+1)).2.2,0,0,0)
   else((rdNum l ((rdNum l 0).2.2+1)).1,(rdNum l ((rdNum l 0).2.2+1)).2.2,0,0,0)
  else(2,(rdNum l 0).2.2,0,0,0)
 else((rdNum l 0).1,(rdNum l 0).2.2,0,0,0)
def eQ(l:List UInt8):Int × Nat × Vv :=
 if(bQ l).1=0 then
  if(bC 45 true l (bQ l).2.1).1=0 then
   if(bC 43 false l (bC 45 true l (bQ l).2.1).2.1).1=0 then
    if(bC 43 false l (bC 45 true l (bQ l).2.1).2.1).2.1<l.length then(2,(bC 43 false l (bC 45 true l (bQ l).2.1).2.1).2.1,zeroV)
    else(0,0,⟨(bQ l).2.2.1,(bQ l).2.2.2.1,(bQ l).2.2.2.2,(bC 45 true l (bQ l).2.1).2.2,(bC 43 false l (bC 45 true l (bQ l).2.1).2.1).2.2⟩)
   else((bC 43 false l (bC 45 true l (bQ l).2.1).2.1).1,(bC 43 false l (bC 45 true l (bQ l).2.1).2.1).2.1,zeroV)
  else((bC 45 true l (bQ l).2.1).1,(bC 45 true l (bQ l).2.1).2.1,zeroV)
 else((bQ l).1,(bQ l).2.1,zeroV)
def kH(l:List UInt8):Int × Nat × Vv:=if 100<l.length then(1,0,zeroV) else eQ l
def bound(n:Int):Bool:=decide (0<=n) && decide (n<=1000000000)
theorem Xi{n:Int}(h:0<=n):Lib.itoa n=Lib.decDigits n.toNat:=by unfold Lib.itoa;rw[if_neg (by omega)]
theorem Xj{l:List UInt8}{i k:Nat}:l.drop i=ag l i k++l.drop (i+k):=by
 unfold ag;rw[<-List.drop_drop,List.take_append_drop]
theorem drop_cons{l:List UInt8}{i:Nat}{c:UInt8}(h:l[i]?=some c):l.drop i=c :: l.drop (i+1)/\i<l.length:=by
 obtain⟨hlt,e⟩:=List.getElem?_eq_some_iff.1 h;rw[List.drop_eq_getElem_cons hlt,e];exact⟨rfl,hlt⟩
theorem I8(l:List UInt8)(i:Nat)(hi:i<=l.length)(h:(rdNum l i).1=0) :
  (rdNum l i).2.2<=l.length/\l.drop i=Lib.itoa (rdNum l i).2.1++l.drop (rdNum l i).2.2/\0<=(rdNum l i).2.1/\(rdNum l i).2.1<=999999999:=by
 obtain⟨k,h1,h2,h3,h4,h5,h6⟩:=Xg l i hi h;refine⟨by omega,?_,h5,h6⟩;rw[Xi h5,<-h4,h3];exact Xj
theorem Xk(l:List UInt8)(h:(bQ l).1=0) :
  (bQ l).2.1<=l.length/\l=Lib.itoa (bQ l).2.2.1++46 :: (Lib.itoa (bQ l).2.2.2.1++46 :: (Lib.itoa (bQ l).2.2.2.2++l.drop (bQ l).2.1)) ∧
  (0<=(bQ l).2.2.1/\(bQ l).2.2.1<=999999999)/\(0<=(bQ l).2.2.2.1/\(bQ l).2.2.2.1<=999999999)/\(0<=(bQ l).2.2.2.2/\(bQ l).2.2.2.2<=999999999):=by
 unfold bQ at h ⊢;split at h
 ·rename_i e1;split at h
  ·rename_i g1;split at h
   ·rename_i e2;split at h
    ·rename_i g2;split at h
     ·rename_i e3;obtain⟨a1,a2,a3⟩:=I8 l 0 (Nat.zero_le _) e1;obtain⟨c1,c2⟩:=drop_cons g1;obtain⟨b1,b2,b3⟩:=I8 l _ (by omega) e2;obtain⟨c3,c4⟩:=drop_cons g2;obtain⟨d1,d2,d3⟩:=I8 l _ (by omega) e3;simp only[e1,g1,e2,g2,e3,if_true];refine⟨d1,?_,a3,b3,d3⟩;rw[List.drop_zero]at a2;rw[<-d2,<-c3,<-b2,<-c1];exact a2
     ·rename_i e;exact absurd h e
    ·simp at h
   ·rename_i e;exact absurd h e
  ·simp at h
 ·rename_i e;exact absurd h e
open Go.RowKit
theorem zN{α:Sort _}(a:α):∃z,a=z:=⟨a,rfl⟩
theorem jU{α:Type _}{xs:Array α}{i:Nat}{v:α}(h:xs[i]?=some v):i<xs.size:=(Array.getElem?_eq_some_iff.1 h).1
theorem af{w:World}{b:Nat}{cs:Array Value}{T:TypeId}{fr:Nat×Nat}(hb:w.heap[b]?=some (.cells cs T fr))(j:Nat):w.cell? ⟨b,j,none⟩=cs[j]?:=by simp[World.cell?,hb]
def Hd(p:Prop):Prop:=p
theorem Hd.o{p:Prop}(h:Hd p):p:=h
theorem dD{k:IntKind}{a b:Int}(h:a=b):Ending.returned (.int k a)=.returned (.int k b):=by rw[h]
theorem bV{a b:Bool}(h:a=b):Ending.returned (.bool a)=.returned (.bool b):=by rw[h]
theorem xy(c:UInt8)(w:World):Calls prog 224 #[.int .u8 (c.toNat:Int)] w fun e w'=>e=.returned (.bool (aI c))/\w'=w:=by
 go_enter func224,ntmps224;go_wp2
 all_goals go_ret
 all_goals (refine⟨bV ?_,rfl⟩;rw[Bool.eq_iff_iff];unfold aI;simp;omega)
theorem ax(w:World)(r:Option Nat):w.grownBy w r:=⟨rfl,rfl,rfl,Nat.le_refl _,fun _ _ _=>rfl⟩
theorem aj{w w':World}{r:Option Nat}(h:w.grownBy w' r)(n:Nat):w.grownBy (w'.drewN n) r:=⟨h.os,h.tape,h.output,h.size,h.block⟩
theorem aQ{w w':World}{b:Nat}(h:w.grownBy w' (some b))(o:Nat)(v:Value):w.grownBy (w'.setCell ⟨b,o,none⟩ v) (some b):=by
 refine⟨h.os,h.tape,h.output,by simpa [World.setCell] using h.size,fun k hk hne=>?_⟩;rw[<-h.block k hk hne];exact heap_setCell_other w' _ k v (fun e=>hne (by rw[e]))
theorem ah{w w1 w2:World}{r:Option Nat}(h:w.grownBy w1 r)(h':w1.grownBy w2 r):w.grownBy w2 r :=
 ⟨h'.os.trans h.os,h'.tape.trans h.tape,h'.output.trans h.output,Nat.le_trans h.size h'.size,fun k hk hne=>(h'.block k (Nat.lt_of_lt_of_le hk h.size) hne).trans (h.block k hk hne)⟩
theorem kJ(s:ByteArray)(i:Nat)(h:i<s.size):s.data.toList[i]?=some s[i]:=by rw[List.getElem?_eq_getElem (by simpa using h)];rfl
theorem lC(s:ByteArray)(i j:Nat)(hi:i<=j)(hj:j<=s.size)(w:World) :
  (Instr.slice 9 (.string s) (some (.int .i64 (i:Int))) (some (.int .i64 (j:Int))) none).run prog w=.ok (.string ⟨(ag s.data.toList i (j-i)).toArray⟩) w:=by
 have h1:(0:Int)<=(i:Int):=by omega
 have h4:(i:Int)<=(j:Int):=by omega
 have h5:(j:Int)<=(s.size:Int):=by omega
 have e:s.extract i j=⟨(ag s.data.toList i (j-i)).toArray⟩:=by
  apply ByteArray.ext;rw[ByteArray.data_extract];apply Array.ext';unfold ag;simp
 rw[<-e];simp[go_sem,underlying9,h1,h4,h5]
open Go.RowKit
theorem Aj{w w':World}(h:w.grownBy w' none):Below w.heap.size w w':=⟨h.os,h.tape,h.output,h.size,fun k hk=>h.block k hk (by simp)⟩
theorem Ak{w w':World}{r:Option Nat}(h:w.drew.grownBy w' r):w.grownBy w' r:=⟨h.os,h.tape,h.output,h.size,h.block⟩
theorem dw{w w':World}(h:w.grownBy w' none)(o:Obj):w.grownBy (w'.alloc o) none :=
 ⟨h.os,h.tape,h.output,by have:=h.size;simp;omega,fun k hk hn=>by rw[Lib.alloc_old _ _ _ (Nat.lt_of_lt_of_le hk h.size)];exact h.block k hk hn⟩
theorem I9(w:World)(e:TypeId)(s:ByteArray):w.grownBy (Lib.bytesWorld w e s) none :=
 ⟨rfl,rfl,rfl,by rw[Lib.bytesWorld_size];omega,fun k hk _=>Lib.bytesWorld_at_old w e s k hk⟩
theorem EK{w w':World}(h:w.grownBy w' none)(r:Option Nat):w.grownBy w' r:=⟨h.os,h.tape,h.output,h.size,fun k hk _=>h.block k hk (by simp)⟩
theorem PG(s:ByteArray)(w:World)(hs:s.size<2 ^ 62) :
  Calls prog 236 #[.string s] w fun e w'=>e=.returned (.bool (oq s.data.toList))/\w.grownBy w' none:=by
 have kc:=fun(w:World)=>Lib.run_convert_string_bytes (P:=prog) w 9 90 5 s underlying9 underlying90 underlying5
 obtain⟨W,hW⟩:∃W,Lib.bytesWorld w 5 s=W:=⟨_,rfl⟩;have HC:Hd (∀j,(hj:j<s.size)->W.cell? ⟨w.heap.size,j,none⟩=some (.int .u8 (s[j].toNat:Int))):=by
  show ∀j,(hj:j<s.size)->W.cell? ⟨w.heap.size,j,none⟩=some (.int .u8 (s[j].toNat:Int));intro j hj;rw[<-hW,Lib.bytesWorld_cell w _ s j hj];have:s.data.toList.getD j 0=s[j]:=by
   rw[List.getD_eq_getElem?_getD,kJ s j hj];rfl
  rw[this]
 have HG:Hd (w.grownBy W none):=by show w.grownBy W none;rw[<-hW];exact I9 w _ s
 have kw:=kc w;rw[hW]at kw;clear kc hW;go_enter func236,ntmps236;go_wp2
 go_loop [8] (fun i=>∃k:Nat,k<=s.size/\i=.int .i64 k/\∀j,(hj:j<s.size)->j<k->aI s[j]=true) (fun i=>s.size-(intOf i).toNat)
 case atStart=>exact⟨0,Nat.zero_le _,rfl,fun j hj h=>absurd h (by omega)⟩
 case round =>
  obtain⟨k,hk,rfl,hp⟩:=hrel;have HP:Hd (∀j,(hj:j<s.size)->j<k->aI s[j]=true):=hp;clear hp
  by_cases hlt:k<s.size
  ·have ck:=HC.o k hlt
   cases hd:aI s[k] with
   | true =>
    go_wp2_with (go_at_call 224;refine(xy _ _).mono ?_;rintro e w' ⟨rfl,rfl⟩)
    go_round
    case rel =>
     refine⟨k+1,by omega,by go_num,fun j hj hjk=>?_⟩
     by_cases hjk':j<k
     ·exact HP.o j hj hjk'
     ·have e:j=k:=by omega
      subst e;exact hd
    case measure=>simp[intOf];omega
   | false =>
    have HN:Hd (oq s.data.toList=false):=by
     show oq s.data.toList=false;unfold oq;have:s.data.toList.all aI=false:=by
      rw[List.all_eq_false];exact⟨s[k],List.mem_of_getElem? (kJ s k hlt),by simp[hd]⟩
     rw[this,Bool.and_false]
    go_wp2_with (go_at_call 224;refine(xy _ _).mono ?_;rintro e w' ⟨rfl,rfl⟩);go_ret;exact⟨bV HN.o.symm,HG.o⟩
  ·have hks:k=s.size:=by omega
   have HA:Hd (s.data.toList.all aI=true):=by
    show s.data.toList.all aI=true;rw[List.all_eq_true];intro c hc;obtain⟨j,hj,rfl⟩:=List.getElem_of_mem hc;exact HP.o j (by simpa using hj) (by simp at hj;have:s.size=s.data.size:=rfl;omega)
   clear hks hk;go_wp2;go_ret;refine⟨bV ?_,HG.o⟩;unfold oq;rw[Lib.toList_data,HA.o,Bool.and_true]
theorem Xl(s:ByteArray)(k:Nat)(hk:k<=s.size)(w:World) :
  (Instr.slice 9 (.string s) (some (.int .i64 (k:Int))) none none).run prog w=.ok (.string ⟨(s.data.toList.drop k).toArray⟩) w:=by
 have h1:(0:Int)<=(k:Int):=by omega
 have h5:(k:Int)<=(s.size:Int):=by omega
 have e:s.extract k s.size=⟨(s.data.toList.drop k).toArray⟩:=by
  apply ByteArray.ext;rw[ByteArray.data_extract];apply Array.ext';simp;exact List.take_of_length_le (by simp)
 rw[<-e];simp[go_sem,underlying9,h1,h5]
open Go.RowKit
def St(A:Nat)(a1 a2 a3:Int)(a4 a5:ByteArray)(w:World):Prop:=w.cell? ⟨A,0,none⟩=some (.int .i64 a1)/\w.cell? ⟨A,1,none⟩=some (.int .i64 a2)/\w.cell? ⟨A,2,none⟩=some (.int .i64 a3)/\w.cell? ⟨A,3,none⟩=some (.string a4)/\w.cell? ⟨A,4,none⟩=some (.string a5)
theorem St.grow{A:Nat}{a1 a2 a3:Int}{a4 a5:ByteArray}{w w':World}(h:St A a1 a2 a3 a4 a5 w)(hg:w.grownBy w' none):St A a1 a2 a3 a4 a5 w' :=
 ⟨hg.cell h.1 (by simp),hg.cell h.2.1 (by simp),hg.cell h.2.2.1 (by simp),hg.cell h.2.2.2.1 (by simp),hg.cell h.2.2.2.2 (by simp)⟩
open Go.RowKit
structure En where
 nm:ByteArray
 ve:ByteArray
 dg:ByteArray
 nd:List ByteArray
def TxS(w:World)(v:Value)(L:List ByteArray):Prop:=(v=.slice none 0 0/\L=[])\/∃a cap,v=.slice (some a) L.length cap/\L.length<=cap/\∀i (hi:i<L.length),w.cell? (a.add i)=some (.string L[i])
theorem TxS.grow{w w':World}{v:Value}{L:List ByteArray}(h:TxS w v L)(hg:w.grownBy w' none):TxS w' v L:=by
 rcases h with h|⟨a,cap,h1,h2,h3⟩
 ·exact Or.inl h
 ·exact Or.inr ⟨a,cap,h1,h2,fun i hi=>hg.cell (h3 i hi) (by simp)⟩
theorem Am{w:World}{v:Value}{L:List ByteArray}(h:TxS w v L):∃o c,v=.slice o L.length c:=by
 rcases h with⟨rfl,rfl⟩|⟨a,cap,rfl,-⟩
 ·exact⟨_,_,rfl⟩
 ·exact⟨_,_,rfl⟩
def EnAt(w:World)(p:Addr)(x:En):Prop:=w.cell? p=some (.string x.nm)/\w.cell? ⟨p.block,p.off+1,none⟩=some (.string x.ve)/\w.cell? ⟨p.block,p.off+2,none⟩=some (.string x.dg)/\∃v,w.cell? ⟨p.block,p.off+3,none⟩=some v/\TxS w v x.nd
theorem EnAt.grow{w w':World}{p:Addr}{x:En}(h:EnAt w p x)(hg:w.grownBy w' none):EnAt w' p x:=by
 obtain⟨h0,h1,h2,v,h3,h4⟩:=h;exact⟨hg.cell h0 (by simp),hg.cell h1 (by simp),hg.cell h2 (by simp),v,hg.cell h3 (by simp),h4.grow hg⟩
def EnS(w:World)(v:Value)(L:List En):Prop:=(v=.slice none 0 0/\L=[])\/∃a cap,v=.slice (some a) L.length cap/\L.length<=cap/\∀i (hi:i<L.length),EnAt w (a.add (i*4)) L[i]
theorem EnS.grow{w w':World}{v:Value}{L:List En}(h:EnS w v L)(hg:w.grownBy w' none):EnS w' v L:=by
 rcases h with h|⟨a,cap,h1,h2,h3⟩
 ·exact Or.inl h
 ·exact Or.inr ⟨a,cap,h1,h2,fun i hi=>(h3 i hi).grow hg⟩
theorem xA{w:World}{v:Value}{L:List En}(h:EnS w v L):∃o c,v=.slice o L.length c:=by
 rcases h with⟨rfl,rfl⟩|⟨a,cap,rfl,-⟩
 ·exact⟨_,_,rfl⟩
 ·exact⟨_,_,rfl⟩
theorem hblk(a:Addr)(k:Nat):(a.add k).block=a.block:=by unfold Addr.add;split<;>simp
def Xm(v:Value)(b:Option Nat):Prop:=∀a n c,v=.slice (some a) n c->0<n->some a.block≠b
theorem TxS.far{w w':World}{v:Value}{L:List ByteArray}{b:Option Nat}(h:TxS w v L)(hg:w.grownBy w' b)(hf:Xm v b):TxS w' v L:=by
 rcases h with h|⟨a,cap,rfl,h2,h3⟩
 ·exact Or.inl h
 ·refine Or.inr ⟨a,cap,rfl,h2,fun i hi=>?_⟩;have hb:=hf a _ _ rfl (by omega);exact hg.cell (h3 i hi) (by rw[hblk];exact hb)
theorem Ja{w:World}{base:Nat}{v:Value}{L:List ByteArray}{n:Nat}(hn:n=L.length)(h:w.ownsRow base 9 1 v n (L.map Value.string)):TxS w v L:=by
 subst hn
 rcases h.2 with⟨h1,h2⟩|⟨g,cap,cur,hv,hb,hc,h3,h4,h5,h6⟩
 ·exact Or.inl ⟨h1,List.length_eq_zero_iff.1 h2⟩
 ·refine Or.inr ⟨⟨g,0,none⟩,cap,hv,h3,fun i hi=>?_⟩;have h':=h;rw[hv]at h';exact h'.cells (g:=g) rfl i _ (by rw[List.getElem?_map,List.getElem?_eq_getElem hi];rfl)
def oW(x:En)(v:Value):List Value:=[.string x.nm,.string x.ve,.string x.dg,v]
def tV(L:List En)(vs:List Value):List Value:=(List.zipWith oW L vs).flatten
theorem Xn(L:List En)(vs:List Value)(x:En)(v:Value)(h:L.length=vs.length):tV (L++[x]) (vs++[v])=tV L vs++oW x v:=by
 unfold tV;rw[List.zipWith_append h];simp
theorem PH:∀(L:List En) (vs:List Value) (h:L.length=vs.length) (i:Nat) (hi:i<L.length) (k:Nat) (u:Value),(oW L[i] (vs[i]'(by omega)))[k]?=some u->(tV L vs)[i*4+k]?=some u
 | [],vs,h,i,hi,k,u,hu=>by simp at hi
 | x :: L,[],h,i,hi,k,u,hu=>by simp at h
 | x :: L,v :: vs,h,i,hi,k,u,hu=>by
  have e:tV (x :: L) (v :: vs)=oW x v++tV L vs:=rfl;have hl:(oW x v).length=4:=rfl;rw[e]
  cases i with
  | zero =>
   simp only[List.getElem_cons_zero]at hu;have hk:k<(oW x v).length:=(List.getElem?_eq_some_iff.1 hu).1;rw[Nat.zero_mul,Nat.zero_add,List.getElem?_append_left hk];exact hu
  | succ i =>
   simp only[List.getElem_cons_succ]at hu;rw[List.getElem?_append_right (by rw[hl];omega),hl,show(i+1)*4+k-4=i*4+k by omega];exact PH L vs (by simpa using h) i (by simpa using hi) k u hu
theorem Xo:(prog.info? 33).map (fun i=>(i.zero,i.size,i.bytes))=some (some (.agg #[.string ⟨#[]⟩,.string ⟨#[]⟩,.string ⟨#[]⟩,.slice none 0 0]),4,72):=by kernel_rfl
theorem PI:(prog.info? 9).map (fun i=>(i.zero,i.size,i.bytes))=some (some (.string ⟨#[]⟩),1,16):=by kernel_rfl
theorem Xp(s:En)(v:Value)(h:v.oneCell'=true):∀u∈oW s v,u.oneCell'=true:=by
 intro u hu;simp only[oW,List.mem_cons,List.not_mem_nil,or_false]at hu
 rcases hu with rfl|rfl|rfl|rfl
 ·rfl
 ·rfl
 ·rfl
 ·exact h
open Go.RowKit
theorem EL(s:ByteArray):(s.toList != s.toList)=false:=by simp
theorem Xq(v v':Value)(K:List ByteArray)(w:World)(h:TxS w v K)(h':TxS w v' K)(hK:K.length<=1048576) :
  Calls prog 16 #[v,v'] w fun e w'=>e=.returned (.bool true)/\w.grownBy w' none:=by
 have H1:Hd (TxS w v K):=h;have H2:Hd (TxS w v' K):=h';obtain⟨o,c,rfl⟩:=Am h;obtain⟨o',c',rfl⟩:=Am h';have hnn:((K.length:Int) != (K.length:Int))=false:=by simp
 clear h h';go_enter func16,ntmps16;go_wp2;go_loopw [5] (fun vi wr=>∃i:Nat,vi=.int .i64 i/\i<=K.length/\w.grownBy wr none) (fun vi _=>K.length-(intOf vi).toNat)
 case atStart=>exact⟨0,rfl,Nat.zero_le _,ax _ _⟩
 case round =>
  obtain⟨i,rfl,hi,hg⟩:=hrel;have HG:Hd (w.grownBy wr none):=hg
  by_cases hlt:i<K.length
  ·obtain⟨a,cap,e1,e2,e3⟩:∃a cap,(Value.slice o K.length c)=.slice (some a) K.length cap/\K.length<=cap/\∀j (h:j<K.length),wr.cell? (a.add j)=some (.string K[j]):=by
    rcases H1.o.grow hg with⟨h1,h2⟩|h
    ·rw[h2]at hlt;simp at hlt
    ·exact h
   obtain⟨b,cbp,f1,f2,f3⟩:∃a cap,(Value.slice o' K.length c')=.slice (some a) K.length cap/\K.length<=cap/\∀j (h:j<K.length),wr.cell? (a.add j)=some (.string K[j]):=by
    rcases H2.o.grow hg with⟨h1,h2⟩|h
    ·rw[h2]at hlt;simp at hlt
    ·exact h
   cases e1
   cases f1
   have g1:=e3 i hlt;have g2:=f3 i hlt;obtain⟨z,hz⟩:∃z,K[i]=z:=⟨_,rfl⟩;rw[hz]at g1 g2;have hzz:=EL z;clear e3 f3 hz hg;go_wp2;go_quiet (fail);go_wp2;go_roundw
   case rel=>exact⟨i+1,by go_num,by omega,aj HG.o _⟩
   case measure=>simp[intOf];omega
  ·clear hg;have hil:i=K.length:=by omega
   go_wp2;go_ret;exact⟨rfl,HG.o⟩
theorem PK(v v':Value)(K:List En)(w:World)(h:EnS w v K)(h':EnS w v' K)(hK:K.length<=1048576)(hN:∀x∈K,x.nd.length<=1048576) :
  Calls prog 7 #[v,v'] w fun e w'=>e=.returned (.bool true)/\w.grownBy w' none:=by
 have H1:Hd (EnS w v K):=h;have H2:Hd (EnS w v' K):=h';have CS:Hd (∀x∈K,∀(u u':Value) (w:World),TxS w u x.nd->TxS w u' x.nd->Calls prog 16 #[u,u'] w fun e w'=>e=.returned (.bool true)/\w.grownBy w' none):=fun x hx u u' w h1 h2=>Xq u u' x.nd w h1 h2 (hN x hx)
 obtain⟨o,c,rfl⟩:=xA h;obtain⟨o',c',rfl⟩:=xA h';have hnn:((K.length:Int) != (K.length:Int))=false:=by simp
 clear h h' hN;go_enter func7,ntmps7;go_wp2;go_loopw [5] (fun vi wr=>∃i:Nat,vi=.int .i64 i/\i<=K.length/\w.grownBy wr none) (fun vi _=>K.length-(intOf vi).toNat)
 case atStart=>exact⟨0,rfl,Nat.zero_le _,ax _ _⟩
 case round =>
  obtain⟨i,rfl,hi,hg⟩:=hrel;have HG:Hd (w.grownBy wr none):=hg
  by_cases hlt:i<K.length
  ·obtain⟨a,cap,e1,e2,e3⟩:∃a cap,(Value.slice o K.length c)=.slice (some a) K.length cap/\K.length<=cap/\∀j (h:j<K.length),EnAt wr (a.add (j*4)) K[j]:=by
    rcases H1.o.grow hg with⟨h1,h2⟩|h
    ·rw[h2]at hlt;simp at hlt
    ·exact h
   obtain⟨b,cbp,f1,f2,f3⟩:∃a cap,(Value.slice o' K.length c')=.slice (some a) K.length cap/\K.length<=cap/\∀j (h:j<K.length),EnAt wr (a.add (j*4)) K[j]:=by
    rcases H2.o.grow hg with⟨h1,h2⟩|h
    ·rw[h2]at hlt;simp at hlt
    ·exact h
   cases e1
   cases f1
   obtain⟨g1,g2,g4,sv,g3,gn⟩:=e3 i hlt;obtain⟨k1,k2,k4,sv',k3,kn⟩:=f3 i hlt;have Xr:Hd (Calls prog 16 #[sv,sv'] wr.drew fun e w'=>e=.returned (.bool true)/\wr.drew.grownBy w' none):=CS.o K[i] (List.getElem_mem _) sv sv' wr.drew (gn.grow ⟨rfl,rfl,rfl,Nat.le_refl _,fun _ _ _=>rfl⟩) (kn.grow ⟨rfl,rfl,rfl,Nat.le_refl _,fun _ _ _=>rfl⟩);obtain⟨z1,hz1⟩:∃z,K[i].nm=z:=⟨_,rfl⟩;obtain⟨z2,hz2⟩:∃z,K[i].ve=z:=⟨_,rfl⟩;obtain⟨z4,xB⟩:∃z,K[i].dg=z:=⟨_,rfl⟩;rw[hz1]at g1 k1;rw[hz2]at g2 k2;rw[xB]at g4 k4;have q1:=EL z1;have q2:=EL z2;have q4:=EL z4;clear e3 f3 hz1 hz2 xB hg gn kn;go_wp2
   go_region_held3 (fun w'=>w'.cell? ⟨(a.add (i*4)).block,(a.add (i*4)).off+3,none⟩=some sv/\w'.cell? ⟨(b.add (i*4)).block,(b.add (i*4)).off+3,none⟩=some sv') ((first|exact⟨World.grownBy.cell (by assumption) (And.left (by assumption)) (by simp),World.grownBy.cell (by assumption) (And.right (by assumption)) (by simp)⟩|go_keep)) (first|(go_at_call 16;refine Xr.o.mono ?_;rintro e w1 ⟨rfl,hg1⟩))
   have hg2:wr.grownBy w1 none:=Ak hg1;have ay:Hd (w.grownBy w1 none):=ah HG.o hg2;have G1:=hg2.cell g1 (by simp);have G2:=hg2.cell g2 (by simp);have G4:=hg2.cell g4 (by simp);have K1:=hg2.cell k1 (by simp);have K2:=hg2.cell k2 (by simp);have K4:=hg2.cell k4 (by simp);clear hg1 hg2 g1 g2 g3 g4 k1 k2 k3 k4;go_wp2;go_quiet (fail);go_wp2;go_roundw
   case rel=>exact⟨i+1,by go_num,by omega,aj ay.o _⟩
   case measure=>simp[intOf];omega
  ·clear hg;have hil:i=K.length:=by omega
   go_wp2;go_ret;exact⟨rfl,HG.o⟩
end Go.Proofs.YtnnbgjaphfhibaaGreatDoor
namespace Go.Proofs
open Go.Shelf
def Tryz.lays103_ren:Go.Shelf.Ren:=⟨fun|103=>91|206=>170|210=>128|n=>n,fun|22=>244|24=>150|25=>151|27=>87|28=>43|30=>76|32=>153|33=>113|37=>90|40=>300|41=>110|42=>274|46=>157|47=>156|48=>185|49=>338|51=>199|52=>198|53=>201|54=>200|55=>297|67=>120|69=>98|70=>89|71=>91|72=>92|73=>162|74=>93|75=>94|76=>95|77=>96|79=>288|80=>100|81=>164|83=>97|84=>160|85=>306|86=>307|100=>161|101=>49|103=>152|104=>34|105=>289|106=>290|108=>315|111=>165|114=>251|119=>301|126=>298|127=>121|128=>299|131=>80|135=>207|137=>302|138=>303|139=>304|143=>317|144=>318|145=>319|164=>158|165=>159|166=>260|167=>305|168=>308|169=>309|170=>310|171=>202|172=>203|173=>204|174=>205|175=>311|176=>312|182=>192|183=>193|188=>255|189=>256|190=>257|191=>258|192=>259|209=>313|210=>314|211=>252|212=>253|213=>254|214=>316|218=>245|219=>246|220=>247|222=>249|224=>284|225=>285|228=>281|229=>282|231=>295|232=>293|233=>294|238=>320|239=>321|240=>322|241=>323|242=>324|243=>326|244=>174|245=>327|246=>328|247=>329|248=>330|249=>331|n=>n,fun|1=>7|3=>10|4=>11|15=>12|16=>13|17=>5|18=>8|19=>9|n=>n⟩
theorem Tryz.lays103:Go.Proofs.Lays.n103 prog Tryz.lays103_ren:={
 mixed:=by kernel_rfl
 f103:=func91.trans (congrArg some (by kernel_rfl))
 f206:=func170.trans (congrArg some (by kernel_rfl))
 f210:=func128.trans (congrArg some (by kernel_rfl))
 t3:=underlying3
 a3:=isAgg3
 z3:=sizeOf3
 v3:=zeroValue3
 t4:=underlying4
 a4:=isAgg4
 z4:=sizeOf4
 v4:=zeroValue4
 t9:=underlying9
 a9:=isAgg9
 z9:=sizeOf9
 v9:=zeroValue9
 t24:=underlying150
 a24:=isAgg150
 z24:=sizeOf150
 v24:=zeroValue150 }
end Go.Proofs
namespace Go.Proofs.YtnnbgjaphfhibaaGreatDoor
open Go.RowKit
def sg(c:Int):Int:=if 48<=c/\c<=57 then c-48 else if 97<=c/\c<=102 then c-87 else -1
theorem Xt(c:Int):0<=sg c↔(48<=c/\c<=57)\/(97<=c/\c<=102):=by unfold sg;split;omega;split;omega;omega
def okS(b:UInt8):Bool:=decide (0<=sg b.toNat)
theorem PL(b:UInt8):okS b=true↔0<=sg b.toNat:=by simp[okS]
def mJ(l:List UInt8):Nat:=l.findIdx (fun b=>!okS b)
theorem PM(l:List UInt8)(k:Nat)(hk:k<l.length)(hp:∀j,(hj:j<k)->okS (l[j]'(by omega))=true)(hb:okS l[k]=false):mJ l=k:=by
 unfold mJ;rw[List.findIdx_eq hk];exact⟨by simp[hb],fun j hj=>by simpa using hp j hj⟩
theorem PN(l:List UInt8)(hp:∀j,(hj:j<l.length)->okS l[j]=true):mJ l=l.length:=by
 unfold mJ;rw[List.findIdx_eq_length];intro x hx;obtain⟨j,hj,rfl⟩:=List.getElem_of_mem hx;simpa using hp j hj
def nJ:List UInt8:=[115,104,97,50,53,54,58]
def lD(l:List UInt8):Bool:=decide (l.length=71) && (l.take 7 == nJ) && (decide (mJ (l.drop 7)=(l.drop 7).length))
theorem PO(s:ByteArray):(s.extract 0 7).toList=s.data.toList.take 7:=by
 rw[ByteArray.toList_eq,ByteArray.data_extract];simp
theorem Xu(l:List UInt8)(hl:l.length=71)(h7:l.take 7=nJ):lD l=decide (mJ (l.drop 7)=(l.drop 7).length):=by
 unfold lD;rw[hl,h7];rfl
theorem Xv(l:List UInt8)(k:Nat)(h7:7<=k)(hk:k<l.length)(hp:∀j,(hj:j<k)->7<=j->(hz:j<l.length)->okS l[j]=true)(hb:okS l[k]=false):decide (mJ (l.drop 7)=(l.drop 7).length)=false:=by
 rw[PM (l.drop 7) (k-7) (by simp;omega) (fun j hj=>by rw[List.getElem_drop];exact hp (7+j) (by omega) (by omega) _) (by
  rw[List.getElem_drop];rw[<-hb];congr 1;congr 1;omega)]
 simp;omega
theorem Xw(l:List UInt8)(hp:∀j,7<=j->(hz:j<l.length)->okS l[j]=true):decide (mJ (l.drop 7)=(l.drop 7).length)=true:=by
 rw[PN (l.drop 7) (fun j hj=>by rw[List.getElem_drop];exact hp (7+j) (by omega) _)];simp
theorem Xx(l:List UInt8)(h7:¬l.take 7=nJ):lD l=false:=by
 unfold lD;rw[show(l.take 7 == nJ)=false from by simpa using h7];simp
theorem PQ(c:Int)(w:World)(h0:0<=c)(h1:c<=255):Calls prog 126 #[.int .u8 c] w fun e w'=>e=.returned (.int .i64 (sg c))/\w'=w:=by
 go_enter func126,ntmps126;go_wp2
 all_goals go_ret
 all_goals refine⟨dD ?_,rfl⟩
 all_goals (unfold sg;first|(rw[if_pos ⟨‹_›,‹_›⟩];done)|(rw[if_neg (by omega),if_pos (by omega)];omega)|(rw[if_neg (by omega),if_neg (by omega)]))
theorem PS(c:Int)(w:World):Calls prog 129 #[.int .u8 c] w fun e w'=>e=.returned (.bool (decide (0<=sg c)))/\w'=w:=by
 go_enter func129,ntmps129;go_wp2
 all_goals go_ret
 all_goals (refine⟨bV ?_,rfl⟩;rw[Bool.eq_iff_iff];simp[Xt];omega)
theorem Xy(s:ByteArray)(w:World)(hs:s.size<=maxLen) :
  Calls prog 92 #[.string s] w fun e w'=>e=.returned (.int .i64 (mJ s.data.toList))/\w'=w:=by
 unfold maxLen at hs;go_enter func92,ntmps92;go_wp2
 go_loop [6] (fun i=>∃k:Nat,k<=s.size/\i=.int .i64 k/\∀j,(hj:j<k)->(hz:j<s.data.toList.length)->okS s.data.toList[j]=true) (fun i=>s.size-(intOf i).toNat)
 case atStart=>exact⟨0,Nat.zero_le _,rfl,fun j hj=>absurd hj (by omega)⟩
 case round =>
  obtain⟨k,hk,rfl,hp⟩:=hrel;have HP:Hd (∀j,(hj:j<k)->(hz:j<s.data.toList.length)->okS s.data.toList[j]=true):=hp;clear hp
  by_cases hlt:k<s.size
  ·by_cases hb:0<=sg (s[k].toNat:Int)
   ·have hd:decide (0<=sg (s[k].toNat:Int))=true:=by simpa using hb
    go_wp2_with (go_at_call 129;refine(PS _ _).mono ?_;rintro e w' ⟨rfl,rfl⟩)
    go_round
    case rel =>
     refine⟨k+1,by omega,by go_num,fun j hj hz=>?_⟩
     by_cases hjk:j<k
     ·exact HP.o j hjk hz
     ·have e:j=k:=by omega
      subst e;rw[PL];exact hb
    case measure=>simp[intOf];omega
   ·have hd:decide (0<=sg (s[k].toNat:Int))=false:=by simpa using hb
    go_wp2_with (go_at_call 129;refine(PS _ _).mono ?_;rintro e w' ⟨rfl,rfl⟩);go_ret;refine⟨dD ?_,rfl⟩;rw[PM s.data.toList k (by simpa using hlt) (fun j hj=>HP.o j hj _) (by unfold okS;exact hd)]
  ·have hks:k=s.size:=by omega
   have HE:Hd (mJ s.data.toList=s.size):=by
    show mJ s.data.toList=s.size;rw[PN s.data.toList (fun j hj=>HP.o j (by simp at hj;have:s.size=s.data.size:=rfl;omega) hj)];simp
   clear hks;go_wp2;go_ret;exact⟨dD (by rw[HE.o]),rfl⟩
def qx(l:List UInt8):List UInt8:=Lib.trimPrefix l nJ
def Ap(l:List UInt8):Bool:=Lib.hasPrefix l nJ
theorem Jb(s:ByteArray)(w:World):Calls prog 91 #[.string s,.string ⟨#[115,104,97,50,53,54,58]⟩] w fun e w'=>e=.returned (.tuple #[.string ⟨(qx s.data.toList).toArray⟩,.bool (Ap s.data.toList)])/\w'=w :=
 Any.strings_CutPrefix Tryz.lays103 s _ w
theorem Xz(l:List UInt8)(w:World)(hs:l.length<=maxLen) :
  Calls prog 92 #[.string ⟨l.toArray⟩] w fun e w'=>e=.returned (.int .i64 (mJ l))/\w'=w :=
 Xy ⟨l.toArray⟩ w (by simpa [ByteArray.size] using hs)
def oZ(l:List UInt8):Bool:=Ap l && (decide ((qx l).length=64) && decide (mJ (qx l)=(qx l).length))
theorem XA(s:ByteArray)(w:World) :
  Calls prog 60 #[.string s] w fun e w'=>e=.returned (.bool (oZ s.data.toList))/\w'=w:=by
 by_cases hp:Ap s.data.toList=true
 ·by_cases hl:(qx s.data.toList).length=64
  ·have hl':(((qx s.data.toList).length:Int) == 64)=true:=by rw[hl];rfl
   have HE:Hd (oZ s.data.toList=decide (mJ (qx s.data.toList)=(qx s.data.toList).length)):=by
    show oZ s.data.toList=_;unfold oZ;rw[hp,hl];rfl
   have hm:(qx s.data.toList).length<=maxLen:=by unfold maxLen;omega
   clear hl;go_enter func60,ntmps60;go_wp2_with (first|(go_at_call 91;refine(Jb _ _).mono ?_;rintro e w' ⟨rfl,rfl⟩)|(go_at_call 92;refine(Xz _ _ hm).mono ?_;rintro e w' ⟨rfl,rfl⟩));go_ret;refine⟨bV ?_,rfl⟩;rw[HE.o,Bool.eq_iff_iff];simp;omega
  ·have hl':(((qx s.data.toList).length:Int) == 64)=false:=by simp;omega
   have HE:Hd (oZ s.data.toList=false):=by
    show oZ s.data.toList=_;unfold oZ;rw[hp,decide_eq_false hl];rfl
   clear hl;go_enter func60,ntmps60;go_wp2_with (go_at_call 91;refine(Jb _ _).mono ?_;rintro e w' ⟨rfl,rfl⟩);go_ret;exact⟨bV HE.o.symm,rfl⟩
 ·have hp':Ap s.data.toList=false:=by simpa using hp
  have HE:Hd (oZ s.data.toList=false):=by
   show oZ s.data.toList=_;unfold oZ;rw[hp'];rfl
  clear hp;go_enter func60,ntmps60;go_wp2_with (go_at_call 91;refine(Jb _ _).mono ?_;rintro e w' ⟨rfl,rfl⟩);go_ret;exact⟨bV HE.o.symm,rfl⟩
theorem XB(s:ByteArray)(w:World)(hs:s.size<=maxLen) :
  Calls prog 87 #[.string s] w fun e w'=>e=.returned (.bool (lD s.data.toList))/\w'=w:=by
 unfold maxLen at hs
 by_cases hl:s.size=71
 ·have hl':((s.size:Int) != 71)=false:=by simp;omega
  have h7:7<=s.size:=by omega
  by_cases hq:s.data.toList.take 7=nJ
  ·have hq':(!(s.extract 0 7).toList == [115,104,97,50,53,54,58])=false:=by rw[PO,hq];rfl
   have HE:Hd (lD s.data.toList=decide (mJ (s.data.toList.drop 7)=(s.data.toList.drop 7).length)):=Xu _ (by simpa using hl) hq;clear hl hq;go_enter func87,ntmps87;go_wp2
   go_loop [3] (fun i=>∃k:Nat,7<=k/\k<=s.size/\i=.int .i64 k/\∀j,(hj:j<k)->7<=j->(hz:j<s.data.toList.length)->okS s.data.toList[j]=true) (fun i=>s.size-(intOf i).toNat)
   case atStart=>exact⟨7,by omega,h7,rfl,fun j hj h7'=>absurd hj (by omega)⟩
   case round =>
    obtain⟨k,XC,hk,rfl,hp⟩:=hrel;have HP:Hd (∀j,(hj:j<k)->7<=j->(hz:j<s.data.toList.length)->okS s.data.toList[j]=true):=hp;clear hp
    by_cases hlt:k<s.size
    ·have hb256:(s[k].toNat:Int)<=255:=by have:=s[k].toNat_lt;omega
     by_cases hb:0<=sg (s[k].toNat:Int)
     ·go_wp2_with (go_at_call 126;refine(PQ _ _ (by omega) (by omega)).mono ?_;rintro e w' ⟨rfl,rfl⟩)
      go_round
      case rel =>
       refine⟨k+1,by omega,by omega,by go_num,fun j hj h7 hz=>?_⟩
       by_cases hjk:j<k
       ·exact HP.o j hjk h7 hz
       ·have e:j=k:=by omega
        subst e;rw[PL];exact hb
      case measure=>simp[intOf];omega
     ·have hbn:sg (s[k].toNat:Int)<0:=by omega
      have hd:decide (0<=sg (s[k].toNat:Int))=false:=by simpa using hb
      have HF:Hd (lD s.data.toList=false):=by
       show lD s.data.toList=false;rw[HE.o];exact Xv _ k XC (by simpa using hlt) HP.o hd
      clear hb hd;go_wp2_with (go_at_call 126;refine(PQ _ _ (by omega) (by omega)).mono ?_;rintro e w' ⟨rfl,rfl⟩);go_ret;exact⟨bV HF.o.symm,rfl⟩
    ·have HF:Hd (lD s.data.toList=true):=by
      show lD s.data.toList=true;rw[HE.o];exact Xw _ (fun j h7 hz=>HP.o j (by simp at hz;have:s.size=s.data.size:=rfl;omega) h7 hz)
     go_wp2;go_ret;exact⟨bV HF.o.symm,rfl⟩
  ·have hq':(!(s.extract 0 7).toList == [115,104,97,50,53,54,58])=true:=by rw[PO];simpa [nJ] using hq
   have HE:Hd (lD s.data.toList=false):=Xx _ hq;clear hl hq;go_enter func87,ntmps87;go_wp2;go_ret;exact⟨bV HE.o.symm,rfl⟩
 ·have hl':((s.size:Int) != 71)=true:=by simp;omega
  have HE:Hd (lD s.data.toList=false):=by
   show lD s.data.toList=_;unfold lD;rw[decide_eq_false (by simpa using hl)];rfl
  clear hl;go_enter func87,ntmps87;go_wp2;go_ret;exact⟨bV HE.o.symm,rfl⟩
theorem XD(l:List UInt8):oZ l=lD l:=by
 unfold oZ lD Ap qx Lib.trimPrefix Lib.hasPrefix
 by_cases h:l.take 7=nJ
 ·have hp:List.isPrefixOf nJ l=true:=by
   rw[List.isPrefixOf_iff_prefix,<-h];exact List.take_prefix _ _
  have h7:7<=l.length:=by
   have:=congrArg List.length h;simp[nJ]at this;omega
  simp only[hp,if_true];rw[show nJ.length=7 from rfl,h];simp only[Bool.true_and,beq_self_eq_true,Bool.and_true];congr 1;simp;omega
 ·have hp:List.isPrefixOf nJ l=false:=by
   rw[Bool.eq_false_iff];intro hp;rw[List.isPrefixOf_iff_prefix]at hp;apply h;have:=List.prefix_iff_eq_take.1 hp;rw[this];rfl
  rw[hp,show(l.take 7 == nJ)=false from by simpa using h];simp
open Go.RowKit
theorem ou(c:UInt8)(w:World):Calls prog 122 #[.int .u8 (c.toNat:Int)] w fun e w'=>e=.returned (.bool (aI c))/\w'=w:=by
 go_enter func122,ntmps122;go_wp2
 all_goals go_ret
 all_goals (refine⟨bV ?_,rfl⟩;rw[Bool.eq_iff_iff];unfold aI;simp;omega)
theorem PT(c:UInt8)(w:World):Calls prog 220 #[.int .u8 (c.toNat:Int)] w fun e w'=>e=.returned (.bool (bg c))/\w'=w:=by
 go_enter func220,ntmps220;go_wp2_with (go_at_call 122;refine(ou _ _).mono ?_;rintro e w' ⟨rfl,rfl⟩)
 all_goals go_ret
 all_goals (refine⟨bV ?_,rfl⟩;rw[Bool.eq_iff_iff];unfold bg;simp_all;try omega)
theorem PU(s:ByteArray)(w:World)(hs:s.size<2 ^ 62) :
  Calls prog 221 #[.string s] w fun e w'=>e=.returned (.bool (s.data.toList.all aI))/\w'=w:=by
 obtain⟨R,hR⟩:∃R,R=s.data.toList.all aI:=⟨_,rfl⟩;have HR:Hd (R=s.data.toList.all aI):=hR;rw[<-hR];clear hR;go_enter func221,ntmps221;go_wp2
 go_loop [3] (fun i=>∃k:Nat,k<=s.size/\i=.int .i64 k/\∀j,(hj:j<s.size)->j<k->aI s[j]=true) (fun i=>s.size-(intOf i).toNat)
 case atStart=>exact⟨0,Nat.zero_le _,rfl,fun j hj h=>absurd h (by omega)⟩
 case round =>
  obtain⟨k,hk,rfl,hp⟩:=hrel;have HP:Hd (∀j,(hj:j<s.size)->j<k->aI s[j]=true):=hp;clear hp
  by_cases hlt:k<s.size
  ·cases hd:aI s[k] with
   | true =>
    go_wp2_with (go_at_call 122;refine(ou _ _).mono ?_;rintro e w' ⟨rfl,rfl⟩)
    go_round
    case rel =>
     refine⟨k+1,by omega,by go_num,fun j hj hjk=>?_⟩
     by_cases hjk':j<k
     ·exact HP.o j hj hjk'
     ·have e:j=k:=by omega
      subst e;exact hd
    case measure=>simp[intOf];omega
   | false =>
    have HN:Hd (R=false):=by
     show R=false;rw[HR.o,List.all_eq_false];exact⟨s[k],List.mem_of_getElem? (kJ s k hlt),by simp[hd]⟩
    go_wp2_with (go_at_call 122;refine(ou _ _).mono ?_;rintro e w' ⟨rfl,rfl⟩);go_ret;exact⟨bV HN.o.symm,rfl⟩
  ·have HN:Hd (R=true):=by
    show R=true;rw[HR.o,List.all_eq_true];intro c hc;obtain⟨j,hj,rfl⟩:=List.getElem_of_mem hc;exact HP.o j (by simpa using hj) (by simp at hj;have:s.size=s.data.size:=rfl;omega)
   clear hk;go_wp2;go_ret;exact⟨bV HN.o.symm,rfl⟩
open Go.RowKit
def rJ(c:UInt8):Bool:=decide (97<=c.toNat/\c.toNat<=122)
def qy(c:UInt8):Bool:=rJ c || aI c || decide (c.toNat=45) || decide (c.toNat=95)
def EM(s:ByteArray):Prop:=1<=s.size/\s.size<=30/\(∀h:0<s.size,rJ s[0]=true)/\∀j,(hj:j<s.size)->1<=j->qy s[j]=true
open Classical in
noncomputable def nameB(s:ByteArray):Bool:=decide (EM s)
theorem PV{s:ByteArray}(h:EM s):nameB s=true:=by simp[nameB,h]
theorem rM{s:ByteArray}(h:¬EM s):nameB s=false:=by simp[nameB,h]
theorem Aq(c:UInt8)(w:World):Calls prog 88 #[.int .u8 (c.toNat:Int)] w fun e w'=>e=.returned (.bool (rJ c))/\w'=w:=by
 go_enter func88,ntmps88;go_wp2
 all_goals go_ret
 all_goals (refine⟨bV ?_,rfl⟩;rw[Bool.eq_iff_iff];simp_all [rJ]<;>omega)
theorem EN(c:UInt8)(w:World):Calls prog 89 #[.int .u8 (c.toNat:Int)] w fun e w'=>e=.returned (.bool (qy c))/\w'=w:=by
 go_enter func89,ntmps89;go_wp2_with (go_at_call 88;refine(Aq _ _).mono ?_;rintro e w' ⟨rfl,rfl⟩)
 all_goals go_ret
 all_goals (refine⟨bV ?_,rfl⟩;rw[Bool.eq_iff_iff];simp_all [qy,aI]<;>omega)
theorem xC(c:UInt8)(w:World):Calls prog 124 #[.int .u8 (c.toNat:Int)] w fun e w'=>e=.returned (.bool (rJ c))/\w'=w:=by
 go_enter func124,ntmps124;go_wp2
 all_goals go_ret
 all_goals (refine⟨bV ?_,rfl⟩;rw[Bool.eq_iff_iff];simp_all [rJ]<;>omega)
theorem name_any(s:ByteArray)(w:World)(hs:s.size<2 ^ 62) :
  Calls prog 58 #[.string s] w fun e w'=>e=.returned (.bool (nameB s))/\w'=w:=by
 obtain⟨R,hR⟩:∃R,R=nameB s:=⟨_,rfl⟩;have HR:Hd (R=nameB s):=hR;rw[<-hR];clear hR
 by_cases h0:s.size=0
 ·have HN:Hd (R=false):=HR.o.trans (rM fun h=>absurd h.1 (by omega));go_enter func58,ntmps58;go_wp2;go_ret;exact⟨bV HN.o.symm,rfl⟩
 by_cases h30:30<s.size
 ·have HN:Hd (R=false):=HR.o.trans (rM fun h=>absurd h.2.1 (by omega));have h1:¬s.size<1:=by omega
  go_enter func58,ntmps58;go_wp2;go_ret;exact⟨bV HN.o.symm,rfl⟩
 have hpos:0<s.size:=by omega
 have g1:((s.size:Int) == 0)=false:=by rw[beq_eq_false_iff_ne];omega
 have g2:decide (30<(s.size:Int))=false:=by rw[decide_eq_false_iff_not];omega
 have g3:decide ((s.size:Int)<1)=false:=by rw[decide_eq_false_iff_not];omega
 cases hl:rJ s[0] with
 | false =>
  have HN:Hd (R=false):=HR.o.trans (rM fun h=>by have:=h.2.2.1 hpos;rw[hl]at this;cases this);go_enter func58,ntmps58;go_wp2_with (first|(go_at_call 88;refine(Aq _ _).mono ?_;rintro e w' ⟨rfl,rfl⟩)|(go_at_call 89;refine(EN _ _).mono ?_;rintro e w' ⟨rfl,rfl⟩));go_ret;exact⟨bV HN.o.symm,rfl⟩
 | true =>
  go_enter func58,ntmps58;go_wp2_with (first|(go_at_call 88;refine(Aq _ _).mono ?_;rintro e w' ⟨rfl,rfl⟩)|(go_at_call 89;refine(EN _ _).mono ?_;rintro e w' ⟨rfl,rfl⟩))
  go_loop [3] (fun i=>∃k:Nat,1<=k/\k<=s.size/\i=.int .i64 k/\∀j,(hj:j<s.size)->j<k->1<=j->qy s[j]=true) (fun i=>s.size-(intOf i).toNat)
  case atStart=>exact⟨1,Nat.le_refl _,by omega,rfl,fun j hj h h'=>absurd h (by omega)⟩
  case round =>
   obtain⟨k,hk1,hk,rfl,hp⟩:=hrel;have HP:Hd (∀j,(hj:j<s.size)->j<k->1<=j->qy s[j]=true):=hp;clear hp;clear g1 g2 g3
   by_cases hlt:k<s.size
   ·cases hd:qy s[k] with
    | true =>
     go_wp2_with (first|(go_at_call 88;refine(Aq _ _).mono ?_;rintro e w' ⟨rfl,rfl⟩)|(go_at_call 89;refine(EN _ _).mono ?_;rintro e w' ⟨rfl,rfl⟩))
     all_goals go_round
     case rel =>
      refine⟨k+1,by omega,by omega,by go_num,fun j hj hjk hj1=>?_⟩
      by_cases hjk':j<k
      ·exact HP.o j hj hjk' hj1
      ·have e:j=k:=by omega
       subst e;exact hd
     case measure=>simp[intOf];omega
    | false =>
     have HN:Hd (R=false):=HR.o.trans (rM fun h=>by have:=h.2.2.2 k hlt hk1;rw[hd]at this;cases this);go_wp2_with (first|(go_at_call 88;refine(Aq _ _).mono ?_;rintro e w' ⟨rfl,rfl⟩)|(go_at_call 89;refine(EN _ _).mono ?_;rintro e w' ⟨rfl,rfl⟩));go_ret;exact⟨bV HN.o.symm,rfl⟩
   ·have HN:Hd (R=true):=HR.o.trans (PV ⟨by omega,by omega,fun _=>hl,fun j hj h=>HP.o j hj (by omega) h⟩);clear hk;go_wp2;go_ret;exact⟨bV HN.o.symm,rfl⟩
theorem XE(s:ByteArray)(w:World)(hs:s.size<2 ^ 62) :
  Calls prog 85 #[.string s] w fun e w'=>e=.returned (.bool (nameB s))/\w'=w:=by
 obtain⟨R,hR⟩:∃R,R=nameB s:=⟨_,rfl⟩;have HR:Hd (R=nameB s):=hR;rw[<-hR];clear hR
 by_cases h0:s.size=0
 ·have HN:Hd (R=false):=HR.o.trans (rM fun h=>absurd h.1 (by omega));go_enter func85,ntmps85;go_wp2;go_ret;exact⟨bV HN.o.symm,rfl⟩
 by_cases h30:30<s.size
 ·have HN:Hd (R=false):=HR.o.trans (rM fun h=>absurd h.2.1 (by omega));have h1:¬s.size<1:=by omega
  go_enter func85,ntmps85;go_wp2;go_ret;exact⟨bV HN.o.symm,rfl⟩
 have hpos:0<s.size:=by omega
 have g1:((s.size:Int) == 0)=false:=by rw[beq_eq_false_iff_ne];omega
 have g2:decide (30<(s.size:Int))=false:=by rw[decide_eq_false_iff_not];omega
 have g3:decide ((s.size:Int)<1)=false:=by rw[decide_eq_false_iff_not];omega
 cases hl:rJ s[0] with
 | false =>
  have HN:Hd (R=false):=HR.o.trans (rM fun h=>by have:=h.2.2.1 hpos;rw[hl]at this;cases this);go_enter func85,ntmps85;go_wp2_with (first|(go_at_call 124;refine(xC _ _).mono ?_;rintro e w' ⟨rfl,rfl⟩)|(go_at_call 122;refine(ou _ _).mono ?_;rintro e w' ⟨rfl,rfl⟩));go_ret;exact⟨bV HN.o.symm,rfl⟩
 | true =>
  go_enter func85,ntmps85;go_wp2_with (first|(go_at_call 124;refine(xC _ _).mono ?_;rintro e w' ⟨rfl,rfl⟩)|(go_at_call 122;refine(ou _ _).mono ?_;rintro e w' ⟨rfl,rfl⟩))
  go_loop [3] (fun i=>∃k:Nat,1<=k/\k<=s.size/\i=.int .i64 k/\∀j,(hj:j<s.size)->j<k->1<=j->qy s[j]=true) (fun i=>s.size-(intOf i).toNat)
  case atStart=>exact⟨1,Nat.le_refl _,by omega,rfl,fun j hj h h'=>absurd h (by omega)⟩
  case round =>
   obtain⟨k,hk1,hk,rfl,hp⟩:=hrel;have HP:Hd (∀j,(hj:j<s.size)->j<k->1<=j->qy s[j]=true):=hp;clear hp;clear g1 g2 g3
   by_cases hlt:k<s.size
   ·cases hd:qy s[k] with
    | true =>
     rcases Bool.eq_false_or_eq_true (rJ s[k]) with a1|a1
     ·go_wp2_with (first|(go_at_call 124;refine(xC _ _).mono ?_;rintro e w' ⟨rfl,rfl⟩)|(go_at_call 122;refine(ou _ _).mono ?_;rintro e w' ⟨rfl,rfl⟩))
      go_round
      case rel =>
       refine⟨k+1,by omega,by omega,by go_num,fun j hj hjk hj1=>?_⟩
       by_cases hjk':j<k
       ·exact HP.o j hj hjk' hj1
       ·have e:j=k:=by omega
        subst e;exact hd
      case measure=>simp[intOf];omega
     rcases Bool.eq_false_or_eq_true (aI s[k]) with a2|a2
     ·go_wp2_with (first|(go_at_call 124;refine(xC _ _).mono ?_;rintro e w' ⟨rfl,rfl⟩)|(go_at_call 122;refine(ou _ _).mono ?_;rintro e w' ⟨rfl,rfl⟩))
      go_round
      case rel =>
       refine⟨k+1,by omega,by omega,by go_num,fun j hj hjk hj1=>?_⟩
       by_cases hjk':j<k
       ·exact HP.o j hj hjk' hj1
       ·have e:j=k:=by omega
        subst e;exact hd
      case measure=>simp[intOf];omega
     by_cases a3:s[k].toNat=45
     ·have b3:((s[k].toNat:Int) != 45)=false:=by rw[a3];rfl
      have b5:((s[k].toNat:Int) != 95)=true:=by rw[a3];rfl
      clear a3;go_wp2_with (first|(go_at_call 124;refine(xC _ _).mono ?_;rintro e w' ⟨rfl,rfl⟩)|(go_at_call 122;refine(ou _ _).mono ?_;rintro e w' ⟨rfl,rfl⟩))
      go_round
      case rel =>
       refine⟨k+1,by omega,by omega,by go_num,fun j hj hjk hj1=>?_⟩
       by_cases hjk':j<k
       ·exact HP.o j hj hjk' hj1
       ·have e:j=k:=by omega
        subst e;exact hd
      case measure=>simp[intOf];omega
     ·have b3:((s[k].toNat:Int) != 45)=true:=by rw[bne_iff_ne];omega
      have b4:((s[k].toNat:Int) != 95)=false:=by unfold qy at hd;simp[a1,a2,a3]at hd;rw[hd];rfl
      clear a3;go_wp2_with (first|(go_at_call 124;refine(xC _ _).mono ?_;rintro e w' ⟨rfl,rfl⟩)|(go_at_call 122;refine(ou _ _).mono ?_;rintro e w' ⟨rfl,rfl⟩))
      go_round
      case rel =>
       refine⟨k+1,by omega,by omega,by go_num,fun j hj hjk hj1=>?_⟩
       by_cases hjk':j<k
       ·exact HP.o j hj hjk' hj1
       ·have e:j=k:=by omega
        subst e;exact hd
      case measure=>simp[intOf];omega
    | false =>
     have HN:Hd (R=false):=HR.o.trans (rM fun h=>by have:=h.2.2.2 k hlt hk1;rw[hd]at this;cases this);obtain⟨a1,a2,a3,a4⟩:rJ s[k]=false/\aI s[k]=false/\¬s[k].toNat=45/\¬s[k].toNat=95:=by
      unfold qy at hd;simpa [and_assoc] using hd
     have b3:((s[k].toNat:Int) != 45)=true:=by rw[bne_iff_ne];omega
     have b4:((s[k].toNat:Int) != 95)=true:=by rw[bne_iff_ne];omega
     clear a3 a4;go_wp2_with (first|(go_at_call 124;refine(xC _ _).mono ?_;rintro e w' ⟨rfl,rfl⟩)|(go_at_call 122;refine(ou _ _).mono ?_;rintro e w' ⟨rfl,rfl⟩));go_ret;exact⟨bV HN.o.symm,rfl⟩
   ·have HN:Hd (R=true):=HR.o.trans (PV ⟨by omega,by omega,fun _=>hl,fun j hj h=>HP.o j hj (by omega) h⟩);clear hk;go_wp2;go_ret;exact⟨bV HN.o.symm,rfl⟩
end Go.Proofs.YtnnbgjaphfhibaaGreatDoor
