import Derived.Lib.Bytealg
import Derived.Lib.TrimByte
import Derived.Lib.Small
import Derived.Lib.ItoaNum
import Derived.Test.YtnnbgjaphfhibaaGreatDoorProg
import Derived.WalkKit
import Derived.WalkSpells
import Derived.WalkLawsBesides
import Derived.Deep.QuietTactic
import Derived.BigQuiet
import Derived.Lib.SmallJoins
import Derived.Deep.RegionWith
set_option linter.all false
set_option maxRecDepth 100000
set_option maxHeartbeats 0
open Go.Proofs.Tryz
namespace Go.Proofs.YtnnbgjaphfhibaaGreatDoor
structure Good{α:Type}(c:α->α->Int):Prop where
 rng:∀a b,c a b=-1\/c a b=0\/c a b=1
 anti:∀a b,c b a=- c a b
 trans:∀a b d,c a b<=0->c b d<=0->c a d<=0/\((c a b=0/\c b d=0)↔c a d=0)
theorem Good.self{α:Type}{c:α->α->Int}(h:Good c)(a:α):c a a=0:=by
 have:=h.anti a a;omega
theorem Rl{α β:Type}{c:α->α->Int}(h:Good c)(f:β->α):Good (fun a b=>c (f a) (f b)) :=
 ⟨fun a b=>h.rng _ _,fun a b=>h.anti _ _,fun a b d=>h.trans _ _ _⟩
def lJ{α:Type}(c:α->α->Int):List α->List α->Int
 | [],[]=>0
 | [],_ :: _=>-1
 | _ :: _,[]=>1
 | a :: al,b :: bs=>if c a b=0 then lJ c al bs else c a b
theorem Z7{α:Type}{c:α->α->Int}(hc:Good c):Good (lJ c):=by
 refine⟨fun a=>?_,fun a=>?_,fun x=>?_⟩
 ·induction a with
  | nil=>intro b;cases b<;>simp[lJ]
  | cons a al ih =>
   intro b
   cases b with
   | nil=>simp[lJ]
   | cons b bs =>
    simp only[lJ];split
    ·exact ih bs
    ·exact hc.rng a b
 ·induction a with
  | nil=>intro b;cases b<;>simp[lJ]
  | cons a al ih =>
   intro b
   cases b with
   | nil=>simp[lJ]
   | cons b bs =>
    have h1:=hc.anti a b;simp only[lJ]
    by_cases h:c a b=0
    ·rw[if_pos h,if_pos (by omega),ih]
    ·rw[if_neg h,if_neg (by omega),h1]
 ·induction x with
  | nil =>
   intro y z p q
   cases y with
   | nil=>cases z<;>simp[lJ]at q ⊢
   | cons y ys=>cases z with
    | nil=>simp[lJ]at q
    | cons z zs=>simp[lJ]
  | cons x xs ih =>
   intro y z
   cases y with
   | nil=>intro p;simp[lJ]at p
   | cons y ys =>
    cases z with
    | nil=>intro p q;simp[lJ]at q
    | cons z zs =>
     have h1:=hc.trans x y z;have h2:=ih ys zs;have r1:=hc.rng x y;have r2:=hc.rng y z;have r3:=hc.rng x z;simp only[lJ];intro p q;split at p<;>split at q
     ·rename_i e1 e2;have e3:=(h1 (by omega) (by omega)).2.1 ⟨e1,e2⟩;rw[if_pos e1,if_pos e2,if_pos e3];exact h2 p q
     ·rename_i e1 e2;have e3:=h1 (by omega) (by omega);have e4:c x z≠0:=fun hh=>e2 (e3.2.2 hh).2
      rw[if_pos e1,if_neg e2,if_neg e4];refine⟨e3.1,?_⟩;constructor
      ·rintro⟨_,h⟩;exact absurd h e2
      ·intro h;exact absurd h e4
     ·rename_i e1 e2;have e3:=h1 (by omega) (by omega);have e4:c x z≠0:=fun hh=>e1 (e3.2.2 hh).1
      rw[if_neg e1,if_pos e2,if_neg e4];refine⟨e3.1,?_⟩;constructor
      ·rintro⟨h,_⟩;exact absurd h e1
      ·intro h;exact absurd h e4
     ·rename_i e1 e2;have e3:=h1 (by omega) (by omega);have e4:c x z≠0:=fun hh=>e1 (e3.2.2 hh).1
      rw[if_neg e1,if_neg e2,if_neg e4];refine⟨e3.1,?_⟩;constructor
      ·rintro⟨h,_⟩;exact absurd h e1
      ·intro h;exact absurd h e4
theorem Z8:Good Lib.compareInt:=by
 refine⟨fun a b=>?_,fun a b=>?_,fun x y z=>?_⟩
 ·unfold Lib.compareInt;split
  ·simp
  ·split<;>simp
 ·unfold Lib.compareInt;repeat' split
  all_goals omega
 ·unfold Lib.compareInt;repeat' split
  all_goals omega
def Gm(a b:UInt8):Int:=Lib.compareInt a.toNat b.toNat
theorem Z9:Good Gm:=Rl Z8 (fun a:UInt8=>(a.toNat:Int))
theorem Rn:∀a b,Lib.compareBytes a b=lJ Gm a b
 | [],[]=>rfl
 | [],_ :: _=>rfl
 | _ :: _,[]=>rfl
 | a :: al,b :: bs=>by
  have ih:=Rn al bs;unfold Lib.compareBytes lJ;rw[ih];have eb:Gm a b=if(a.toNat:Int)<b.toNat then -1 else if(a.toNat:Int) > b.toNat then 1 else 0:=rfl;rw[eb]
  by_cases h:a<b
  ·have h':((a.toNat:Int)<b.toNat):=by have:=UInt8.lt_iff_toNat_lt.1 h;omega
   simp[h,h']
  ·by_cases h2:b<a
   ·have h':((b.toNat:Int)<a.toNat):=by have:=UInt8.lt_iff_toNat_lt.1 h2;omega
    have h'':¬((a.toNat:Int)<b.toNat):=by omega
    simp[h,h2,h',h'']
   ·have h':¬((b.toNat:Int)<a.toNat):=by intro hh;exact h2 (UInt8.lt_iff_toNat_lt.2 (by omega))
    have h'':¬((a.toNat:Int)<b.toNat):=by intro hh;exact h (UInt8.lt_iff_toNat_lt.2 (by omega))
    simp[h,h2,h',h'']
theorem aab:Good Lib.compareBytes:=by
 have e:Lib.compareBytes=lJ Gm:=by funext a b;exact Rn a b
 rw[e];exact Z7 Z9
def aN(c:UInt8):Bool:=decide (48<=c.toNat) && decide (c.toNat<=57)
def aX(c:UInt8):Bool:=aN c || (decide (65<=c.toNat) && decide (c.toNat<=90)) || (decide (97<=c.toNat) && decide (c.toNat<=122)) || decide (c.toNat=45)
def pW(l:List UInt8):Bool:=!l.isEmpty && l.all aN
def lK:List UInt8->List (List UInt8)
 | []=>[[]]
 | c :: l=>if c=46 then[] :: lK l else match lK l with
  | p :: ps=>(c :: p) :: ps
  | []=>[[c]]
theorem Gn(c:UInt8)(l:List UInt8):lK (c :: l)=if c=46 then[] :: lK l else match lK l with
  | p :: ps=>(c :: p) :: ps
  | []=>[[c]]:=by rw[lK]
theorem aac(l:List UInt8):lK l≠[]:=by
 cases l with
 | nil=>simp[lK]
 | cons c l =>
  rw[Gn];split
  ·simp
  ·split<;>simp
theorem Ro:∀(p:List UInt8),(∀c∈p,c≠46)->lK p=[p]
 | [],_=>rfl
 | c :: p,h=>by
  have ih:=Ro p (fun x hx=>h x (List.mem_cons_of_mem _ hx));rw[Gn];rw[if_neg (h c (List.mem_cons_self ..)),ih]
theorem Rq:∀(p r:List UInt8),(∀c∈p,c≠46)->lK (p++46 :: r)=p :: lK r
 | [],r,_=>by simp[lK]
 | c :: p,r,h=>by
  have ih:=Rq p r (fun x hx=>h x (List.mem_cons_of_mem _ hx));rw[List.cons_append,Gn];rw[if_neg (h c (List.mem_cons_self ..)),ih]
structure V where
 major:Int
 minor:Int
 patch:Int
 pre:List UInt8
theorem zS{c:UInt8}(h:aN c=true):48<=c.toNat/\c.toNat<=57:=by
 unfold aN at h;simpa using h
def runN(p:UInt8->Bool)(l:List UInt8)(i:Nat):Nat:=((l.drop i).takeWhile p).length
def aj(l:List UInt8)(i k:Nat):List UInt8:=(l.drop i).take k
theorem Rt(p:UInt8->Bool):∀(l:List UInt8),(l.takeWhile p).length<=l.length
 | []=>by simp
 | c :: l=>by
  have ih:=Rt p l;rw[List.takeWhile_cons];split<;>simp;omega
theorem Ru(p:UInt8->Bool):∀(l:List UInt8) (k:Nat),k<(l.takeWhile p).length->∃h:k<l.length,p l[k]=true
 | [],k,h=>by simp at h
 | c :: l,k,h=>by
  rw[List.takeWhile_cons]at h;split at h
  ·cases k with
   | zero=>exact⟨by simp,by simpa⟩
   | succ k =>
    obtain⟨h1,h2⟩:=Ru p l k (by simpa using h);exact⟨by simp;omega,by simpa using h2⟩
  ·simp at h
theorem Rw(p:UInt8->Bool):∀(l:List UInt8) (h:(l.takeWhile p).length<l.length),p l[(l.takeWhile p).length]=false
 | [],h=>by simp at h
 | c :: l,h=>by
  cases hc:p c with
  | true =>
   have e:(c :: l).takeWhile p=c :: l.takeWhile p:=by rw[List.takeWhile_cons,if_pos hc]
   have h':(l.takeWhile p).length<l.length:=by rw[e]at h;simpa using h
   have:=Rw p l h';simp only[e,List.length_cons,List.getElem_cons_succ];exact this
  | false =>
   have e:(c :: l).takeWhile p=[]:=by rw[List.takeWhile_cons,if_neg (by simp[hc])]
   simp only[e,List.length_nil,List.getElem_cons_zero];exact hc
theorem Rx(p:UInt8->Bool):∀(l:List UInt8),l.take (l.takeWhile p).length=l.takeWhile p
 | []=>by simp
 | c :: l=>by
  have ih:=Rx p l;rw[List.takeWhile_cons];split<;>simp[ih]
theorem tq(p:UInt8->Bool)(l:List UInt8)(i:Nat)(h:i<=l.length):i+runN p l i<=l.length:=by
 have:=Rt p (l.drop i);unfold runN;simp at this ⊢;omega
theorem KC(p:UInt8->Bool)(l:List UInt8)(i k:Nat)(h:k<runN p l i):∃h:i+k<l.length,p l[i+k]=true:=by
 obtain⟨h1,h2⟩:=Ru p (l.drop i) k h;simp only[List.length_drop]at h1;exact⟨by omega,by simpa using h2⟩
theorem Gp(p:UInt8->Bool)(l:List UInt8)(i:Nat)(h:i+runN p l i<l.length):p l[i+runN p l i]=false:=by
 have h':((l.drop i).takeWhile p).length<(l.drop i).length:=by unfold runN at h;simp at h ⊢;omega
 have:=Rw p (l.drop i) h';simpa [runN] using this
theorem aad(p:UInt8->Bool)(l:List UInt8)(i:Nat):aj l i (runN p l i)=(l.drop i).takeWhile p:=Rx p (l.drop i)
def qU(n:Int)(c:UInt8):Int:=10*n+((c.toNat:Int)-48)
def bK(l:List UInt8):Int:=l.foldl qU 0
theorem Ry(l:List UInt8)(c:UInt8):bK (l++[c])=qU (bK l) c:=by unfold bK;rw[List.foldl_append];rfl
theorem KE:∀(l:List UInt8) (n:Int),0<=n->l.all aN=true->n<=l.foldl qU n
 | [],n,_,_=>Int.le_refl n
 | c :: l,n,h,hd=>by
  simp only[List.all_cons,Bool.and_eq_true]at hd;have h1:=zS hd.1;have h2:n<=qU n c:=by unfold qU;omega
  exact Int.le_trans h2 (KE l _ (by omega) hd.2)
theorem Gq(l:List UInt8)(hd:l.all aN=true):0<=bK l:=KE l 0 (by omega) hd
theorem Rz(a b:List UInt8)(hd:(a++b).all aN=true):bK a<=bK (a++b):=by
 rw[List.all_append,Bool.and_eq_true]at hd;unfold bK;rw[List.foldl_append];exact KE b _ (Gq a hd.1) hd.2
def rdNum(l:List UInt8)(i:Nat):Int × Int × Nat :=
 if runN aN l i=0 then(2,0,i)
 else if 1<runN aN l i/\l[i]?=some 48 then(2,0,i)
 else if bK (aj l i (runN aN l i)) > 999999999 then(3,0,i)
 else(0,bK (aj l i (runN aN l i)),i+runN aN l i)
def kL(strict:Bool)(p:List UInt8):Bool:=strict && (p.all aN && (decide (1<p.length) && decide (p[0]?=some 48)))
def aQ(strict:Bool)(l:List UInt8)(i:Nat):Int × Nat :=
 if runN aX l i=0 then(2,i)
 else if kL strict (aj l i (runN aX l i))=true then(2,i)
 else if h:l[i+runN aX l i]?=some 46 then aQ strict l (i+runN aX l i+1)
 else(0,i+runN aX l i)
termination_by l.length-i
decreasing_by
 have:=(List.getElem?_eq_some_iff.1 h).1;omega
theorem Gs(strict:Bool)(l:List UInt8)(i:Nat):aQ strict l i =
 if runN aX l i=0 then(2,i)
 else if kL strict (aj l i (runN aX l i))=true then(2,i)
 else if l[i+runN aX l i]?=some 46 then aQ strict l (i+runN aX l i+1)
 else(0,i+runN aX l i):=by
 rw[aQ];split
 ·rfl
 ·split
  ·rfl
  ·split<;>rfl
def zT(strict:Bool)(p:List UInt8):Bool:=!p.isEmpty && p.all aX && !kL strict p
def yC(strict:Bool)(l:List UInt8):Bool:=l.isEmpty || (lK l).all (zT strict)
theorem aae{c:UInt8}(h:aX c=true):c≠46:=by
 intro e;subst e;exact absurd h (by decide)
theorem Gt(p:UInt8->Bool)(l:List UInt8)(i:Nat):(aj l i (runN p l i)).all p=true:=by
 rw[aad];exact List.all_takeWhile
theorem tu(l:List UInt8)(i k:Nat)(h:i+k<=l.length):(aj l i k).length=k:=by
 unfold aj;simp;omega
theorem aaf(u:Nat)(h:u<10):(UInt8.ofNat (48+u)).toNat=48+u:=by
 show(48+u) % 256=48+u;omega
theorem aag(l:List UInt8)(hne:l≠[])(hd:l.all aN=true)(hz:¬(1<l.length/\l[0]?=some 48)):Lib.decDigits (bK l).toNat=l:=by
 -- the last digit off
 have key:∀(n:Nat) (l:List UInt8),l.length=n->l≠[]->l.all aN=true->¬(1<l.length/\l[0]?=some 48)->Lib.decDigits (bK l).toNat=l/\(1<l.length->0<bK l.dropLast):=by
  intro n
  induction n with
  | zero=>intro l hl hne;exact absurd (List.length_eq_zero_iff.1 hl) hne
  | succ n ih =>
   intro l hl hne hd hz;obtain⟨q,c,rfl⟩:∃q c,l=q++[c]:=⟨l.dropLast,l.getLast hne,(List.dropLast_concat_getLast hne).symm⟩;have hd':=hd;rw[List.all_append,Bool.and_eq_true]at hd';have hc:=zS (show aN c=true by simpa using hd'.2);have hcv:UInt8.ofNat (48+(c.toNat - 48))=c:=by
    apply UInt8.toNat_inj.1;rw[aaf _ (by omega)];omega
   rw[List.dropLast_concat]
   by_cases hq:q=[]
   ·subst hq;refine⟨?_,by simp⟩;have hv:bK ([]++[c])=(c.toNat:Int)-48:=by show qU 0 c=_;unfold qU;omega
    have hn:((c.toNat:Int)-48).toNat=c.toNat - 48:=by omega
    rw[hv,hn,Lib.decDigits_one (by omega),hcv];rfl
   ·have dU:=List.length_pos_iff.2 hq;have hz1:q[0]?≠some 48:=by
     intro h;refine hz ⟨by simp;omega,?_⟩;rw[List.getElem?_append_left dU];exact h
    have hlen:q.length=n:=by simp at hl;exact hl
    have h1:=ih q hlen hq hd'.1 (fun h=>hz1 h.2);have hpos:0<bK q:=by
     rcases Nat.lt_or_ge 1 q.length with hgt|hle
     ·have h2:=h1.2 hgt;have:bK q.dropLast<=bK q:=by
       conv=>rhs;rw[<-List.dropLast_concat_getLast hq]
       exact Rz _ _ (by rw[List.dropLast_concat_getLast hq];exact hd'.1)
      omega
     ·obtain⟨x,rfl⟩:∃x,q=[x]:=List.length_eq_one_iff.1 (by omega);have hx:=zS (show aN x=true by simpa using hd'.1);have hx0:x.toNat≠48:=fun hh=>hz1 (by
       have:x=48:=UInt8.toNat_inj.1 hh;rw[this];rfl)
      show 0<qU 0 x;unfold qU;omega
    refine⟨?_,fun _=>hpos⟩;rw[Ry];have hv:(qU (bK q) c).toNat=10*(bK q).toNat+(c.toNat - 48):=by unfold qU;omega
    rw[hv,Lib.decDigits,dif_neg (by omega)];have e1:(10*(bK q).toNat+(c.toNat - 48)) / 10=(bK q).toNat:=by omega
    have e2:(10*(bK q).toNat+(c.toNat - 48)) % 10=c.toNat - 48:=by omega
    rw[e1,e2,h1.1,hcv]
 exact(key _ l rfl hne hd hz).1
theorem aah(l:List UInt8)(i:Nat)(hi:i<=l.length)(h:(rdNum l i).1=0) :
  ∃k,0<k/\i+k<=l.length/\(rdNum l i).2.2=i+k/\aj l i k=Lib.decDigits (rdNum l i).2.1.toNat/\0<=(rdNum l i).2.1/\(rdNum l i).2.1<=999999999:=by
 have hle:=tq aN l i hi;have hall:=Gt aN l i;have hlen:=tu l i _ hle;unfold rdNum at h ⊢
 by_cases h0:runN aN l i=0
 ·rw[if_pos h0]at h;simp at h
 ·rw[if_neg h0]at h ⊢
  by_cases hz:1<runN aN l i/\l[i]?=some 48
  ·rw[if_pos hz]at h;simp at h
  ·rw[if_neg hz]at h ⊢
   by_cases hv:bK (aj l i (runN aN l i)) > 999999999
   ·rw[if_pos hv]at h;simp at h
   ·rw[if_neg hv];refine⟨runN aN l i,by omega,hle,rfl,?_,Gq _ hall,Int.not_lt.1 hv⟩;have hne:aj l i (runN aN l i)≠[]:=fun e=>by rw[e]at hlen;simp at hlen;omega
    have h48:(aj l i (runN aN l i))[0]?=l[i]?:=by
     unfold aj;rw[List.getElem?_take_of_lt (by omega),List.getElem?_drop];rfl
    rw[aag _ hne hall (by rw[hlen,h48];exact hz)]
theorem aai(l:List UInt8)(i k j:Nat)(hk:i+k<j)(hj:j<=l.length)(h46:l[i+k]?=some 46) :
  aj l i (j-i)=aj l i k++46 :: aj l (i+k+1) (j-(i+k+1)):=by
 unfold aj;obtain⟨hlt,e⟩:=List.getElem?_eq_some_iff.1 h46;have h1:j-i=k+((j-(i+k+1))+1):=by omega
 rw[h1,List.take_add,List.drop_drop,List.drop_eq_getElem_cons hlt,List.take_succ_cons,e]
theorem Gu(s:Bool)(l:List UInt8):∀(n i:Nat),l.length-i=n->i<=l.length->(aQ s l i).1=0 →
  i<(aQ s l i).2/\(aQ s l i).2<=l.length/\(lK (aj l i ((aQ s l i).2-i))).all (zT s)=true:=by
 intro n
 induction n using Nat.strongRecOn with
 | ind n ih =>
  intro i hn hi h;have hle:=tq aX l i hi;have hall:=Gt aX l i;have hlen:=tu l i _ hle;have hnd:=fun x (hx:x∈aj l i (runN aX l i))=>aae (List.all_eq_true.1 hall x hx)
  rw[Gs]at h ⊢
  by_cases h0:runN aX l i=0
  ·rw[if_pos h0]at h;simp at h
  ·rw[if_neg h0]at h ⊢
   by_cases hb:kL s (aj l i (runN aX l i))=true
   ·rw[if_pos hb]at h;simp at h
   ·rw[if_neg hb]at h ⊢;have hok:zT s (aj l i (runN aX l i))=true:=by
     have h1:(aj l i (runN aX l i)).isEmpty=false:=by
      cases h:aj l i (runN aX l i) with
      | nil=>rw[h]at hlen;simp at hlen;omega
      | cons c r=>rfl
     have h2:kL s (aj l i (runN aX l i))=false:=by simpa using hb
     simp[zT,h1,hall,h2]
    by_cases hg:l[i+runN aX l i]?=some 46
    ·rw[if_pos hg]at h ⊢;have hlt:=(List.getElem?_eq_some_iff.1 hg).1;obtain⟨g1,g2,g3⟩:=ih (l.length-(i+runN aX l i+1)) (by omega) (i+runN aX l i+1) rfl (by omega) h;refine⟨by omega,g2,?_⟩;rw[aai l i (runN aX l i) _ (by omega) g2 hg,Rq _ _ hnd,List.all_cons,hok,g3];rfl
    ·rw[if_neg hg];refine⟨by simp only;omega,hle,?_⟩;simp only;rw[show i+runN aX l i-i=runN aX l i by omega,Ro _ hnd];simp[hok]
def nx(l:List UInt8)(i:Nat):Int:=match l[i]? with|some c=>(c.toNat:Int)|none=>-1
theorem pX(l:List UInt8)(i:Nat)(h:i<l.length):nx l i=(l[i].toNat:Int):=by simp[nx,List.getElem?_eq_getElem h]
theorem jJ(l:List UInt8)(i:Nat)(h:l.length<=i):nx l i=-1:=by simp[nx,List.getElem?_eq_none h]
theorem aY{l:List UInt8}{i:Nat}(h:0<=nx l i):i<l.length:=by
 apply Classical.byContradiction;intro hn;rw[jJ l i (by omega)]at h;exact absurd h (by decide)
theorem Gv(l:List UInt8)(i:Nat):-1<=nx l i/\nx l i<256:=by
 by_cases h:i<l.length
 ·rw[pX l i h];have:=l[i].toNat_lt;omega
 ·rw[jJ l i (by omega)];decide
def toR(p:Int->Bool)(l:List UInt8)(i:Nat):Nat:=i+runN (fun c=>p (c.toNat:Int)) l i
theorem qV(p:Int->Bool)(l:List UInt8)(i:Nat)(hi:i<l.length)(h:p (nx l i)=true):toR p l i=toR p l (i+1):=by
 rw[pX l i hi]at h;unfold toR runN;rw[List.drop_eq_getElem_cons hi,List.takeWhile_cons];simp only[h,if_true,List.length_cons];omega
theorem kX(p:Int->Bool)(l:List UInt8)(i:Nat)(h:p (nx l i)=false):toR p l i=i:=by
 unfold toR runN
 by_cases hi:i<l.length
 ·rw[pX l i hi]at h;rw[List.drop_eq_getElem_cons hi,List.takeWhile_cons];simp[h]
 ·rw[List.drop_eq_nil_of_le (by omega)];simp
theorem pY(p:Int->Bool)(l:List UInt8)(i:Nat)(hi:i<=l.length):i<=toR p l i/\toR p l i<=l.length:=by
 unfold toR runN;have h1:=(List.takeWhile_sublist (fun c:UInt8=>p (c.toNat:Int)) (l:=l.drop i)).length_le;rw[List.length_drop]at h1;omega
def eU(c:Int):Bool:=decide (c=32\/c=9)
def aA(c:Int):Bool:=decide (48<=c/\c<=57)
def dH(c:Int):Bool:=decide (97<=c/\c<=122)
def bg(c:Int):Bool:=dH c || decide (65<=c/\c<=90) || aA c || decide (c=95) || decide (c=45)
def yD(c:Int):Bool:=decide ((0<=c/\c<32)\/c=127)
def ji(c:Int):Bool:=yD c && decide (c≠9)
def fB(c:Int):Bool:=decide (c≠10) && !ji c
def aZ(l:List UInt8)(i:Nat):Bool × Nat:=if nx l i=35 then(if nx l (toR fB l i)=10\/nx l (toR fB l i)=-1 then(true,toR fB l i) else(false,toR fB l i)) else(true,i)
theorem yE(l:List UInt8)(i:Nat)(h:¬nx l i=35):aZ l i=(true,i):=by unfold aZ;rw[if_neg h]
def bl(l:List UInt8)(i:Nat):Nat:=toR eU l i
structure Vv where
 major:Int
 minor:Int
 patch:Int
 pre:List UInt8
 build:List UInt8
def zeroV:Vv:=⟨0,0,0,[],[]⟩
def bu(c:UInt8)(s:Bool)(l:List UInt8)(i:Nat):Int × Nat × List UInt8 :=
 if l[i]?=some c then
  (if(aQ s l (i+1)).1=0 then(0,(aQ s l (i+1)).2,aj l (i+1) ((aQ s l (i+1)).2-(i+1))) else((aQ s l (i+1)).1,(aQ s l (i+1)).2,[]))
 else(0,i,[])
def dh(l:List UInt8):Int × Nat × Int × Int × Int :=
 if(rdNum l 0).1=0 then
  if l[(rdNum l 0).2.2]?=some 46 then
   if(rdNum l ((rdNum l 0).2.2+1)).1=0 then
    if l[(rdNum l ((rdNum l 0).2.2+1)).2.2]?=some 46 then
     if(rdNum l ((rdNum l ((rdNum l 0).2.2+1)).2.2+1)).1=0 then
      (0,(rdNum l ((rdNum l ((rdNum l 0).2.2+1)).2.2+1)).2.2,(rdNum l 0).2.1,(rdNum l ((rdNum l 0).2.2+1)).2.1,(rdNum l ((rdNum l ((rdNum l 0).2.2+1)).2.2+1)).2.1)
     else((rdNum l ((rdNum l ((rdNum l 0).2.2+1)).2.2+1)).1,(rdNum l ((rdNum l ((rdNum l 0).2.2+1)).2.2+1)).2.2,0,0,0)
    else(2,(rdNum l ((rdNum l 0).2.2+1)).2.2,0,0,0)
   else((rdNum l ((rdNum l 0).2.2+1)).1,(rdNum l ((rdNum l 0).2.2+1)).2.2,0,0,0)
  else(2,(rdNum l 0).2.2,0,0,0)
 else((rdNum l 0).1,(rdNum l 0).2.2,0,0,0)
def eu(l:List UInt8):Int × Nat × Vv :=
 if(dh l).1=0 then
  if(bu 45 true l (dh l).2.1).1=0 then
   if(bu 43 false l (bu 45 true l (dh l).2.1).2.1).1=0 then
    if(bu 43 false l (bu 45 true l (dh l).2.1).2.1).2.1<l.length then(2,(bu 43 false l (bu 45 true l (dh l).2.1).2.1).2.1,zeroV)
    else(0,0,⟨(dh l).2.2.1,(dh l).2.2.2.1,(dh l).2.2.2.2,(bu 45 true l (dh l).2.1).2.2,(bu 43 false l (bu 45 true l (dh l).2.1).2.1).2.2⟩)
   else((bu 43 false l (bu 45 true l (dh l).2.1).2.1).1,(bu 43 false l (bu 45 true l (dh l).2.1).2.1).2.1,zeroV)
  else((bu 45 true l (dh l).2.1).1,(bu 45 true l (dh l).2.1).2.1,zeroV)
 else((dh l).1,(dh l).2.1,zeroV)
def jZ(l:List UInt8):Int × Nat × Vv:=if 100<l.length then(1,0,zeroV) else eu l
def zU(c:UInt8)(p:List UInt8):List UInt8:=if p=[] then[] else c :: p
def KF(v:Vv):List UInt8:=Lib.itoa v.major++(46 :: (Lib.itoa v.minor++(46 :: (Lib.itoa v.patch++(zU 45 v.pre++zU 43 v.build)))))
def bound(n:Int):Bool:=decide (0<=n) && decide (n<=1000000000)
theorem RD{n:Int}:bound n=true↔0<=n/\n<=1000000000:=by unfold bound;simp
def KG(v:Vv):Bool:=bound v.major && (bound v.minor && (bound v.patch && (yC true v.pre && yC false v.build)))
theorem RF{n:Int}(h:0<=n):Lib.itoa n=Lib.decDigits n.toNat:=by unfold Lib.itoa;rw[if_neg (by omega)]
theorem aaj{s:Bool}{l:List UInt8}(h:yC s l=true)(hne:l≠[]):(lK l).all (zT s)=true:=by
 have:l.isEmpty=false:=by simpa using hne
 unfold yC at h;rw[this,Bool.false_or]at h;exact h
theorem RG{l:List UInt8}{i k:Nat}:l.drop i=aj l i k++l.drop (i+k):=by
 unfold aj;rw[<-List.drop_drop,List.take_append_drop]
theorem drop_cons{l:List UInt8}{i:Nat}{c:UInt8}(h:l[i]?=some c):l.drop i=c :: l.drop (i+1)/\i<l.length:=by
 obtain⟨hlt,e⟩:=List.getElem?_eq_some_iff.1 h;rw[List.drop_eq_getElem_cons hlt,e];exact⟨rfl,hlt⟩
theorem KH(l:List UInt8)(i:Nat)(hi:i<=l.length)(h:(rdNum l i).1=0) :
  (rdNum l i).2.2<=l.length/\l.drop i=Lib.itoa (rdNum l i).2.1++l.drop (rdNum l i).2.2/\0<=(rdNum l i).2.1/\(rdNum l i).2.1<=999999999:=by
 obtain⟨k,h1,h2,h3,h4,h5,h6⟩:=aah l i hi h;refine⟨by omega,?_,h5,h6⟩;rw[RF h5,<-h4,h3];exact RG
theorem RH(l:List UInt8)(h:(dh l).1=0) :
  (dh l).2.1<=l.length/\l=Lib.itoa (dh l).2.2.1++46 :: (Lib.itoa (dh l).2.2.2.1++46 :: (Lib.itoa (dh l).2.2.2.2++l.drop (dh l).2.1)) ∧
  (0<=(dh l).2.2.1/\(dh l).2.2.1<=999999999)/\(0<=(dh l).2.2.2.1/\(dh l).2.2.2.1<=999999999)/\(0<=(dh l).2.2.2.2/\(dh l).2.2.2.2<=999999999):=by
 unfold dh at h ⊢;split at h
 ·rename_i e1;split at h
  ·rename_i g1;split at h
   ·rename_i e2;split at h
    ·rename_i g2;split at h
     ·rename_i e3;obtain⟨a1,a2,a3⟩:=KH l 0 (Nat.zero_le _) e1;obtain⟨c1,c2⟩:=drop_cons g1;obtain⟨b1,b2,b3⟩:=KH l _ (by omega) e2;obtain⟨c3,c4⟩:=drop_cons g2;obtain⟨d1,d2,d3⟩:=KH l _ (by omega) e3;simp only[e1,g1,e2,g2,e3,if_true];refine⟨d1,?_,a3,b3,d3⟩;rw[List.drop_zero]at a2;rw[<-d2,<-c3,<-b2,<-c1];exact a2
     ·rename_i e;exact absurd h e
    ·simp at h
   ·rename_i e;exact absurd h e
  ·simp at h
 ·rename_i e;exact absurd h e
theorem RI(c:UInt8)(s:Bool)(l:List UInt8)(i:Nat)(hi:i<=l.length)(h:(bu c s l i).1=0) :
  (bu c s l i).2.1<=l.length/\l.drop i=zU c (bu c s l i).2.2++l.drop (bu c s l i).2.1/\yC s (bu c s l i).2.2=true:=by
 unfold bu at h ⊢
 by_cases hc:l[i]?=some c
 ·rw[if_pos hc]at h ⊢;obtain⟨c1,c2⟩:=drop_cons hc
  by_cases h0:(aQ s l (i+1)).1=0
  ·rw[if_pos h0];obtain⟨g1,g2,g3⟩:=Gu s l _ (i+1) rfl (by omega) h0;have hlen:=tu l (i+1) ((aQ s l (i+1)).2-(i+1)) (by omega);have hne:aj l (i+1) ((aQ s l (i+1)).2-(i+1))≠[]:=fun e=>by rw[e]at hlen;simp at hlen;omega
   refine⟨g2,?_,?_⟩
   ·simp only;unfold zU;rw[if_neg hne,c1,List.cons_append];congr 1;have:=@RG l (i+1) ((aQ s l (i+1)).2-(i+1));rw[show i+1+((aQ s l (i+1)).2-(i+1))=(aQ s l (i+1)).2 by omega]at this;exact this
   ·simp only;unfold yC;rw[g3,Bool.or_true]
  ·rw[if_neg h0]at h;exact absurd h h0
 ·rw[if_neg hc];exact⟨hi,rfl,rfl⟩
theorem aak(l:List UInt8)(h:(eu l).1=0):KF (eu l).2.2=l/\KG (eu l).2.2=true:=by
 unfold eu at h ⊢;split at h
 ·rename_i e1;split at h
  ·rename_i e2;split at h
   ·rename_i e3;split at h
    ·simp at h
    ·rename_i e4;obtain⟨a1,a2,a3,a4,a5⟩:=RH l e1;obtain⟨b1,b2,b3⟩:=RI 45 true l _ a1 e2;obtain⟨c1,c2,c3⟩:=RI 43 false l _ b1 e3;simp only[e1,e2,e3,if_true,if_neg e4];have hend:l.drop (bu 43 false l (bu 45 true l (dh l).2.1).2.1).2.1=[]:=List.drop_of_length_le (by omega);rw[hend,List.append_nil]at c2;constructor
     ·unfold KF;simp only;rw[<-c2,<-b2];exact a2.symm
     ·simp only[KG,Bool.and_eq_true,RD];exact⟨by omega,by omega,by omega,b3,c3⟩
   ·rename_i e;exact absurd h e
  ·rename_i e;exact absurd h e
 ·rename_i e;exact absurd h e
open Go.RowKit
theorem zN{α:Sort _}(a:α):∃z,a=z:=⟨a,rfl⟩
theorem dO{α:Type _}{xs:Array α}{i:Nat}{v:α}(h:xs[i]?=some v):i<xs.size:=(Array.getElem?_eq_some_iff.1 h).1
theorem ag{w:World}{b:Nat}{cs:Array Value}{T:TypeId}{fr:Nat×Nat}(hb:w.heap[b]?=some (.cells cs T fr))(j:Nat):w.cell? ⟨b,j,none⟩=cs[j]?:=by simp[World.cell?,hb]
def Hd(p:Prop):Prop:=p
theorem ae{p:Prop}(h:p):Hd p:=h
theorem Hd.o{p:Prop}(h:Hd p):p:=h
theorem dB{k:IntKind}{a b:Int}(h:a=b):Ending.returned (.int k a)=.returned (.int k b):=by rw[h]
theorem bJ{a b:Bool}(h:a=b):Ending.returned (.bool a)=.returned (.bool b):=by rw[h]
theorem yF(c:UInt8)(w:World):Calls prog 224 #[.int .u8 (c.toNat:Int)] w fun e w'=>e=.returned (.bool (aN c))/\w'=w:=by
 go_enter func224,ntmps224;go_wp2
 all_goals go_ret
 all_goals (refine⟨bJ ?_,rfl⟩;rw[Bool.eq_iff_iff];unfold aN;simp;omega)
theorem au(w:World)(r:Option Nat):w.grownBy w r:=⟨rfl,rfl,rfl,Nat.le_refl _,fun _ _ _=>rfl⟩
theorem ay{w w':World}{r:Option Nat}(h:w.grownBy w' r)(n:Nat):w.grownBy (w'.drewN n) r:=⟨h.os,h.tape,h.output,h.size,h.block⟩
theorem aS{w w':World}{b:Nat}(h:w.grownBy w' (some b))(o:Nat)(v:Value):w.grownBy (w'.setCell ⟨b,o,none⟩ v) (some b):=by
 refine⟨h.os,h.tape,h.output,by simpa [World.setCell] using h.size,fun k hk hne=>?_⟩;rw[<-h.block k hk hne];exact heap_setCell_other w' _ k v (fun e=>hne (by rw[e]))
theorem ai{w w1 w2:World}{r:Option Nat}(h:w.grownBy w1 r)(h':w1.grownBy w2 r):w.grownBy w2 r :=
 ⟨h'.os.trans h.os,h'.tape.trans h.tape,h'.output.trans h.output,Nat.le_trans h.size h'.size,fun k hk hne=>(h'.block k (Nat.lt_of_lt_of_le hk h.size) hne).trans (h.block k hk hne)⟩
theorem lL(s:ByteArray)(i:Nat)(h:i<s.size):s.data.toList[i]?=some s[i]:=by rw[List.getElem?_eq_getElem (by simpa using h)];rfl
theorem lM(s:ByteArray)(i j:Nat)(hi:i<=j)(hj:j<=s.size)(w:World) :
  (Instr.slice 9 (.string s) (some (.int .i64 (i:Int))) (some (.int .i64 (j:Int))) none).run prog w=.ok (.string ⟨(aj s.data.toList i (j-i)).toArray⟩) w:=by
 have h1:(0:Int)<=(i:Int):=by omega
 have h4:(i:Int)<=(j:Int):=by omega
 have h5:(j:Int)<=(s.size:Int):=by omega
 have e:s.extract i j=⟨(aj s.data.toList i (j-i)).toArray⟩:=by
  apply ByteArray.ext;rw[ByteArray.data_extract];apply Array.ext';unfold aj;simp
 rw[<-e];simp[go_sem,underlying9,h1,h4,h5]
open Go.RowKit Go.Joins
theorem aal(c:Int)(w:World):Calls prog 147 #[.int .i64 c] w fun e w'=>e=.returned (.bool (eU c))/\w'=w:=by
 go_enter func147,ntmps147;go_wp2
 all_goals go_ret
 all_goals (refine⟨bJ ?_,rfl⟩;rw[Bool.eq_iff_iff];unfold eU;simp;try omega)
theorem Gw(c:Int)(w:World):Calls prog 151 #[.int .i64 c] w fun e w'=>e=.returned (.bool (aA c))/\w'=w:=by
 go_enter func151,ntmps151;go_wp2
 all_goals go_ret
 all_goals (refine⟨bJ ?_,rfl⟩;rw[Bool.eq_iff_iff];unfold aA;simp;try omega)
theorem RJ(c:Int)(w:World):Calls prog 150 #[.int .i64 c] w fun e w'=>e=.returned (.bool (dH c))/\w'=w:=by
 go_enter func150,ntmps150;go_wp2
 all_goals go_ret
 all_goals (refine⟨bJ ?_,rfl⟩;rw[Bool.eq_iff_iff];unfold dH;simp;try omega)
theorem aG{w w1 w2:World}{r:Option Nat}(h:w.grownBy w1 r)(hg:w1.grownBy w2 none):w.grownBy w2 r :=
 ⟨hg.os.trans h.os,hg.tape.trans h.tape,hg.output.trans h.output,Nat.le_trans h.size hg.size,fun k hk hn=>(hg.block k (Nat.lt_of_lt_of_le hk h.size) (by simp)).trans (h.block k hk hn)⟩
def Rd(w:World)(R:Nat)(s:ByteArray)(i:Nat)(T:Nat):Prop:=w.heap[R]?=some (.cells #[.string s,.int .i64 (i:Nat),.pointer (some ⟨T,0,none⟩)] 125 (0,0))
theorem Rd.grow{w w':World}{R:Nat}{s:ByteArray}{i T:Nat}(h:Rd w R s i T)(hg:w.grownBy w' none):Rd w' R s i T:=(hg.block R (Array.getElem?_eq_some_iff.1 h).1 (by simp)).trans h
theorem Rd.cells{w:World}{R:Nat}{s:ByteArray}{i T:Nat}(h:Rd w R s i T):w.cell? ⟨R,0,none⟩=some (.string s)/\w.cell? ⟨R,1,none⟩=some (.int .i64 (i:Nat))/\w.cell? ⟨R,2,none⟩=some (.pointer (some ⟨T,0,none⟩))/\∀k,w.frozen? ⟨R,k,none⟩=false :=
 ⟨by rw[Lib.cell_of_heap h];rfl,by rw[Lib.cell_of_heap h];rfl,by rw[Lib.cell_of_heap h];rfl,fun k=>Lib.frozen_of_heap h k⟩
theorem Rd.set{w:World}{R:Nat}{s:ByteArray}{i T:Nat}(h:Rd w R s i T)(j:Nat):Rd (w.setCell ⟨R,1,none⟩ (.int .i64 (j:Nat))) R s j T:=by
 have:=block_setCell (i:=1) h (.int .i64 (j:Nat));exact this
theorem mX(R:Nat)(s:ByteArray)(i T:Nat)(w:World)(h:Rd w R s i T)(hi:i<=s.size)(hs:s.size<=1048576) :
  Calls prog 104 #[.pointer (some ⟨R,0,none⟩)] w fun e w'=>e=.returned (.int .i64 (nx s.data.toList i))/\w.grownBy w' none:=by
 obtain⟨c0,c1,-,-⟩:=h.cells;have hl:s.data.toList.length=s.size:=by simp
 by_cases he:i=s.size
 ·have hn:nx s.data.toList i=-1:=jJ _ _ (by omega);rw[hn];have hee:((i:Int) == (s.size:Int))=true:=by simp[he]
  clear h hn he;go_enter func104,ntmps104;go_wp2;go_quiet (fail);go_wp2;go_ret;exact⟨rfl,ay (au w none) _⟩
 ·have hlt:i<s.size:=by omega
  have hn:nx s.data.toList i=(s[i].toNat:Int):=by
   rw[pX _ _ (by omega)];rfl
  rw[hn];have hne:((i:Int) == (s.size:Int))=false:=by rw[beq_eq_false_iff_ne];omega
  clear h hn he;go_enter func104,ntmps104;go_wp2;go_quiet (fail);go_wp2;go_quiet (fail);go_wp2;go_ret;refine⟨dB ?_,⟨rfl,rfl,rfl,Nat.le_refl _,fun _ _ _=>rfl⟩⟩;have:=s[i].toNat_lt;show wrap64 (s[i].toNat:Int)=_;unfold wrap64;omega
theorem Gx(R:Nat)(s:ByteArray)(i T:Nat)(w:World)(h:Rd w R s i T)(hi:i<=s.size)(hs:s.size<=1048576) :
  Calls prog 103 #[.pointer (some ⟨R,0,none⟩)] w fun e w'=>e=.returned (.tuple #[])/\Rd w' R s (bl s.data.toList i) T/\w.grownBy w' (some R):=by
 have CN:=ae (fun k w (h1:Rd w R s k T) (h2:k<=s.size)=>mX R s k T w h1 h2 hs);have CB:=ae aal;have hl:s.data.toList.length=s.size:=by simp
 have HST:Hd (∀k,k<s.size->eU (nx s.data.toList k)=true->bl s.data.toList k=bl s.data.toList (k+1)):=fun k hk hb=>qV eU _ k (by omega) hb
 have kY:Hd (∀k,eU (nx s.data.toList k)=false->bl s.data.toList k=k):=fun k hb=>kX eU _ k hb
 have bP:Hd (∀k,k<=s.size->eU (nx s.data.toList k)=true->k<s.size):=fun k hk hb=>by
  apply Classical.byContradiction;intro hn;rw[jJ _ _ (by omega)]at hb;exact absurd hb (by decide)
 obtain⟨J,hJ⟩:=zN (bl s.data.toList i);have HJ:=ae hJ;have H0:=ae h;rw[hJ];clear h hJ;go_enter func103,ntmps103;go_wp2;go_loopw [] (fun wr=>∃k:Nat,Rd wr R s k T/\k<=s.size/\bl s.data.toList k=J/\w.grownBy wr (some R)) (fun wr=>s.size-(match wr.cell? ⟨R,1,none⟩ with|some (.int _ k)=>k.toNat|_=>0))
 case atStart=>exact⟨i,H0.o,hi,HJ.o,au _ _⟩
 case round =>
  obtain⟨k,hrd,hk,hbl,hg⟩:=hrel;have dJ:=ae hrd;have fP:=ae hbl;have HG:=ae hg;have C1:=ae (CN.o k wr hrd hk);have hme:(match wr.cell? ⟨R,1,none⟩ with|some (.int _ k)=>k.toNat|_=>0)=k:=by rw[hrd.cells.2.1];simp
  have ig:=ae hme;have fC:=ae (fun(hb:eU (nx s.data.toList k)=true)=>HST.o k (bP.o k hk hb) hb);have HS2:=ae (kY.o k);have HL2:=ae (bP.o k hk);obtain⟨c,hc⟩:=zN (nx s.data.toList k);rw[hc]at C1 fC HS2 HL2;have jk:=ae (fun w=>CB.o c w);obtain⟨b,hb⟩:=zN (eU c);rw[hb]at jk fC HS2 HL2;clear hrd hbl hg hme hc hb
  cases b with
  | false =>
   have yG:=ae ((HS2.o (by trivial)).symm.trans fP.o);go_wp2_with (first|(go_at_call 104;refine C1.o.mono ?_;rintro e w2 ⟨rfl,hg2⟩)|(go_at_call 147;refine(jk.o _).mono ?_;rintro e w' ⟨rfl,rfl⟩));refine bodyPost_end (results_none rfl _ _ _) rfl ⟨rfl,?_,aG HG.o hg2⟩;rw[<-yG.o];exact dJ.o.grow hg2
  | true =>
   have hkl:=HL2.o (by trivial);have HN:=ae ((fC.o (by trivial)).symm.trans fP.o);go_wp2_with (first|(go_at_call 104;refine C1.o.mono ?_;rintro e w2 ⟨rfl,hg2⟩;obtain⟨-,d1,-,df⟩:=(dJ.o.grow hg2).cells;have df1:=df 1)|(go_at_call 147;refine(jk.o _).mono ?_;rintro e w' ⟨rfl,rfl⟩));have jQ:Hd (Rd (w'.setCell ⟨R,1,none⟩ (.int .i64 ((k:Int)+1))) R s (k+1) T):=(dJ.o.grow hg2).set (k+1);refine⟨⟨k+1,jQ.o,by omega,HN.o,aS (aG HG.o hg2) 1 _⟩,?_⟩;rw[ig.o,jQ.o.cells.2.1];simp;omega
open Go.RowKit Go.Joins
theorem aam(c:Int)(w:World):Calls prog 200 #[.int .i64 c] w fun e w'=>e=.returned (.bool (yD c))/\w'=w:=by
 go_enter func200,ntmps200;go_wp2
 all_goals go_ret
 all_goals (refine⟨bJ ?_,rfl⟩;rw[Bool.eq_iff_iff];unfold yD;simp;try omega)
theorem RN(c:Int)(w:World):Calls prog 155 #[.int .i64 c] w fun e w'=>e=.returned (.bool (ji c))/\w'=w:=by
 have CC:=ae (fun w=>aam c w);have HB:Hd (ji c=(yD c && decide (c≠9))):=rfl;obtain⟨b,hb⟩:=zN (yD c);rw[hb]at CC HB;clear hb
 cases b with
 | false =>
  go_enter func155,ntmps155;go_wp2_with (go_at_call 200;refine(CC.o _).mono ?_;rintro e w' ⟨rfl,rfl⟩);go_ret;refine⟨bJ ?_,rfl⟩;rw[HB.o];rfl
 | true =>
  go_enter func155,ntmps155;go_wp2_with (go_at_call 200;refine(CC.o _).mono ?_;rintro e w' ⟨rfl,rfl⟩)
  all_goals go_ret
  all_goals (refine⟨bJ ?_,rfl⟩;rw[HB.o,Bool.eq_iff_iff];simp;try omega)
def FaultV(w:World)(v:Value)(p:Nat)(ty:TypeId)(pv:Value):Prop:=∃F,v=.iface 130 (.pointer (some ⟨F,0,none⟩))/\w.heap[F]?=some (.cells #[.int .i64 (p:Nat),.iface ty pv] 134 (0,0))
theorem FaultV.grow{w w':World}{v:Value}{p:Nat}{ty:TypeId}{pv:Value}(h:FaultV w v p ty pv)(hg:w.grownBy w' none):FaultV w' v p ty pv:=by
 obtain⟨F,h1,h2⟩:=h;exact⟨F,h1,(hg.block F (Array.getElem?_eq_some_iff.1 h2).1 (by simp)).trans h2⟩
theorem tC(p:Nat)(ty:TypeId)(pv:Value)(w:World):Calls prog 195 #[.iface ty pv,.int .i64 (p:Nat)] w fun e w'=>(∃v,e=.returned v/\FaultV w' v p ty pv)/\w.grownBy w' none:=by
 have hn:=heap_alloc_new w (.cells #[.int .i64 (p:Nat),.iface ty pv] 134);have hg:w.grownBy (w.alloc (.cells #[.int .i64 (p:Nat),.iface ty pv] 134)) none:=World.grownBy_alloc w _ none;have HN:=ae hn;have HG:=ae hg;clear hn hg;go_enter func195,ntmps195;go_wp2;go_ret;exact⟨⟨_,rfl,_,rfl,HN.o⟩,HG.o⟩
def Gy(w:World)(ty:TypeId)(pv:Value):Prop:=w.cell? ⟨6,0,none⟩=some (.iface ty pv)
theorem wM(R:Nat)(s:ByteArray)(i T:Nat)(ty:TypeId)(pv:Value)(w:World)(h:Rd w R s i T)(he:Gy w ty pv) :
  Calls prog 156 #[.pointer (some ⟨R,0,none⟩)] w fun e w'=>(∃v,e=.returned v/\FaultV w' v i ty pv)/\w.grownBy w' none:=by
 have CW:=ae (fun w=>tC i ty pv w);obtain⟨-,c1,-,-⟩:=h.cells;have c0:w.cell? ⟨6,0,none⟩=some (.iface ty pv):=he;clear h he;go_enter func156,ntmps156;go_wp2;go_region_with (first|(go_at_call 195;refine(CW.o _).mono ?_;rintro e w2 ⟨⟨v,rfl,hv⟩,hg2⟩))
 all_goals (
  go_wp2;go_ret;exact⟨⟨v,rfl,hv⟩,ai (show w.grownBy w.drew none from⟨rfl,rfl,rfl,Nat.le_refl _,fun _ _ _=>rfl⟩) hg2⟩)
theorem KI(R:Nat)(s:ByteArray)(i T:Nat)(c:Int)(ty:TypeId)(pv:Value)(w:World)(h:Rd w R s i T)(hi:i<=s.size)(hs:s.size<=1048576)(hc:0<=c)(he:Gy w ty pv) :
  Calls prog 109 #[.pointer (some ⟨R,0,none⟩),.int .i64 c] w fun e w'=>(nx s.data.toList i=c->e=.returned .nilIface/\Rd w' R s (i+1) T)/\(¬nx s.data.toList i=c->(∃v,e=.returned v/\FaultV w' v i ty pv)/\Rd w' R s i T)/\w.grownBy w' (some R):=by
 have CN:=ae (mX R s i T w h hi hs);have CH:=ae (fun w' (hg:w.grownBy w' none)=>wM R s i T ty pv w' (h.grow hg) (hg.cell he (by simp)));have dJ:=ae h;obtain⟨x,hx⟩:=zN (nx s.data.toList i);rw[hx]at CN ⊢;clear h he hx;go_enter func109,ntmps109;go_wp2_with (go_at_call 104;refine CN.o.mono ?_);rintro e w2 ⟨rfl,hg2⟩;have HG2:=ae hg2;obtain⟨-,d1,-,df⟩:=(dJ.o.grow hg2).cells;have df1:=df 1;clear df hg2
 by_cases hxc:x=c
 ·have KJ:=ae hxc;have HS:Hd (Rd (w2.setCell ⟨R,1,none⟩ (.int .i64 ((i:Int)+1))) R s (i+1) T):=(dJ.o.grow HG2.o).set (i+1);have hb:(x != c)=false:=by simp[hxc]
  clear hxc;go_wp2;refine bodyPost_ret (results_tmp (t:=4) rfl _ _ _) rfl ⟨fun _=>⟨rfl,HS.o⟩,fun hn=>absurd KJ.o hn,aS (aG (au w (some R)) HG2.o) 1 _⟩
 ·have hb:(x != c)=true:=by simp[hxc]
  have KJ:=ae hxc;clear hxc;go_wp2_with (go_at_call 156;refine(CH.o _ HG2.o).mono ?_;rintro e w3 ⟨⟨v,rfl,hv⟩,hg3⟩);refine bodyPost_ret (results_tmp (t:=4) rfl _ _ _) rfl ⟨fun hh=>absurd hh KJ.o,fun _=>⟨⟨v,rfl,hv⟩,(dJ.o.grow HG2.o).grow hg3⟩,aG (aG (au w (some R)) HG2.o) hg3⟩
open Go.RowKit Go.Joins
theorem Cb(p:Int->Bool)(l:List UInt8)(i:Nat)(h:l.length<=i):toR p l i=i:=by
 unfold toR runN;rw[List.drop_eq_nil_of_le h];simp
theorem Cc{l:List UInt8}{i:Nat}(h:nx l i=-1):l.length<=i:=by
 apply Classical.byContradiction;intro hn;rw[pX l i (by omega)]at h;omega
def aan(R:Nat)(s:ByteArray)(T:Nat)(ty:TypeId)(pv:Value)(r:Bool × Nat)(w:World)(e:Ending)(w':World):Prop:=(r.1=true->e=.returned .nilIface)/\(r.1=false->∃v,e=.returned v/\FaultV w' v r.2 ty pv)/\Rd w' R s r.2 T/\w.grownBy w' (some R)
theorem RP(R:Nat)(s:ByteArray)(i T:Nat)(ty:TypeId)(pv:Value)(w:World)(h:Rd w R s i T)(hi:i<=s.size)(hs:s.size<=1048576)(he:Gy w ty pv)(hR:¬R=6) :
  Calls prog 108 #[.pointer (some ⟨R,0,none⟩)] w (aan R s T ty pv (aZ s.data.toList i) w):=by
 have CN:=ae (fun k w (h1:Rd w R s k T) (h2:k<=s.size)=>mX R s k T w h1 h2 hs);have CB:=ae RN;have CH:=ae (fun k w' (hg:w.grownBy w' (some R)) (hr:Rd w' R s k T)=>wM R s k T ty pv w' hr (hg.cell he (by simp;exact fun e=>hR e.symm)));have hl:s.data.toList.length=s.size:=by simp
 have qW:Hd (¬nx s.data.toList i=35->aZ s.data.toList i=(true,i)):=yE _ i;have lN:Hd (nx s.data.toList i=35->aZ s.data.toList i=if nx s.data.toList (toR fB s.data.toList i)=10\/nx s.data.toList (toR fB s.data.toList i)=-1 then(true,toR fB s.data.toList i) else(false,toR fB s.data.toList i)):=fun h=>by
  show _=_;unfold aZ;rw[if_pos h]
 have HST:=ae (fun k (hk:k<s.size) (hb:fB (nx s.data.toList k)=true)=>qV fB _ k (by omega) hb);have kY:=ae (fun k (hb:fB (nx s.data.toList k)=false)=>kX fB _ k hb);have qX:=ae (fun k (hb:nx s.data.toList k=-1)=>Cb fB _ k (Cc hb));have bP:Hd (∀k,k<=s.size->¬nx s.data.toList k=-1->k<s.size):=fun k hk hn=>by
  apply Classical.byContradiction;intro hh;exact hn (jJ _ _ (by omega))
 have dJ:=ae h;have C1:=ae (CN.o i w h hi);obtain⟨r,hr⟩:=zN (aZ s.data.toList i);rw[hr]at qW lN ⊢;obtain⟨x,hx⟩:=zN (nx s.data.toList i);rw[hx]at C1 qW lN;obtain⟨J,hJ⟩:=zN (toR fB s.data.toList i);have HJ:=ae hJ;rw[hJ]at lN;clear h he hr hx hJ;go_enter func108,ntmps108;go_wp2_with (go_at_call 104;refine C1.o.mono ?_);rintro e w1 ⟨rfl,hg1⟩;have ax:=ae (aG (au w (some R)) hg1);have HR1:=ae (dJ.o.grow hg1);clear hg1
 by_cases hx:x=35
 ·have hb:(x != 35)=false:=by simp[hx]
  have HC:=ae (lN.o hx);clear hx;go_wp2;go_loopw [] (fun wr=>∃k:Nat,Rd wr R s k T/\k<=s.size/\toR fB s.data.toList k=J/\w.grownBy wr (some R)) (fun wr=>s.size-(match wr.cell? ⟨R,1,none⟩ with|some (.int _ k)=>k.toNat|_=>0))
  case atStart=>exact⟨i,HR1.o,hi,HJ.o,ax.o⟩
  case round =>
   obtain⟨k,hrd,hk,hto,hg⟩:=hrel;have kZ:=ae hrd;have mZ:=ae hto;have ku:=ae hg;have ig:Hd ((match wr.cell? ⟨R,1,none⟩ with|some (.int _ k)=>k.toNat|_=>0)=k):=by show _=_;rw[hrd.cells.2.1];simp
   have fC:=HST.o k;have HS2:=kY.o k;have jQ:=qX.o k;have uO:=bP.o k hk;have HC2:=ae (fun w' (hg':wr.grownBy w' none)=>CN.o k w' (kZ.o.grow hg') hk);have Gz:Hd (toR fB s.data.toList k=k->r=if nx s.data.toList k=10\/nx s.data.toList k=-1 then(true,k) else(false,k)):=fun h1=>by
    have e1:=mZ.o.symm.trans h1;have h2:=HC.o;rw[e1]at h2;exact h2
   obtain⟨c,hc⟩:=zN (nx s.data.toList k);rw[hc]at fC HS2 jQ uO HC2 Gz;have H1:=ae fC;have H2:=ae HS2;have H3:=ae jQ;have H4:=ae uO;have GG:Hd (fB c=(decide (c≠10) && !ji c)):=rfl;clear hrd hto hg fC HS2 jQ uO hc
   by_cases he:c=-1
   ·have hbe:(c != -1)=false:=by simp[he]
    have HRR:Hd (r=(true,k)):=by
     show r=_;rw[Gz.o (H3.o he),if_pos (Or.inr he)]
    clear he;go_wp2_with (go_at_call 104;refine(HC2.o _ (au _ _)).mono ?_);rintro e w2 ⟨rfl,hg2⟩;have HG2:=ae hg2;clear hg2;go_wp2;refine bodyPost_ret (results_tmp (t:=2) rfl _ _ _) rfl ?_;rw[HRR.o];exact⟨fun _=>rfl,fun hh=>(by cases hh),kZ.o.grow HG2.o,aG ku.o HG2.o⟩
   ·have hbe:(c != -1)=true:=by simp[he]
    have hkl:=H4.o he;have qc:=ae he;clear he;go_wp2_with (go_at_call 104;refine(HC2.o _ (au _ _)).mono ?_);rintro e w2 ⟨rfl,hg2⟩;have HG2:=ae hg2;clear hg2;go_wp2_with (go_at_call 104;refine(HC2.o _ HG2.o).mono ?_);rintro e w3 ⟨rfl,hg3⟩;have aK:=ae (ai HG2.o hg3);clear hg3
    by_cases h10:c=10
    ·have aao:(c != 10)=false:=by simp[h10]
     have HRR:Hd (r=(true,k)):=by
      show r=_;rw[Gz.o (H2.o (by rw[GG.o,h10];rfl)),if_pos (Or.inl h10)]
     clear h10;go_wp2;refine bodyPost_ret (results_tmp (t:=2) rfl _ _ _) rfl ?_;rw[HRR.o];exact⟨fun _=>rfl,fun hh=>(by cases hh),kZ.o.grow aK.o,aG ku.o aK.o⟩
    ·have aao:(c != 10)=true:=by simp[h10]
     have Ce:=ae h10;have KL:=ae (fun w=>CB.o c w);obtain⟨b,hb2⟩:=zN (ji c);rw[hb2]at KL GG;clear h10 hb2;go_wp2_with (go_at_call 104;refine(HC2.o _ aK.o).mono ?_);rintro e w4 ⟨rfl,hg4⟩;have eX:=ae (ai aK.o hg4);clear hg4
     cases b with
     | true =>
      have HRR:Hd (r=(false,k)):=by
       show r=_;rw[Gz.o (H2.o (by rw[GG.o];simp)),if_neg (by rintro(h|h);exact Ce.o h;exact qc.o h)]
      go_wp2_with (first|(go_at_call 155;refine(KL.o _).mono ?_;rintro e w' ⟨rfl,rfl⟩)|(go_at_call 156;refine(CH.o k _ (aG ku.o eX.o) (kZ.o.grow eX.o)).mono ?_;rintro e w5 ⟨⟨v,rfl,hv⟩,hg5⟩));refine bodyPost_ret (results_tmp (t:=2) rfl _ _ _) rfl ?_;rw[HRR.o];exact⟨fun hh=>(by cases hh),fun _=>⟨v,rfl,hv⟩,(kZ.o.grow eX.o).grow hg5,aG (aG ku.o eX.o) hg5⟩
     | false =>
      have HN:=ae ((H1.o hkl (by rw[GG.o,decide_eq_true Ce.o];rfl)).symm.trans mZ.o);obtain⟨-,d1,-,df⟩:=(kZ.o.grow eX.o).cells;have df1:=df 1;clear df;have yH:Hd (Rd (w4.setCell ⟨R,1,none⟩ (.int .i64 ((k:Int)+1))) R s (k+1) T):=(kZ.o.grow eX.o).set (k+1);go_wp2_with (go_at_call 155;refine(KL.o _).mono ?_;rintro e w' ⟨rfl,rfl⟩);refine⟨⟨k+1,yH.o,by omega,HN.o,aS (aG ku.o eX.o) 1 _⟩,?_⟩;rw[ig.o,yH.o.cells.2.1];simp;omega
 ·have hb:(x != 35)=true:=by simp[hx]
  have HRR:=ae (qW.o hx);clear hx;go_wp2;refine bodyPost_ret (results_tmp (t:=2) rfl _ _ _) rfl ?_;rw[HRR.o];exact⟨fun _=>rfl,fun hh=>(by cases hh),HR1.o,ax.o⟩
structure Tn where
 kd:Int
 ky:List UInt8
 tx:List UInt8
 nu:Int
 ks:List Nat
 pl:Nat
abbrev Rs(α:Type):=Except (Int × Nat) α
def hexV(c:Int):Int:=if aA c=true then c-48 else if 97<=c/\c<=102 then c-87 else if 65<=c/\c<=70 then c-55 else -1
def four(l:List UInt8):Nat->Nat->Nat->Rs (Nat × Nat)
 | 0,i,n=>.ok (n,i)
 | k+1,i,n=>if hexV (nx l i)<0 then .error (2,i) else four l k (i+1) (16*n+(hexV (nx l i)).toNat)
def iE(n:Nat):List UInt8:=if n<128 then[UInt8.ofNat n] else if n<2048 then[UInt8.ofNat (192+n / 64),UInt8.ofNat (128+n % 64)] else[UInt8.ofNat (224+n / 4096),UInt8.ofNat (128+n / 64 % 64),UInt8.ofNat (128+n % 64)]
def esc(l:List UInt8)(i:Nat):Rs (List UInt8 × Nat) :=
 if nx l (i+1)=117 then
  match four l 4 (i+2) 0 with
  | .error e=>.error e
  | .ok (n,j)=>if 55296<=n/\n<=57343 then .error (2,i) else .ok (iE n,j)
 else if nx l (i+1)=98 then .ok ([8],i+2)
 else if nx l (i+1)=116 then .ok ([9],i+2)
 else if nx l (i+1)=110 then .ok ([10],i+2)
 else if nx l (i+1)=102 then .ok ([12],i+2)
 else if nx l (i+1)=114 then .ok ([13],i+2)
 else if nx l (i+1)=34 then .ok ([34],i+2)
 else if nx l (i+1)=92 then .ok ([92],i+2)
 else .error (2,i+1)
def dC(l:List UInt8)(i:Nat)(lo hi:Int):Bool:=decide (lo<=nx l i/\nx l i<=hi)
def aJ(l:List UInt8)(i:Nat):Nat :=
 let c:=nx l i
 if c<0 then 0
 else if c<128 then 1
 else if c<194\/244<c then 0
 else if dC l (i+1) (if c=224 then 160 else if c=240 then 144 else 128) (if c=237 then 159 else if c=244 then 143 else 191)=false then 0
 else if c<224 then 2
 else if dC l (i+2) 128 191=false then 0
 else if c<240 then 3
 else if dC l (i+3) 128 191=false then 0
 else 4
def str(l:List UInt8):Nat->Nat->List UInt8->Rs (List UInt8 × Nat)
 | 0,i,_=>.error (2,i)
 | f+1,i,acc =>
  if nx l i=34 then .ok (acc,i+1)
  else if nx l i=92 then
   match esc l i with
   | .error e=>.error e
   | .ok (b,j)=>str l f j (acc++b)
  else if nx l i=-1\/ji (nx l i)=true then .error (2,i)
  else if aJ l i=0 then .error (2,i)
  else str l f (i+aJ l i) (acc++aj l i (aJ l i))
def dm(l:List UInt8)(i:Nat):Rs (List UInt8 × Nat) :=
 if nx l i=34 then str l (l.length+1) (i+1) []
 else if toR bg l i=i then .error (2,i)
 else .ok (aj l i (toR bg l i-i),toR bg l i)
def ja:List UInt8->Nat->Nat
 | [],n=>n
 | c :: r,n=>ja r (10*n+(c.toNat - 48))
def jc(l:List UInt8)(i:Nat):Rs (Int × Nat) :=
 let a:=if aA (nx l i)=true then i else i+1
 let j:=toR aA l a
 if j=a\/(1<j-a/\nx l a=48) then .error (2,a)
 else if 18<j-a then .error (3,i)
 else .ok (if nx l i=45 then -(ja (aj l a (j-a)) 0:Int) else(ja (aj l a (j-a)) 0:Int),j)
def lQ(l:List UInt8)(i:Nat):Rs (Int × Nat) :=
 let j:=toR dH l i
 if aj l i (j-i)=[116,114,117,101] then .ok (1,j)
 else if aj l i (j-i)=[102,97,108,115,101] then .ok (0,j)
 else .error (2,i)
def addN(ns:List Tn)(up:Nat)(n:Tn):List Tn:=(match ns[up]? with|some u=>ns.set up { u with ks:=u.ks++[ns.length] }|none=>ns)++[n]
def gap(l:List UInt8):Nat->Nat->Rs Nat
 | 0,i=>.error (2,i)
 | f+1,i =>
  let j:=bl l i
  if(aZ l j).1=false then .error (2,(aZ l j).2)
  else if nx l (aZ l j).2=10 then gap l f ((aZ l j).2+1)
  else .ok (aZ l j).2
mutual
def val(l:List UInt8):Nat->Nat->Nat->List UInt8->Nat->Nat->List Tn->Rs (Nat × List Tn)
 | 0,i,_,_,_,_,_=>.error (2,i)
 | f+1,i,up,k,p,d,ns =>
  if nx l i=34 then
   match str l (l.length+1) (i+1) [] with
   | .error e=>.error e
   | .ok (t,j)=>.ok (j,addN ns up ⟨3,k,t,0,[],p⟩)
  else if nx l i=43\/nx l i=45\/aA (nx l i)=true then
   match jc l i with
   | .error e=>.error e
   | .ok (n,j)=>.ok (j,addN ns up ⟨4,k,[],n,[],p⟩)
  else if nx l i=116\/nx l i=102 then
   match lQ l i with
   | .error e=>.error e
   | .ok (n,j)=>.ok (j,addN ns up ⟨5,k,[],n,[],p⟩)
  else if nx l i=91 then
   if d=8 then .error (4,i)
   else lst l f (i+1) ns.length (d+1) (addN ns up ⟨1,k,[],0,[],p⟩)
  else .error (2,i)
def lst(l:List UInt8):Nat->Nat->Nat->Nat->List Tn->Rs (Nat × List Tn)
 | 0,i,_,_,_=>.error (2,i)
 | f+1,i,up,d,ns =>
  match gap l (l.length+1) i with
  | .error e=>.error e
  | .ok j =>
   if nx l j=93 then .ok (j+1,ns)
   else
    match val l f j up [] j d ns with
    | .error e=>.error e
    | .ok (j1,ns1) =>
     match gap l (l.length+1) j1 with
     | .error e=>.error e
     | .ok j2 =>
      if nx l j2=44 then lst l f (j2+1) up d ns1
      else if nx l j2=93 then .ok (j2+1,ns1)
      else .error (2,j2)
end
def ah(ns:List Tn)(t:Nat)(k:List UInt8):Option Nat:=match ns[t]? with|some u=>u.ks.find? (fun q=>match ns[q]? with|some x=>decide (x.ky=k)|none=>false)|none=>none
def ak(ns:List Tn)(t:Nat):Int:=match ns[t]? with|some u=>u.kd|none=>-1
def gz(ns:List Tn)(t:Nat)(k:List UInt8)(p:Nat):Rs (Nat × List Tn) :=
 match ah ns t k with
 | none=>.ok (ns.length,addN ns t ⟨0,k,[],0,[],p⟩)
 | some q=>if ak ns q=0 then .ok (q,ns) else if ak ns q=2 then(match ns[q]? with|some u=>.ok (u.ks.getLastD 0,ns)|none=>.error (5,p)) else .error (5,p)
def gV(ns:List Tn)(own:List Nat)(t:Nat)(k:List UInt8)(p:Nat):Rs (Nat × List Tn) :=
 match ah ns t k with
 | none=>.ok (ns.length,addN ns t ⟨0,k,[],0,[],p⟩)
 | some q=>if ak ns q=0/\¬q∈own then .ok (q,ns) else .error (5,p)
def fO(ns:List Tn)(t:Nat)(k:List UInt8)(p:Nat):Rs (Nat × List Tn) :=
 match ah ns t k with
 | none=>.ok (ns.length+1,addN (addN ns t ⟨2,k,[],0,[],p⟩) ns.length ⟨0,[],[],0,[],p⟩)
 | some q=>if ak ns q=2 then .ok (ns.length,addN ns q ⟨0,[],[],0,[],p⟩) else .error (5,p)
def way(many:Bool)(own:List Nat):List (List UInt8 × Nat)->Nat->List Tn->Rs (Nat × List Tn)
 | [],t,ns=>.ok (t,ns)
 | [(k,p)],t,ns=>if many=true then fO ns t k p else gV ns own t k p
 | (k,p) :: r,t,ns =>
  match gz ns t k p with
  | .error e=>.error e
  | .ok (t1,ns1)=>way many own r t1 ns1
def ik(l:List UInt8):Nat->Nat->List (List UInt8 × Nat)->Rs (List (List UInt8 × Nat) × Nat)
 | 0,i,_=>.error (2,i)
 | f+1,i,acc =>
  match dm l (bl l i) with
  | .error e=>.error e
  | .ok (k,j)=>if nx l (bl l j)=46 then ik l f (bl l j+1) (acc++[(k,bl l i)]) else .ok (acc++[(k,bl l i)],bl l j)
structure Sd where
 i:Nat
 ns:List Tn
 own:List Nat
 now:Nat
def must(l:List UInt8)(i:Nat)(c:Int):Rs Nat:=if nx l i=c then .ok (i+1) else .error (2,i)
def iF(l:List UInt8)(s:Sd):Rs Sd :=
 let many:Bool:=decide (nx l (s.i+1)=91)
 match ik l (l.length+1) (if many=true then s.i+2 else s.i+1) [] with
 | .error e=>.error e
 | .ok (ks,j) =>
  match must l j 93 with
  | .error e=>.error e
  | .ok j1 =>
   match (if many=true then must l j1 93 else .ok j1) with
   | .error e=>.error e
   | .ok j2 =>
    match way many s.own ks 0 s.ns with
    | .error e=>.error e
    | .ok (t,ns)=>.ok ⟨j2,ns,t :: s.own,t⟩
def rdPair(l:List UInt8)(s:Sd):Rs Sd :=
 match dm l s.i with
 | .error e=>.error e
 | .ok (k,j) =>
  match must l (bl l j) 61 with
  | .error e=>.error e
  | .ok j1 =>
   match ah s.ns s.now k with
   | some _=>.error (5,s.i)
   | none =>
    match val l (2*l.length+2) (bl l j1) s.now k s.i 0 s.ns with
    | .error e=>.error e
    | .ok (j2,ns)=>.ok ⟨j2,ns,s.own,s.now⟩
def gW(l:List UInt8)(s0:Sd):Rs Sd :=
 let s:Sd:=⟨bl l s0.i,s0.ns,s0.own,s0.now⟩
 match (if nx l s.i=91 then iF l s else if nx l s.i=34\/bg (nx l s.i)=true then rdPair l s else .ok s) with
 | .error e=>.error e
 | .ok s1 =>
  if(aZ l (bl l s1.i)).1=false then .error (2,(aZ l (bl l s1.i)).2)
  else if nx l (aZ l (bl l s1.i)).2=-1 then .ok ⟨(aZ l (bl l s1.i)).2,s1.ns,s1.own,s1.now⟩
  else match must l (aZ l (bl l s1.i)).2 10 with
   | .error e=>.error e
   | .ok j=>.ok ⟨j,s1.ns,s1.own,s1.now⟩
def jA(l:List UInt8):Nat->Sd->Rs Sd
 | 0,s=>.ok s
 | f+1,s=>if l.length<=s.i then .ok s else match gW l s with | .error e=>.error e | .ok s1=>jA l f s1
def jK(l:List UInt8):Rs (List Tn) :=
 if 100000<l.length then .error (1,0)
 else match jA l (l.length+1) ⟨0,[⟨0,[],[],0,[],0⟩],[],0⟩ with
  | .error e=>.error e
  | .ok s=>.ok s.ns
open Go.RowKit Go.Joins
theorem RQ(c:Int)(w:World):Calls prog 106 #[.int .i64 c] w fun e w'=>e=.returned (.bool (bg c))/\w'=w:=by
 have CS:=ae (fun w=>RJ c w);have CD:=ae (fun w=>Gw c w);have HB:Hd (bg c=(dH c || decide (65<=c/\c<=90) || aA c || decide (c=95) || decide (c=45))):=rfl;obtain⟨b,hb⟩:=zN (dH c);obtain⟨d,hd⟩:=zN (aA c);rw[hb]at CS HB;rw[hd]at CD HB;clear hb hd
 cases b with
 | true =>
  go_enter func106,ntmps106;go_wp2_with (first|(go_at_call 150;refine(CS.o _).mono ?_;rintro e w' ⟨rfl,rfl⟩)|(go_at_call 151;refine(CD.o _).mono ?_;rintro e w' ⟨rfl,rfl⟩));go_ret;refine⟨bJ ?_,rfl⟩;rw[HB.o];rfl
 | false =>
  cases d with
  | true =>
   go_enter func106,ntmps106;go_wp2_with (first|(go_at_call 150;refine(CS.o _).mono ?_;rintro e w' ⟨rfl,rfl⟩)|(go_at_call 151;refine(CD.o _).mono ?_;rintro e w' ⟨rfl,rfl⟩))
   all_goals go_ret
   all_goals (refine⟨bJ ?_,rfl⟩;rw[HB.o,Bool.eq_iff_iff];simp;try omega)
  | false =>
   go_enter func106,ntmps106;go_wp2_with (first|(go_at_call 150;refine(CS.o _).mono ?_;rintro e w' ⟨rfl,rfl⟩)|(go_at_call 151;refine(CD.o _).mono ?_;rintro e w' ⟨rfl,rfl⟩))
   all_goals go_ret
   all_goals (refine⟨bJ ?_,rfl⟩;rw[HB.o,Bool.eq_iff_iff];simp;try omega)
theorem GH(c:Int):-1<=hexV c/\hexV c<16:=by
 unfold hexV aA;simp only[decide_eq_true_eq]
 repeat' split
 all_goals omega
theorem aap(c:Int)(hc:-1<=c/\c<256)(w:World):Calls prog 237 #[.int .i64 c] w fun e w'=>e=.returned (.int .i64 (hexV c))/\w'=w:=by
 have CD:=ae (fun w=>Gw c w);have HX:Hd (hexV c=if aA c=true then c-48 else if 97<=c/\c<=102 then c-87 else if 65<=c/\c<=70 then c-55 else -1):=rfl;obtain⟨d,hd⟩:=zN (aA c);rw[hd]at CD HX;clear hd;obtain⟨h1,h2⟩:=hc;obtain⟨y,hy⟩:=zN (hexV c);rw[hy]at HX ⊢;clear hy
 cases d with
 | true =>
  go_enter func237,ntmps237;go_wp2_with (go_at_call 151;refine(CD.o _).mono ?_;rintro e w' ⟨rfl,rfl⟩);go_ret;refine⟨dB ?_,rfl⟩;rw[HX.o];simp
 | false =>
  go_enter func237,ntmps237;go_wp2_with (go_at_call 151;refine(CD.o _).mono ?_;rintro e w' ⟨rfl,rfl⟩)
  all_goals go_ret
  all_goals (refine⟨dB ?_,rfl⟩;rw[HX.o];simp;try omega)
open Go.RowKit Go.Joins
theorem Cf(l:List UInt8)(i:Nat)(hi:i<=l.length):i<=(aZ l i).2/\(aZ l i).2<=l.length:=by
 have:=pY fB l i hi;unfold aZ
 repeat' split
 all_goals (simp only[];omega)
theorem jR(l:List UInt8)(i:Nat)(hi:i<=l.length):i<=bl l i/\bl l i<=l.length:=pY eU l i hi
theorem uP(l:List UInt8)(f i:Nat):gap l (f+1) i=if(aZ l (bl l i)).1=false then .error (2,(aZ l (bl l i)).2) else if nx l (aZ l (bl l i)).2=10 then gap l f ((aZ l (bl l i)).2+1) else .ok (aZ l (bl l i)).2:=rfl
theorem dK{w w1 w2:World}{r:Option Nat}(h:w.grownBy w1 r)(hg:w1.grownBy w2 r):w.grownBy w2 r :=
 ⟨hg.os.trans h.os,hg.tape.trans h.tape,hg.output.trans h.output,Nat.le_trans h.size hg.size,fun k hk hn=>(hg.block k (Nat.lt_of_lt_of_le hk h.size) hn).trans (h.block k hk hn)⟩
def aaq(R:Nat)(s:ByteArray)(T:Nat)(ty:TypeId)(pv:Value)(g:Rs Nat)(w:World)(e:Ending)(w':World):Prop:=(∀j,g=.ok j->e=.returned .nilIface/\Rd w' R s j T)/\(∀c p,g=.error (c,p)->∃v,e=.returned v/\FaultV w' v p ty pv)/\w.grownBy w' (some R)
theorem aar(R:Nat)(s:ByteArray)(i T:Nat)(ty:TypeId)(pv:Value)(w:World)(h:Rd w R s i T)(hi:i<=s.size)(hs:s.size<=1048576)(he:Gy w ty pv)(hR:¬R=6) :
  Calls prog 219 #[.pointer (some ⟨R,0,none⟩)] w (aaq R s T ty pv (gap s.data.toList (s.data.toList.length+1) i) w):=by
 have CN:=ae (fun k w (h1:Rd w R s k T) (h2:k<=s.size)=>mX R s k T w h1 h2 hs);have CS:=ae (fun k w (h1:Rd w R s k T) (h2:k<=s.size)=>Gx R s k T w h1 h2 hs);have CC:=ae (fun k w' (h1:Rd w' R s k T) (h2:k<=s.size) (hg:w.grownBy w' (some R))=>RP R s k T ty pv w' h1 h2 hs (hg.cell he (by simp;exact fun e=>hR e.symm)) hR);have hl:s.data.toList.length=s.size:=by simp
 have fP:Hd (∀k,k<=s.size->k<=bl s.data.toList k/\bl s.data.toList k<=s.size):=fun k hk=>by rw[<-hl];exact jR _ k (by omega)
 have HCL:Hd (∀k,k<=s.size->k<=(aZ s.data.toList k).2/\(aZ s.data.toList k).2<=s.size):=fun k hk=>by rw[<-hl];exact Cf _ k (by omega)
 have fD:Hd (∀f k,gap s.data.toList (f+1) k=if(aZ s.data.toList (bl s.data.toList k)).1=false then .error (2,(aZ s.data.toList (bl s.data.toList k)).2) else if nx s.data.toList (aZ s.data.toList (bl s.data.toList k)).2=10 then gap s.data.toList f ((aZ s.data.toList (bl s.data.toList k)).2+1) else .ok (aZ s.data.toList (bl s.data.toList k)).2):=fun f k=>uP _ f k
 have bP:Hd (∀k,k<=s.size->nx s.data.toList k=10->k<s.size):=fun k hk hn=>by
  apply Classical.byContradiction;intro hh;rw[jJ _ _ (by omega)]at hn;exact absurd hn (by decide)
 have dJ:=ae h;obtain⟨G,hG⟩:=zN (gap s.data.toList (s.data.toList.length+1) i);have jl:=ae hG;rw[hG];clear h he hG;go_enter func219,ntmps219;go_wp2;go_loopw [] (fun wr=>∃k f:Nat,Rd wr R s k T/\k<=s.size/\s.size-k<f/\gap s.data.toList f k=G/\w.grownBy wr (some R)) (fun wr=>s.size-(match wr.cell? ⟨R,1,none⟩ with|some (.int _ k)=>k.toNat|_=>0))
 case atStart=>exact⟨i,s.data.toList.length+1,dJ.o,hi,by omega,jl.o,au _ _⟩
 case round =>
  obtain⟨k,f,hrd,hk,hf,nX,hg⟩:=hrel;obtain⟨f,rfl⟩:∃f',f=f'+1:=⟨f-1,by omega⟩;have kZ:=ae hrd;have ku:=ae hg;have ig:Hd ((match wr.cell? ⟨R,1,none⟩ with|some (.int _ k)=>k.toNat|_=>0)=k):=by show _=_;rw[hrd.cells.2.1];simp
  have C1:=ae (CS.o k wr hrd hk);rw[fD.o]at nX;obtain⟨hb1,hb2⟩:=fP.o k hk;have hc12:=HCL.o (bl s.data.toList k) hb2;have C2:=ae (fun w' (h1:Rd w' R s (bl s.data.toList k) T) (h2:w.grownBy w' (some R))=>CC.o _ w' h1 hb2 h2);obtain⟨j,hj⟩:=zN (bl s.data.toList k);rw[hj]at C1 C2 nX hb1 hb2 hc12;obtain⟨q,hq⟩:=zN (aZ s.data.toList j);rw[hq]at C2 nX hc12;obtain⟨ok,m⟩:=q;obtain⟨hm1,hm2⟩:=hc12;simp only[]at hm1 hm2 nX;have GI:Hd ((if ok=false then Except.error (2,m) else if nx s.data.toList m=10 then gap s.data.toList f (m+1) else Except.ok m)=G):=nX;have C3:=ae (fun w' (h1:Rd w' R s m T)=>CN.o m w' h1 hm2);have HL2:=ae (bP.o m hm2);obtain⟨x,hx⟩:=zN (nx s.data.toList m);rw[hx]at C3 GI HL2;clear hrd hg nX hj hq hx;go_wp2_with (go_at_call 103;refine C1.o.mono ?_);rintro e w1 ⟨rfl,hr1,hg1⟩;have HR1:=ae hr1;have ax:=ae (dK ku.o hg1)
  clear hr1 hg1;go_wp2_with (go_at_call 108;refine(C2.o _ HR1.o ax.o).mono ?_);rintro e w2 ⟨h1,h2,h3,h4⟩;have HR2:Hd (Rd w2 R s m T):=h3;have HG2:=ae (dK ax.o h4);clear h3 h4
  cases ok with
  | false =>
   obtain⟨v,rfl,F,rfl,hF⟩:=h2 rfl;have gX:Hd (Except.error (2,m)=G):=by
    have:=GI.o;rw[if_pos (by trivial)]at this;exact this
   have dZ:Hd (FaultV w2 (.iface 130 (.pointer (some ⟨F,0,none⟩))) m ty pv):=⟨F,rfl,hF⟩;clear h1 h2 hF;go_wp2;refine bodyPost_ret (results_tmp (t:=2) rfl _ _ _) rfl ?_;refine⟨fun j hj=>?_,fun c p hp=>?_,HG2.o⟩
   ·rw[<-gX.o]at hj;cases hj
   ·rw[<-gX.o]at hp
    cases hp
    exact⟨_,rfl,dZ.o⟩
  | true =>
   obtain rfl:=h1 rfl;clear h1 h2;go_wp2_with (go_at_call 104;refine(C3.o _ HR2.o).mono ?_);rintro e w3 ⟨rfl,hg3⟩;have HR3:=ae (HR2.o.grow hg3);have aK:=ae (aG HG2.o hg3);clear hg3
   by_cases h10:x=10
   ·have hb:(x != 10)=false:=by simp[h10]
    have hml:=HL2.o h10;have KN:Hd (gap s.data.toList f (m+1)=G):=by
     have:=GI.o;rw[if_neg (by simp),if_pos h10]at this;exact this
    obtain⟨-,d1,-,df⟩:=HR3.o.cells;have df1:=df 1;have yH:Hd (Rd (w3.setCell ⟨R,1,none⟩ (.int .i64 ((m:Int)+1))) R s (m+1) T):=HR3.o.set (m+1);clear df h10;go_wp2;refine⟨⟨m+1,f,yH.o,by omega,by omega,KN.o,aS aK.o 1 _⟩,?_⟩;rw[ig.o,yH.o.cells.2.1];simp;omega
   ·have hb:(x != 10)=true:=by simp[h10]
    have gX:Hd (Except.ok m=G):=by
     have:=GI.o;rw[if_neg (by simp),if_neg h10]at this;exact this
    clear h10;go_wp2;refine bodyPost_ret (results_tmp (t:=2) rfl _ _ _) rfl ?_;refine⟨fun j hj=>?_,fun c p hp=>?_,aK.o⟩
    ·rw[<-gX.o]at hj
     cases hj
     exact⟨rfl,HR3.o⟩
    ·rw[<-gX.o]at hp;cases hp
end Go.Proofs.YtnnbgjaphfhibaaGreatDoor
