import Derived.Test.YtiinliaoojfjaaaGreatDoorF17
import Derived.Test.YtiinliaoojfjaaaGreatDoorF12
set_option linter.all false
set_option maxRecDepth 100000
set_option maxHeartbeats 0
open Go.Proofs.Tryz
namespace Go.Proofs.YtiinliaoojfjaaaGreatDoor
def isSp(c:UInt8):Bool:=decide (c=32)
def dW(l:List UInt8)(i:Nat):Bool:=decide (l[i]?=some 42) || (decide (l[i]?=some 120) || decide (l[i]?=some 88))
def pa0:Pa:=⟨0,0,0,0,[]⟩
def pa3(l:List UInt8)(j:Nat)(a b c:Int):Int × Nat × Pa :=
 if(aN l j).1=0 then(0,(aN l j).2.1,⟨3,a,b,c,(aN l j).2.2.1⟩) else((aN l j).1,(aN l j).2.1,pa0)
def kD(l:List UInt8)(j:Nat)(a b:Int):Int × Nat × Pa :=
 if l[j]?=some 46 then(if dW l (j+1)=true then(0,j+2,⟨2,a,b,0,[]⟩) else if(rdNum l (j+1)).1=0 then pa3 l (rdNum l (j+1)).2.2 a b (rdNum l (j+1)).2.1 else((rdNum l (j+1)).1,(rdNum l (j+1)).2.2,pa0))
 else(0,j,⟨2,a,b,0,[]⟩)
def kE(l:List UInt8)(j:Nat)(a:Int):Int × Nat × Pa :=
 if l[j]?=some 46 then(if dW l (j+1)=true then(0,j+2,⟨1,a,0,0,[]⟩) else if(rdNum l (j+1)).1=0 then kD l (rdNum l (j+1)).2.2 a (rdNum l (j+1)).2.1 else((rdNum l (j+1)).1,(rdNum l (j+1)).2.2,pa0))
 else(0,j,⟨1,a,0,0,[]⟩)
def au(l:List UInt8)(i:Nat):Int × Nat × Pa :=
 if dW l i=true then(0,i+1,pa0) else if(rdNum l i).1=0 then kE l (rdNum l i).2.2 (rdNum l i).2.1 else((rdNum l i).1,(rdNum l i).2.2,pa0)
def az(l:List UInt8)(i:Nat):Int × Nat :=
 if l[i]?=some 62 then(if l[i+1]?=some 61 then(1,i+2) else(3,i+1))
 else if l[i]?=some 60 then(if l[i+1]?=some 61 then(2,i+2) else(4,i+1))
 else if l[i]?=some 61 then(0,i+1) else if l[i]?=some 94 then(5,i+1) else if l[i]?=some 126 then(6,i+1) else(-1,i)
def kF(l:List UInt8)(i:Nat):Bool:=decide (l[i]?=some 124) && decide (l[i+1]?=some 124)
def dJ(l:List UInt8)(i:Nat):Bool:=decide (l.length<=i) || kF l i
def aj(l:List UInt8)(i:Nat):Nat:=i+runN isSp l i
def gI(s:Int):Int:=if s<0 then 0 else s
def fC(l:List UInt8):Nat->Nat->List Te->Int × Nat × List Te
 | 0,i,acc=>(0,i,acc)
 | f+1,i,acc =>
  if dJ l i=true then(0,i,acc) else
  if(au l (az l i).2).1=0 then
   (if((az l i).1<0/\acc=[])/\(au l (az l i).2).2.1<aj l (au l (az l i).2).2.1/\l[aj l (au l (az l i).2).2.1]?=some 45 then
    (if aj l (aj l (au l (az l i).2).2.1+1)=aj l (au l (az l i).2).2.1+1 then(2,aj l (au l (az l i).2).2.1+1,acc) else
    if(au l (aj l (aj l (au l (az l i).2).2.1+1))).1=0 then
     (if dJ l (aj l (au l (aj l (aj l (au l (az l i).2).2.1+1))).2.1)=true then(0,aj l (au l (aj l (aj l (au l (az l i).2).2.1+1))).2.1,[⟨7,(au l (az l i).2).2.2⟩,⟨2,(au l (aj l (aj l (au l (az l i).2).2.1+1))).2.2⟩])
     else(2,aj l (au l (aj l (aj l (au l (az l i).2).2.1+1))).2.1,acc))
    else((au l (aj l (aj l (au l (az l i).2).2.1+1))).1,(au l (aj l (aj l (au l (az l i).2).2.1+1))).2.1,acc))
   else if ¬(au l (az l i).2).2.1<aj l (au l (az l i).2).2.1/\¬dJ l (aj l (au l (az l i).2).2.1)=true then(2,aj l (au l (az l i).2).2.1,acc)
   else fC l f (aj l (au l (az l i).2).2.1) (acc++[⟨gI (az l i).1,(au l (az l i).2).2.2⟩]))
  else((au l (az l i).2).1,(au l (az l i).2).2.1,acc)
def aW(l:List UInt8):Nat->Nat->List Te->Int × Nat × List Te
 | 0,i,acc=>(0,i,acc)
 | f+1,i,acc =>
  if l.length<=i\/l[i]?=some 124 then(0,i,acc) else
  if(au l (az l i).2).1=0 then
   (if((az l i).1<0/\acc=[])/\(au l (az l i).2).2.1<aj l (au l (az l i).2).2.1/\l[aj l (au l (az l i).2).2.1]?=some 45 then
    (if aj l (aj l (au l (az l i).2).2.1+1)=aj l (au l (az l i).2).2.1+1 then(2,aj l (au l (az l i).2).2.1+1,acc) else
    if(au l (aj l (aj l (au l (az l i).2).2.1+1))).1=0 then(0,(au l (aj l (aj l (au l (az l i).2).2.1+1))).2.1,[⟨7,(au l (az l i).2).2.2⟩,⟨2,(au l (aj l (aj l (au l (az l i).2).2.1+1))).2.2⟩])
    else((au l (aj l (aj l (au l (az l i).2).2.1+1))).1,(au l (aj l (aj l (au l (az l i).2).2.1+1))).2.1,acc))
   else if ¬(au l (az l i).2).2.1<aj l (au l (az l i).2).2.1 then(0,aj l (au l (az l i).2).2.1,acc++[⟨gI (az l i).1,(au l (az l i).2).2.2⟩])
   else aW l f (aj l (au l (az l i).2).2.1) (acc++[⟨gI (az l i).1,(au l (az l i).2).2.2⟩]))
  else((au l (az l i).2).1,(au l (az l i).2).2.1,acc)
def after(l:List UInt8)(r:Int × Nat × List Te):Int × Nat × List Te :=
 if r.1=0 then(if dJ l (aj l r.2.1)=true then(0,aj l r.2.1,r.2.2) else(2,aj l r.2.1,r.2.2)) else r
theorem sG(l:List UInt8)(i:Nat):i<=aj l i:=by unfold aj;omega
theorem ML(l:List UInt8)(i:Nat)(h:i<=l.length):aj l (aj l i)=aj l i:=by
 unfold aj;have:runN isSp l (i+runN isSp l i)=0:=QO isSp l _ 0 (Nat.zero_le _) (fun hlt=>by
  have:=uZ isSp l i (by simpa using hlt);simpa using this)
 omega
def same(x y:Int × Nat × List Te):Prop:=x.1=y.1/\x.2.1=y.2.1/\(x.1=0->x.2.2=y.2.2)
theorem adB(l:List UInt8)(i:Nat)(h:l[i]?=some 124):az l i=(-1,i)/\(au l i).1=2/\(au l i).2.1=i:=by
 have hs:az l i=(-1,i):=by unfold az;simp[h]
 have hw:dW l i=false:=by unfold dW;simp[h]
 have hr:runN aP l i=0:=QO aP l i 0 (Nat.zero_le _) (fun hlt=>by
  have:l[i+0]'hlt=124:=by
   have:=List.getElem?_eq_some_iff.1 h;obtain⟨_,e⟩:=this;simpa using e
  rw[this];decide)
 have hn:rdNum l i=(2,0,i):=by unfold rdNum;rw[if_pos hr]
 refine⟨hs,?_,?_⟩
 ·unfold au;rw[hw,hn];rfl
 ·unfold au;rw[hw,hn];rfl
theorem BP(l:List UInt8)(i:Nat)(hi:i<=l.length)(h:(rdNum l i).1=0):i<(rdNum l i).2.2/\(rdNum l i).2.2<=l.length:=by
 have hr:=mG aP l i hi;unfold rdNum at h ⊢;split at h
 ·simp at h
 ·rename_i h1;split at h
  ·simp at h
  ·rename_i h2;split at h
   ·simp at h
   ·rename_i h3;rw[if_neg h1,if_neg h2,if_neg h3];simp only[];omega
theorem UO(c:UInt8)(st:Bool)(l:List UInt8)(i:Nat)(hi:i<=l.length)(h:(aX c st l i).1=0):i<=(aX c st l i).2.1/\(aX c st l i).2.1<=l.length:=by
 refine⟨?_,KQ hi h⟩
 by_cases hc:l[i]?=some c
 ·rw[rO hc]at h ⊢;simp only at h ⊢;have hlt:=(List.getElem?_eq_some_iff.1 hc).1;have:=(AA st l _ (i+1) rfl (by omega) h).1;omega
 ·rw[oU hc];simp
theorem adC(l:List UInt8)(i:Nat)(hi:i<=l.length)(h:(aN l i).1=0):i<=(aN l i).2.1/\(aN l i).2.1<=l.length:=by
 unfold aN at h ⊢
 by_cases h1:(aX 45 true l i).1=0
 ·rw[if_pos h1]at h ⊢;have p1:=UO 45 true l i hi h1
  by_cases h2:(aX 43 false l (aX 45 true l i).2.1).1=0
  ·rw[if_pos h2]at h ⊢;have p2:=UO 43 false l _ p1.2 h2;simp only[];omega
  ·rw[if_neg h2]at h;exact absurd h h2
 ·rw[if_neg h1]at h;exact absurd h h1
theorem kU{l:List UInt8}{j:Nat}{c:UInt8}(h:l[j]?=some c):j<l.length:=(List.getElem?_eq_some_iff.1 h).1
theorem Iz{l:List UInt8}{i:Nat}(h:dW l i=true):i<l.length:=by
 unfold dW at h;simp only[Bool.or_eq_true,decide_eq_true_eq]at h
 rcases h with h|h|h<;>exact kU h
theorem adD(l:List UInt8)(j:Nat)(a b c:Int)(hj:j<=l.length)(h:(pa3 l j a b c).1=0):j<=(pa3 l j a b c).2.1/\(pa3 l j a b c).2.1<=l.length:=by
 unfold pa3 at h ⊢
 by_cases h1:(aN l j).1=0
 ·rw[if_pos h1];exact adC l j hj h1
 ·rw[if_neg h1]at h;exact absurd h h1
theorem adE(l:List UInt8)(j:Nat)(a b:Int)(hj:j<=l.length)(h:(kD l j a b).1=0):j<=(kD l j a b).2.1/\(kD l j a b).2.1<=l.length:=by
 unfold kD at h ⊢
 by_cases h1:l[j]?=some 46
 ·have hl:=kU h1;rw[if_pos h1]at h ⊢
  by_cases h2:dW l (j+1)=true
  ·have:=Iz h2;rw[if_pos h2];simp only[];omega
  ·rw[if_neg h2]at h ⊢
   by_cases h3:(rdNum l (j+1)).1=0
   ·have p1:=BP l (j+1) (by omega) h3;rw[if_pos h3]at h ⊢;have p2:=adD l _ a b _ p1.2 h;omega
   ·rw[if_neg h3]at h;exact absurd h h3
 ·rw[if_neg h1];simp only[];omega
theorem adF(l:List UInt8)(j:Nat)(a:Int)(hj:j<=l.length)(h:(kE l j a).1=0):j<=(kE l j a).2.1/\(kE l j a).2.1<=l.length:=by
 unfold kE at h ⊢
 by_cases h1:l[j]?=some 46
 ·have hl:=kU h1;rw[if_pos h1]at h ⊢
  by_cases h2:dW l (j+1)=true
  ·have:=Iz h2;rw[if_pos h2];simp only[];omega
  ·rw[if_neg h2]at h ⊢
   by_cases h3:(rdNum l (j+1)).1=0
   ·have p1:=BP l (j+1) (by omega) h3;rw[if_pos h3]at h ⊢;have p2:=adE l _ a _ p1.2 h;omega
   ·rw[if_neg h3]at h;exact absurd h h3
 ·rw[if_neg h1];simp only[];omega
theorem Fg(l:List UInt8)(i:Nat)(hi:i<=l.length)(h:(au l i).1=0):i<(au l i).2.1/\(au l i).2.1<=l.length:=by
 unfold au at h ⊢
 by_cases h2:dW l i=true
 ·have:=Iz h2;rw[if_pos h2];simp only[];omega
 ·rw[if_neg h2]at h ⊢
  by_cases h3:(rdNum l i).1=0
  ·have p1:=BP l i hi h3;rw[if_pos h3]at h ⊢;have p2:=adF l _ _ p1.2 h;omega
  ·rw[if_neg h3]at h;exact absurd h h3
theorem Fh(l:List UInt8)(i:Nat)(hi:i<=l.length):i<=(az l i).2/\(az l i).2<=l.length:=by
 unfold az
 repeat' split
 all_goals simp only[]
 ·rename_i h1 h2;have:=kU h2;omega
 ·rename_i h1 h2;have:=kU h1;omega
 ·rename_i h0 h1 h2;have:=kU h2;omega
 ·rename_i h0 h1 h2;have:=kU h1;omega
 ·rename_i h;have:=kU h;omega
 ·rename_i h;have:=kU h;omega
 ·rename_i h;have:=kU h;omega
 ·omega
theorem qV(l:List UInt8)(i:Nat)(hi:i<=l.length):aj l i<=l.length:=mG isSp l i hi
theorem UQ(l:List UInt8):∀(f i:Nat) (acc:List Te),l.length<f+i->i<=l.length->aj l i=i->same (after l (aW l f i acc)) (fC l f i acc)
 | 0,i,acc,hf,hi,_=>by omega
 | f+1,i,acc,hf,hi,hsk=>by
  by_cases he:dJ l i=true
  ·have hp:l.length<=i\/l[i]?=some 124:=by
    unfold dJ kF at he;simp only[Bool.or_eq_true,Bool.and_eq_true,decide_eq_true_eq]at he
    rcases he with h|h
    ·exact Or.inl h
    ·exact Or.inr h.1
   have e1:aW l (f+1) i acc=(0,i,acc):=by unfold aW;rw[if_pos hp]
   have e2:fC l (f+1) i acc=(0,i,acc):=by unfold fC;rw[if_pos he]
   rw[e1,e2];unfold after;simp only[if_true,hsk,he];exact⟨rfl,rfl,fun _=>rfl⟩
  ·by_cases hb:l[i]?=some 124
   ·obtain⟨b1,b2,b3⟩:=adB l i hb;have e1:aW l (f+1) i acc=(0,i,acc):=by unfold aW;rw[if_pos (Or.inr hb)]
    have e2:fC l (f+1) i acc=(2,i,acc):=by
     unfold fC;rw[if_neg he,b1];simp only[];rw[b2,if_neg (by decide),b3]
    rw[e1,e2];unfold after;simp only[if_true,hsk,if_neg he];exact⟨rfl,rfl,fun h=>by cases h⟩
   ·have hnl:¬l.length<=i:=by
     intro h;apply he;unfold dJ;simp[h]
    have sH:¬(l.length<=i\/l[i]?=some 124):=fun h=>h.elim hnl hb
    have sp:=Fh l i hi;unfold aW fC;rw[if_neg sH,if_neg he]
    by_cases hr:(au l (az l i).2).1=0
    ·have pp:=Fg l _ sp.2 hr;have hkl:=qV l _ pp.2;have hkg:=sG l (au l (az l i).2).2.1;rw[if_pos hr,if_pos hr]
     by_cases hbt:((az l i).1<0/\acc=[])/\(au l (az l i).2).2.1<aj l (au l (az l i).2).2.1/\l[aj l (au l (az l i).2).2.1]?=some 45
     ·rw[if_pos hbt,if_pos hbt]
      by_cases hm:aj l (aj l (au l (az l i).2).2.1+1)=aj l (au l (az l i).2).2.1+1
      ·rw[if_pos hm,if_pos hm];unfold after;rw[if_neg (by simp)];exact⟨rfl,rfl,fun h=>by cases h⟩
      ·rw[if_neg hm,if_neg hm]
       by_cases hq:(au l (aj l (aj l (au l (az l i).2).2.1+1))).1=0
       ·rw[if_pos hq,if_pos hq];unfold after;simp only[if_true]
        by_cases hz:dJ l (aj l (au l (aj l (aj l (au l (az l i).2).2.1+1))).2.1)=true
        ·rw[if_pos hz,if_pos hz];exact⟨rfl,rfl,fun _=>rfl⟩
        ·rw[if_neg hz,if_neg hz];exact⟨rfl,rfl,fun h=>by cases h⟩
       ·rw[if_neg hq,if_neg hq];unfold after;rw[if_neg hq];exact⟨rfl,rfl,fun h=>absurd h hq⟩
     ·rw[if_neg hbt,if_neg hbt]
      by_cases hg:(au l (az l i).2).2.1<aj l (au l (az l i).2).2.1
      ·rw[if_neg (not_not_intro hg),if_neg (fun h=>h.1 hg)];exact UQ l f _ _ (by omega) hkl (ML l _ pp.2)
      ·rw[if_pos hg];unfold after;simp only[if_true];rw[ML l _ pp.2]
       by_cases hz:dJ l (aj l (au l (az l i).2).2.1)=true
       ·rw[if_pos hz,if_neg (fun h=>h.2 hz)]
        cases f with
        | zero=>omega
        | succ f =>
         have e2:fC l (f+1) (aj l (au l (az l i).2).2.1) (acc++[⟨gI (az l i).1,(au l (az l i).2).2.2⟩])=(0,aj l (au l (az l i).2).2.1,acc++[⟨gI (az l i).1,(au l (az l i).2).2.2⟩]):=by unfold fC;rw[if_pos hz]
         rw[e2];exact⟨rfl,rfl,fun _=>rfl⟩
       ·rw[if_neg hz,if_pos ⟨hg,hz⟩];exact⟨rfl,rfl,fun h=>by cases h⟩
    ·rw[if_neg hr,if_neg hr];unfold after;rw[if_neg hr];exact⟨rfl,rfl,fun h=>absurd h hr⟩
theorem MM(l:List UInt8)(i:Nat)(h:(rdNum l i).1=0):0<=(rdNum l i).2.1/\(rdNum l i).2.1<=999999999:=by
 unfold rdNum at h ⊢;split at h
 ·simp at h
 ·rename_i h1;split at h
  ·simp at h
  ·rename_i h2;split at h
   ·simp at h
   ·rename_i h3;rw[if_neg h1,if_neg h2,if_neg h3];simp only[];have:=Ea (aO l i (runN aP l i)) (yL aP l i);omega
theorem adG(c:UInt8)(st:Bool)(l:List UInt8)(i:Nat)(hi:i<=l.length)(h:(aX c st l i).1=0):gy st (aX c st l i).2.2=true:=by
 unfold aX at h ⊢
 by_cases hc:l[i]?=some c
 ·rw[if_pos hc]at h ⊢;have hlt:=kU hc
  by_cases h2:(aQ st l (i+1)).1=0
  ·rw[if_pos h2];have:=(AA st l _ (i+1) rfl (by omega) h2).2.2;unfold gy;simp only[];rw[this];simp
  ·rw[if_neg h2]at h;exact absurd h h2
 ·rw[if_neg hc];rfl
theorem adH(l:List UInt8)(i:Nat)(hi:i<=l.length)(h:(aN l i).1=0):gy true (aN l i).2.2.1=true:=by
 unfold aN at h ⊢
 by_cases h1:(aX 45 true l i).1=0
 ·rw[if_pos h1]at h ⊢
  by_cases h2:(aX 43 false l (aX 45 true l i).2.1).1=0
  ·rw[if_pos h2];exact adG 45 true l i hi h1
  ·rw[if_neg h2]at h;exact absurd h h2
 ·rw[if_neg h1]at h;exact absurd h h1
theorem adI:eQ pa0:=⟨by decide,by decide,by decide,by decide,fun _=>rfl,fun _=>rfl,fun _=>⟨rfl,rfl⟩,rfl⟩
theorem adJ(l:List UInt8)(j:Nat)(a b:Int)(hj:j<=l.length)(ha:0<=a/\a<=999999999)(hb:0<=b/\b<=999999999)(h:(kD l j a b).1=0):eQ (kD l j a b).2.2:=by
 have base:eQ ⟨2,a,b,0,[]⟩:=⟨by simp,ha,hb,by simp,fun h=>by simp at h,fun h=>by simp at h,fun _=>⟨rfl,rfl⟩,rfl⟩;unfold kD at h ⊢
 by_cases h1:l[j]?=some 46
 ·have hl:=kU h1;rw[if_pos h1]at h ⊢
  by_cases h2:dW l (j+1)=true
  ·rw[if_pos h2];exact base
  ·rw[if_neg h2]at h ⊢
   by_cases h3:(rdNum l (j+1)).1=0
   ·have p1:=BP l (j+1) (by omega) h3;have v1:=MM l (j+1) h3;rw[if_pos h3]at h ⊢;unfold pa3 at h ⊢
    by_cases h4:(aN l (rdNum l (j+1)).2.2).1=0
    ·rw[if_pos h4];exact⟨by simp,ha,hb,v1,fun h=>by simp at h,fun h=>by simp at h,fun h=>by simp at h,adH l _ p1.2 h4⟩
    ·rw[if_neg h4]at h;exact absurd h h4
   ·rw[if_neg h3]at h;exact absurd h h3
 ·rw[if_neg h1];exact base
theorem adK(l:List UInt8)(j:Nat)(a:Int)(hj:j<=l.length)(ha:0<=a/\a<=999999999)(h:(kE l j a).1=0):eQ (kE l j a).2.2:=by
 have base:eQ ⟨1,a,0,0,[]⟩:=⟨by simp,ha,by simp,by simp,fun h=>by simp at h,fun _=>rfl,fun _=>⟨rfl,rfl⟩,rfl⟩;unfold kE at h ⊢
 by_cases h1:l[j]?=some 46
 ·have hl:=kU h1;rw[if_pos h1]at h ⊢
  by_cases h2:dW l (j+1)=true
  ·rw[if_pos h2];exact base
  ·rw[if_neg h2]at h ⊢
   by_cases h3:(rdNum l (j+1)).1=0
   ·have p1:=BP l (j+1) (by omega) h3;rw[if_pos h3]at h ⊢;exact adJ l _ a _ p1.2 ha (MM l (j+1) h3) h
   ·rw[if_neg h3]at h;exact absurd h h3
 ·rw[if_neg h1];exact base
theorem IA(l:List UInt8)(i:Nat)(hi:i<=l.length)(h:(au l i).1=0):eQ (au l i).2.2:=by
 unfold au at h ⊢
 by_cases h2:dW l i=true
 ·rw[if_pos h2];exact adI
 ·rw[if_neg h2]at h ⊢
  by_cases h3:(rdNum l i).1=0
  ·have p1:=BP l i hi h3;rw[if_pos h3]at h ⊢;exact adK l _ _ p1.2 (MM l i h3) h
  ·rw[if_neg h3]at h;exact absurd h h3
open Go.RowKit
theorem UR(c:UInt8)(w:World):Calls prog 174 #[.int .u8 (c.toNat:Int)] w fun e w'=>e=.returned (.bool (isSp c))/\w'=w:=by
 go_enter func174,ntmps174;go_wp2
 all_goals go_ret
 all_goals (refine⟨bi ?_,rfl⟩;rw[Bool.eq_iff_iff];unfold isSp;simp[<-UInt8.toNat_inj];try omega)
theorem adL(b:Nat)(s:ByteArray)(i:Nat)(w:World)(hi:i<=s.size)(h:RS b s i w)(hs:s.size<2 ^ 62) :
  Calls prog 173 #[.pointer (some ⟨b,0,none⟩),.func (.func 174) #[] #[]] w fun e w'=>e=.returned (.string ⟨(aO s.data.toList i (runN isSp s.data.toList i)).toArray⟩)/\RS b s (i+runN isSp s.data.toList i) w'/\w.grownBy w' (some b):=by
 have h0:=h.c0;have h1:=h.c1;have HR:=ae h;obtain⟨N,hN⟩:=zN (i+runN isSp s.data.toList i);have HN:Hd (N<=s.size):=by
  show N<=s.size;have:=mG isSp s.data.toList i (by simpa using hi);simp at this;omega
 have HA:Hd (∀j,i<=j->(hj:j<s.size)->j<N->isSp s[j]=true):=by
  show ∀j,i<=j->(hj:j<s.size)->j<N->isSp s[j]=true;intro j h1 hj h2;obtain⟨g1,g2⟩:=Az isSp s.data.toList i (j-i) (by omega);have e:i+(j-i)=j:=by omega
  simp only[e]at g2;exact g2
 have HS:Hd (∀hj:N<s.size,isSp s[N]=false):=by
  show ∀hj:N<s.size,isSp s[N]=false;intro hj;have:=uZ isSp s.data.toList i (by rw[hN];simpa using hj);simp only[hN]at this;exact this
 have HT:Hd (runN isSp s.data.toList i=N-i/\i<=N):=⟨by omega,by omega⟩;have HI:=ae hi;rw[show runN isSp s.data.toList i=N-i by omega];obtain⟨X,hX⟩:∃X:List UInt8,X=aO s.data.toList i (N-i):=⟨_,rfl⟩;have hsl:∀wx,(Instr.slice 9 (.string s) (some (.int .i64 (i:Int))) (some (.int .i64 (N:Int))) none).run prog wx=.ok (.string ⟨X.toArray⟩) wx:=fun wx=>by rw[hX];exact tV s i N (by omega) HN.o wx
 rw[<-hX,show i+(N-i)=N by omega];clear h hN hi hX;go_enter func173,ntmps173;go_wp2;go_loopw [] (fun wr=>∃j:Nat,i<=j/\j<=N/\RS b s j wr/\w.grownBy wr (some b)) (fun wr=>s.size-placeOf b wr)
 case atStart=>exact⟨i,Nat.le_refl _,HT.o.2,HR.o,ai _ _⟩
 case round =>
  obtain⟨j,hij,hjn,hrs,hgb⟩:=hrel;have d0:=hrs.c0;have d1:=hrs.c1;have df:=hrs.f1;have aA:=ae hrs;have aZ:=ae hgb;have hns:=HN.o;clear hrs hgb h0 h1
  by_cases hlt:j<N
  ·have hjs:j<s.size:=by omega
   have hD:=HA.o j hij hjs hlt;have HK:Hd (i<=j/\j<N):=⟨hij,hlt⟩;clear hlt hjn hns hij;have hlt2:(j:Int)<(s.size:Int):=by omega
   go_wp2;go_quiet (first|(go_at_call 174;exact Calls.quiet_of_same (UR _ _)));go_wp2;go_roundw
   case rel =>
    have:=HK.o;exact⟨j+1,by omega,by omega,(aA.o.drew _).set (j+1),bI (aH aZ.o _) _ _⟩
   case measure =>
    have e1:=aA.o.place;have e2:=((aA.o.drew nq).set (j+1)).place;rw[e1];exact Nat.lt_of_le_of_lt (Nat.le_of_eq (congrArg (s.size - ·) e2)) (by omega)
  ·have hjN:j=N:=by omega
   subst hjN
   by_cases hjs:j<s.size
   ·have hD:=HS.o hjs;have hlt2:(j:Int)<(s.size:Int):=by omega
    clear hlt hjn hns hij;go_wp2;go_quiet (first|(go_at_call 174;exact Calls.quiet_of_same (UR _ _)));go_wp2;obtain⟨W,hW⟩:=zN (wr.drewN nq);have e0:W.cell? ⟨b,0,none⟩=some (.string s):=by rw[<-hW];exact d0
    have e1:W.cell? ⟨b,1,none⟩=some (.int .i64 (j:Int)):=by rw[<-hW];exact d1
    have HW:Hd (RS b s j W/\w.grownBy W (some b)):=by
     show RS b s j W/\w.grownBy W (some b);rw[<-hW];exact⟨aA.o.drew _,aH aZ.o _⟩
    rw[hW];clear hW d0 d1 df aA aZ;go_quiet (fail);go_wp2;go_ret;exact⟨rfl,HW.o.1.drew _,aH HW.o.2 _⟩
   ·have hd2:decide ((j:Int)<(s.size:Int))=false:=by simp;omega
    clear hlt hjn hns hij;go_wp2;go_quiet (fail);go_wp2;obtain⟨W,hW⟩:=zN (wr.drewN nq);have e0:W.cell? ⟨b,0,none⟩=some (.string s):=by rw[<-hW];exact d0
    have e1:W.cell? ⟨b,1,none⟩=some (.int .i64 (j:Int)):=by rw[<-hW];exact d1
    have HW:Hd (RS b s j W/\w.grownBy W (some b)):=by
     show RS b s j W/\w.grownBy W (some b);rw[<-hW];exact⟨aA.o.drew _,aH aZ.o _⟩
    rw[hW];clear hW d0 d1 df aA aZ;go_quiet (fail);go_wp2;go_ret;exact⟨rfl,HW.o.1.drew _,aH HW.o.2 _⟩
theorem UT{l:List UInt8}{i:Nat}(h:l[i]?=some 42):dW l i=true:=by unfold dW;rw[decide_eq_true h];rfl
theorem UU{l:List UInt8}{i:Nat}(h:l[i]?=some 120):dW l i=true:=by unfold dW;rw[h];rfl
theorem UV{l:List UInt8}{i:Nat}(h:l[i]?=some 88):dW l i=true:=by unfold dW;rw[h];rfl
theorem UW{l:List UInt8}{i:Nat}(h0:¬l[i]?=some 42)(h1:¬l[i]?=some 120)(h2:¬l[i]?=some 88):dW l i=false:=by unfold dW;rw[decide_eq_false h0,decide_eq_false h1,decide_eq_false h2];rfl
theorem MO(b:Nat)(s:ByteArray)(i:Nat)(w:World)(hi:i<=s.size)(h:RS b s i w)(hs:s.size<2 ^ 62) :
  Calls prog 147 #[.pointer (some ⟨b,0,none⟩)] w fun e w'=>e=.returned (.bool (decide (i<aj s.data.toList i)))/\RS b s (aj s.data.toList i) w'/\w.grownBy w' (some b):=by
 have CR:=ae (adL b s i w hi h hs);have hsl:s.data.toList.length=s.size:=by simp
 have hle:i+runN isSp s.data.toList i<=s.size:=by have:=mG isSp s.data.toList i (by rw[hsl];exact hi);rw[hsl]at this;exact this
 have hln:=pV s.data.toList i (runN isSp s.data.toList i) (by rw[hsl];exact hle);unfold aj;obtain⟨k,hk⟩:=zN (runN isSp s.data.toList i);rw[hk]at CR hln ⊢;obtain⟨X,hX⟩:∃X:ByteArray,X=⟨(aO s.data.toList i k).toArray⟩:=⟨_,rfl⟩;rw[<-hX]at CR;have iF:X.size=k:=by rw[hX];show(aO s.data.toList i k).toArray.size=k;simpa using hln
 clear hk hX hln hsl hle h hi
 by_cases hk0:k=0
 ·have e1:=vI (iF.trans hk0);have HZ:Hd (decide (i<i+k)=false):=by show _=_;rw[hk0];simp
  clear hk0 iF;go_enter func147,ntmps147;go_wp2_with (go_at_call 173;refine CR.o.mono ?_);rintro e w1 ⟨rfl,hr1,hg1⟩;have HF:Hd (RS b s (i+k) w1/\w.grownBy w1 (some b)):=⟨hr1,hg1⟩;clear hr1 hg1;go_wp2;go_ret;exact⟨bi HZ.o.symm,HF.o.1,HF.o.2⟩
 ·have e1:=nU (fun h=>hk0 (iF.symm.trans h));have HZ:Hd (decide (i<i+k)=true):=by show _=_;simp;omega
  clear hk0 iF;go_enter func147,ntmps147;go_wp2_with (go_at_call 173;refine CR.o.mono ?_);rintro e w1 ⟨rfl,hr1,hg1⟩;have HF:Hd (RS b s (i+k) w1/\w.grownBy w1 (some b)):=⟨hr1,hg1⟩;clear hr1 hg1;go_wp2;go_ret;exact⟨bi HZ.o.symm,HF.o.1,HF.o.2⟩
theorem adM(b:Nat)(s:ByteArray)(i:Nat)(w:World)(hi:i<=s.size)(h:RS b s i w)(hs:s.size<2 ^ 62) :
  Calls prog 217 #[.pointer (some ⟨b,0,none⟩)] w fun e w'=>e=.returned (.bool (dW s.data.toList i))/\RS b s (if dW s.data.toList i=true then i+1 else i) w'/\w.grownBy w' (some b):=by
 by_cases q0:s.data.toList[i]?=some 42
 ·have C0:=ae (fun w (h:RS b s i w)=>ug b s i 42 w q0 h hs);have HZ:=ae (UT q0);rw[HZ.o];have HR:=ae h;have HG:Hd (w.grownBy w (some b)):=ai _ _;clear h hi hs q0;go_enter func217,ntmps217;go_wp2_with (go_at_call 148;refine(C0.o _ HR.o).mono ?_);rintro e w1 ⟨rfl,hr,hg⟩;replace HR:=ae hr;replace HG:=ae (ag HG.o hg);clear hr hg;go_wp2;go_ret;exact⟨rfl,HR.o,HG.o⟩
 ·by_cases q1:s.data.toList[i]?=some 120
  ·have C0:=ae (fun w (h:RS b s i w)=>pX b s i 42 w hi q0 h hs);have C1:=ae (fun w (h:RS b s i w)=>ug b s i 120 w q1 h hs);have HZ:=ae (UU q1);rw[HZ.o];have HR:=ae h;have HG:Hd (w.grownBy w (some b)):=ai _ _;clear h hi hs q0 q1;go_enter func217,ntmps217;go_wp2_with (go_at_call 148;refine(C0.o _ HR.o).mono ?_);rintro e w1 ⟨rfl,hr,hg⟩;replace HR:=ae hr;replace HG:=ae (ag HG.o hg);clear hr hg;go_wp2_with (go_at_call 148;refine(C1.o _ HR.o).mono ?_);rintro e w2 ⟨rfl,hr,hg⟩;replace HR:=ae hr;replace HG:=ae (ag HG.o hg);clear hr hg;go_wp2;go_ret;exact⟨rfl,HR.o,HG.o⟩
  ·by_cases q2:s.data.toList[i]?=some 88
   ·have C0:=ae (fun w (h:RS b s i w)=>pX b s i 42 w hi q0 h hs);have C1:=ae (fun w (h:RS b s i w)=>pX b s i 120 w hi q1 h hs);have C2:=ae (fun w (h:RS b s i w)=>ug b s i 88 w q2 h hs);have HZ:=ae (UV q2);rw[HZ.o];have HR:=ae h;have HG:Hd (w.grownBy w (some b)):=ai _ _;clear h hi hs q0 q1 q2;go_enter func217,ntmps217;go_wp2_with (go_at_call 148;refine(C0.o _ HR.o).mono ?_);rintro e w1 ⟨rfl,hr,hg⟩;replace HR:=ae hr;replace HG:=ae (ag HG.o hg);clear hr hg;go_wp2_with (go_at_call 148;refine(C1.o _ HR.o).mono ?_);rintro e w2 ⟨rfl,hr,hg⟩;replace HR:=ae hr;replace HG:=ae (ag HG.o hg);clear hr hg;go_wp2_with (go_at_call 148;refine(C2.o _ HR.o).mono ?_);rintro e w3 ⟨rfl,hr,hg⟩;replace HR:=ae hr;replace HG:=ae (ag HG.o hg);clear hr hg;go_wp2;go_ret;exact⟨rfl,HR.o,HG.o⟩
   ·have C0:=ae (fun w (h:RS b s i w)=>pX b s i 42 w hi q0 h hs);have C1:=ae (fun w (h:RS b s i w)=>pX b s i 120 w hi q1 h hs);have C2:=ae (fun w (h:RS b s i w)=>pX b s i 88 w hi q2 h hs);have HZ:=ae (UW q0 q1 q2);rw[HZ.o];have HR:=ae h;have HG:Hd (w.grownBy w (some b)):=ai _ _;clear h hi hs q0 q1 q2;go_enter func217,ntmps217;go_wp2_with (go_at_call 148;refine(C0.o _ HR.o).mono ?_);rintro e w1 ⟨rfl,hr,hg⟩;replace HR:=ae hr;replace HG:=ae (ag HG.o hg);clear hr hg;go_wp2_with (go_at_call 148;refine(C1.o _ HR.o).mono ?_);rintro e w2 ⟨rfl,hr,hg⟩;replace HR:=ae hr;replace HG:=ae (ag HG.o hg);clear hr hg;go_wp2_with (go_at_call 148;refine(C2.o _ HR.o).mono ?_);rintro e w3 ⟨rfl,hr,hg⟩;replace HR:=ae hr;replace HG:=ae (ag HG.o hg);clear hr hg;go_wp2;go_ret;exact⟨rfl,HR.o,HG.o⟩
def kV(l:List UInt8)(i:Nat):Int × Nat × List Te:=fC l (l.length+1) (aj l i) []
def kG(l:List UInt8)(i:Nat):Int × Nat × List Te:=after l (aW l (l.length+1) (aj l i) [])
def sJ(l:List UInt8):Nat->Nat->List (List Te)->Int × Nat × List (List Te)
 | 0,i,acc=>(0,i,acc)
 | f+1,i,acc =>
  if(kV l i).1=0 then(if kF l (kV l i).2.1=true then sJ l f ((kV l i).2.1+2) (acc++[(kV l i).2.2]) else(0,(kV l i).2.1,acc++[(kV l i).2.2]))
  else((kV l i).1,(kV l i).2.1,acc)
def iP(l:List UInt8):Nat->Nat->List (List Te)->Int × Nat × List (List Te)
 | 0,i,acc=>(0,i,acc)
 | f+1,i,acc =>
  if(kG l i).1=0 then(if l.length<=(kG l i).2.1 then(0,(kG l i).2.1,acc++[(kG l i).2.2]) else iP l f ((kG l i).2.1+2) (acc++[(kG l i).2.2]))
  else((kG l i).1,(kG l i).2.1,acc)
def adN(x y:Int × Nat × List (List Te)):Prop:=x.1=y.1/\x.2.1=y.2.1/\(x.1=0->x.2.2=y.2.2)
theorem UX(l:List UInt8)(i:Nat)(hi:i<=l.length):same (kG l i) (kV l i):=by
 have h1:=qV l i hi;exact UQ l (l.length+1) (aj l i) [] (by omega) h1 (ML l i hi)
theorem adO(l:List UInt8)(r:Int × Nat × List Te)(h:(after l r).1=0):dJ l (after l r).2.1=true:=by
 unfold after at h ⊢
 by_cases h1:r.1=0
 ·rw[if_pos h1]at h ⊢
  by_cases h2:dJ l (aj l r.2.1)=true
  ·rw[if_pos h2];exact h2
  ·rw[if_neg h2]at h;cases h
 ·rw[if_neg h1]at h;exact absurd h h1
theorem adP(l:List UInt8)(i:Nat)(h:dJ l i=true):kF l i=true↔¬l.length<=i:=by
 unfold dJ at h;rw[Bool.or_eq_true,decide_eq_true_eq]at h;constructor
 ·intro hb hl;unfold kF at hb;rw[List.getElem?_eq_none hl]at hb;simp at hb
 ·intro hn;exact h.resolve_left hn
theorem IB(l:List UInt8)(i:Nat)(h:kF l i=true):i+2<=l.length:=by
 unfold kF at h;rw[Bool.and_eq_true,decide_eq_true_eq,decide_eq_true_eq]at h;have:=kU h.2;omega
theorem MP(l:List UInt8):∀(f i:Nat) (acc:List Te),i<=l.length->(aW l f i acc).1=0->i<=(aW l f i acc).2.1/\(aW l f i acc).2.1<=l.length
 | 0,i,acc,hi,_=>by unfold aW;exact⟨Nat.le_refl _,hi⟩
 | f+1,i,acc,hi,h=>by
  have sp:=Fh l i hi;unfold aW at h ⊢
  by_cases h0:l.length<=i\/l[i]?=some 124
  ·rw[if_pos h0];exact⟨Nat.le_refl _,hi⟩
  ·rw[if_neg h0]at h ⊢
   by_cases hr:(au l (az l i).2).1=0
   ·have pp:=Fg l _ sp.2 hr;have hkl:=qV l _ pp.2;have hkg:=sG l (au l (az l i).2).2.1;rw[if_pos hr]at h ⊢
    by_cases hbt:((az l i).1<0/\acc=[])/\(au l (az l i).2).2.1<aj l (au l (az l i).2).2.1/\l[aj l (au l (az l i).2).2.1]?=some 45
    ·rw[if_pos hbt]at h ⊢;have h45:=kU hbt.2.2
     by_cases hm:aj l (aj l (au l (az l i).2).2.1+1)=aj l (au l (az l i).2).2.1+1
     ·rw[if_pos hm]at h;cases h
     ·rw[if_neg hm]at h ⊢;have hk2:=qV l (aj l (au l (az l i).2).2.1+1) (by omega);have hk3:=sG l (aj l (au l (az l i).2).2.1+1)
      by_cases hq:(au l (aj l (aj l (au l (az l i).2).2.1+1))).1=0
      ·rw[if_pos hq];have:=Fg l _ hk2 hq;simp only[];omega
      ·rw[if_neg hq]at h;exact absurd h hq
    ·rw[if_neg hbt]at h ⊢
     by_cases hg:(au l (az l i).2).2.1<aj l (au l (az l i).2).2.1
     ·rw[if_neg (not_not_intro hg)]at h ⊢;have:=MP l f _ _ hkl h;omega
     ·rw[if_pos hg];simp only[];omega
   ·rw[if_neg hr]at h;exact absurd h hr
theorem UY(l:List UInt8)(i:Nat)(hi:i<=l.length)(h:(kG l i).1=0):i<=(kG l i).2.1/\(kG l i).2.1<=l.length:=by
 unfold kG after at h ⊢
 by_cases h1:(aW l (l.length+1) (aj l i) []).1=0
 ·rw[if_pos h1]at h ⊢;have h2:=MP l _ _ _ (qV l i hi) h1;have h3:=sG l i;have h4:=sG l (aW l (l.length+1) (aj l i) []).2.1;have h5:=qV l _ h2.2;split<;>(simp only[];omega)
 ·rw[if_neg h1]at h;exact absurd h h1
theorem UZ(l:List UInt8):∀(f i:Nat) (acc:List (List Te)),i<=l.length->adN (iP l f i acc) (sJ l f i acc)
 | 0,i,acc,hi=>⟨rfl,rfl,fun _=>rfl⟩
 | f+1,i,acc,hi=>by
  obtain⟨s1,s2,s3⟩:=UX l i hi;unfold iP sJ
  by_cases h:(kG l i).1=0
  ·have h':(kV l i).1=0:=by rw[<-s1];exact h
   have he:dJ l (kG l i).2.1=true:=adO l _ h;have hb:=adP l _ he;have hp:=UY l i hi h;rw[if_pos h,if_pos h',<-s2,<-s3 h]
   by_cases hl:l.length<=(kG l i).2.1
   ·rw[if_pos hl,if_neg (fun hb'=>hb.1 hb' hl)];exact⟨rfl,rfl,fun _=>rfl⟩
   ·have hb':=hb.2 hl;rw[if_neg hl];rw[if_pos hb'];exact UZ l f _ _ (IB l _ hb')
  ·have h':¬(kV l i).1=0:=by rw[<-s1];exact h
   rw[if_neg h,if_neg h',<-s1,<-s2];exact⟨rfl,rfl,fun h0=>absurd h0 h⟩
def fJ(l:List UInt8):Int × Nat × List (List Te) :=
 if 200<l.length then(1,0,[]) else if(sJ l (l.length+1) 0 []).1=0 then(0,0,(sJ l (l.length+1) 0 []).2.2) else((sJ l (l.length+1) 0 []).1,(sJ l (l.length+1) 0 []).2.1,[])
theorem U0(l:List UInt8)(i:Nat):-1<=(az l i).1/\(az l i).1<=6:=by
 unfold az
 repeat' split
 all_goals simp
theorem adQ(l:List UInt8)(i k:Nat):(aO l i k).length<=l.length:=by unfold aO;simp;omega
theorem adR(c:UInt8)(st:Bool)(l:List UInt8)(i:Nat):(aX c st l i).2.2.length<=l.length:=by
 unfold aX
 repeat' split
 all_goals first|exact adQ _ _ _|exact Nat.zero_le _
theorem adS(l:List UInt8)(i:Nat):(aN l i).2.2.1.length<=l.length:=by
 unfold aN
 repeat' split
 all_goals first|exact adR _ _ _ _|exact Nat.zero_le _
theorem MQ(l:List UInt8)(i:Nat):(au l i).2.2.pre.length<=l.length:=by
 unfold au kE kD pa3
 repeat' split
 all_goals first|exact adS _ _|exact Nat.zero_le _
def lW(ts:List Te)(v:V):Bool:=ts.all fun t=>jb t v
def jr(S:List (List Te))(v:V):Bool:=S.any fun ts=>lW ts v
theorem adT(ts:List Te)(t:Te)(v:V):lW (ts++[t]) v=(lW ts v && jb t v):=by unfold lW;simp
theorem adU(S:List (List Te))(ts:List Te)(v:V):jr (S++[ts]) v=(jr S v || lW ts v):=by unfold jr;simp
def kH(g:Sg):Sp:=gB g.fr g.to_ g.op
structure BOk(v:V)(n:Nat):Prop where
 m1:0<=v.major/\v.major<=1000000000
 m2:0<=v.minor/\v.minor<=1000000000
 m3:0<=v.patch/\v.patch<=1000000000
 ok:gy true v.pre=true
 sm:v.pre.length<=n
theorem BOk.sound{v:V}{n:Nat}(h:BOk v n):xU v=true:=by
 unfold xU kP;simp only[Bool.and_eq_true,qJ];exact⟨h.m1,h.m2,h.m3,h.ok,rfl⟩
structure GOk(g:Sg)(n:Nat):Prop where
 fr:BOk g.fr n
 to_:g.op=false->BOk g.to_ n
 tn:g.to_.pre.length<=n
theorem Fj:gy true [48]=true:=by decide
theorem U4(n:Nat)(hn:1<=n):BOk ku n:=⟨by decide,by decide,by decide,by decide,by simpa [ku] using hn⟩
theorem Fp(p:Pa)(hp:eQ p)(n:Nat)(hn:1<=n)(hl:p.pre.length<=n):BOk (bu p) n:=by
 have a0:=hp.a0;have b0:=hp.b0;have c0:=hp.c0;refine⟨⟨a0.1,?_⟩,⟨b0.1,?_⟩,⟨c0.1,?_⟩,?_,?_⟩
 ·show p.a<=_;omega
 ·show p.b<=_;omega
 ·show p.c<=_;omega
 ·show gy true (if p.n<3 then[48] else p.pre)=true;split
  ·exact Fj
  ·exact hp.ok
 ·show(if p.n<3 then[48] else p.pre).length<=n;split
  ·exact hn
  ·exact hl
theorem adV(p:Pa)(hp:eQ p)(k:Nat)(n:Nat)(hn:1<=n):BOk (ET (bu p) k) n:=by
 have a0:=hp.a0;have b0:=hp.b0;have c0:=hp.c0;unfold ET;have e1:(bu p).major=p.a:=rfl;have e2:(bu p).minor=p.b:=rfl;have e3:(bu p).patch=p.c:=rfl;rw[e1,e2,e3];split
 ·exact⟨by simp only[];omega,by simp,by simp,Fj,hn⟩
 ·split
  ·exact⟨by simp only[];omega,by simp only[];omega,by simp,Fj,hn⟩
  ·exact⟨by simp only[];omega,by simp only[];omega,by simp only[];omega,Fj,hn⟩
theorem adW(v:V)(n:Nat)(h1:0<=v.major/\v.major<=1000000000)(h2:0<=v.minor/\v.minor<=1000000000)(h3:0<=v.patch/\v.patch<=999999999)(hk:gy true v.pre=true)(hn:1<=n)(hl:v.pre.length+2<=n):BOk (mF v) n:=by
 unfold mF
 by_cases e:v.pre=[]
 ·rw[if_pos e,if_pos (by omega)];exact⟨h1,h2,by simp only[];omega,Fj,hn⟩
 ·rw[if_neg e];refine⟨h1,h2,by simp only[];omega,?_,by simp only[List.length_append,List.length_cons,List.length_nil];omega⟩;have h4:=aab hk e;show gy true (v.pre++[46,48])=true;unfold gy;rw[show v.pre++[46,48]=v.pre++46 :: [48] from rfl,GH,List.all_append,h4];simp only[Bool.true_and,Bool.or_eq_true];exact Or.inr (by decide)
theorem MR(p:Pa)(hp:eQ p)(k n:Nat)(hn:1<=n)(hl:p.pre.length<=n):GOk (kS p k) n:=by
 unfold kS;split
 ·exact⟨Fp p hp n hn hl,fun h=>(by cases h),Nat.zero_le _⟩
 ·have:=adV p hp k n hn;exact⟨Fp p hp n hn hl,fun _=>this,this.sm⟩
theorem U5(p:Pa)(hp:eQ p)(n:Nat)(hn:1<=n)(hl:p.pre.length+2<=n):GOk (di p) n:=by
 unfold di;have a0:=hp.a0;have b0:=hp.b0;have c0:=hp.c0;split
 ·rename_i h3;have hf:=Fp p hp n hn (by omega);have e:(bu p).pre=p.pre:=by unfold bu;rw[if_neg (by omega)]
  have:=adW (bu p) n hf.m1 hf.m2 ⟨hf.m3.1,by show p.c<=_;omega⟩ hf.ok hn (by rw[e];exact hl);exact⟨hf,fun _=>this,this.sm⟩
 ·exact MR p hp p.n n hn (by omega)
theorem adX(s:Int)(p:Pa)(hp:eQ p)(n:Nat)(hn:1<=n)(hl:p.pre.length+2<=n):GOk (zq s p) n:=by
 have hlow:=U4 n hn;have hf:=Fp p hp n hn (by omega);have hN:=U5 p hp n hn hl;unfold zq;split
 ·exact hN
 ·split
  ·exact⟨hf,fun h=>(by cases h),Nat.zero_le _⟩
  ·split
   ·exact⟨hlow,hN.to_,hN.tn⟩
   ·split
    ·split
     ·exact⟨hlow,fun _=>hlow,hlow.sm⟩
     ·rename_i hop;have hb:=hN.to_ (by simpa using hop);exact⟨hb,fun h=>(by cases h),Nat.zero_le _⟩
    ·split
     ·exact⟨hlow,fun _=>hf,hf.sm⟩
     ·split
      ·exact MR p hp _ n hn (by omega)
      ·exact MR p hp _ n hn (by omega)
theorem adY(p q:Pa)(hp:eQ p)(hq:eQ q)(n:Nat)(hn:1<=n)(hl:p.pre.length<=n)(hl2:q.pre.length+2<=n):GOk (xW p q) n:=by
 have hN:=U5 q hq n hn hl2;exact⟨Fp p hp n hn hl,hN.to_,hN.tn⟩
theorem GOk.sound{g:Sg}{n:Nat}(h:GOk g n):ik (kH g)=true:=by
 have hv:xA (kH g)=⟨g.fr.major,g.fr.minor,g.fr.patch,g.fr.pre,[]⟩:=by simp[xA,kH,gB]
 have hw:xB (kH g)=⟨g.to_.major,g.to_.minor,g.to_.patch,g.to_.pre,[]⟩:=by simp[xB,kH,gB]
 have h1:=h.fr.sound;unfold xU at h1;unfold ik;rw[hv,hw,h1];show(true && (g.op || _))=true
 cases ho:g.op with
 | true=>rfl
 | false =>
  have h2:=(h.to_ ho).sound;unfold xU at h2;rw[h2];rfl
theorem GOk.small{g:Sg}{n:Nat}(h:GOk g n)(hn:n<=1048576):jG (kH g):=by
 have h1:=h.fr.sm;have h2:=h.tn;refine⟨?_,?_,?_,?_⟩
 ·show g.fr.pre.toArray.size<=_;simp;omega
 ·show(0:Nat)<=_;omega
 ·show g.to_.pre.toArray.size<=_;simp;omega
 ·show(0:Nat)<=_;omega
theorem adZ(g:Sg)(v:V):vH (kH g) v=jQ g v:=by
 unfold vH jQ;rw[show vG (kH g)=g.fr from LM _ _ _,show xC (kH g)=g.to_ from Ub _ _ _];rfl
structure LOk(L:List Sp)(k:Nat):Prop where
 sd:L.all ik=true
 sm:∀s∈L,jG s
 ln:L.length<=k
theorem LOk.one{g:Sg}{n:Nat}(h:GOk g n)(hn:n<=1048576):LOk [kH g] 1:=⟨by simp[h.sound],by intro s hs;simp at hs;subst hs;exact h.small hn,Nat.le_refl _⟩
theorem LOk.app{L M:List Sp}{j k:Nat}(h:LOk L j)(h':LOk M k):LOk (L++M) (j+k) :=
 ⟨by rw[List.all_append,h.sd,h'.sd];rfl,fun s hs=>(List.mem_append.1 hs).elim (h.sm s) (h'.sm s),by have:=h.ln;have:=h'.ln;rw[List.length_append];omega⟩
theorem LOk.mono{L:List Sp}{j k:Nat}(h:LOk L j)(hk:j<=k):LOk L k:=⟨h.sd,h.sm,Nat.le_trans h.ln hk⟩
theorem ad1(L M:List Sp)(v:V):eU (L++M) v=(eU L v || eU M v):=by unfold eU;simp
theorem holds_one(g:Sg)(v:V):eU [kH g] v=jQ g v:=by unfold eU;simp[adZ]
def Has(L:List Sp)(f:V->Bool):Prop:=∀v,vV v->eU L v=f v
end Go.Proofs.YtiinliaoojfjaaaGreatDoor
