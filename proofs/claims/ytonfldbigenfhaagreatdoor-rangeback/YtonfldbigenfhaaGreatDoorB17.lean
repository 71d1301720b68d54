import Derived.Test.YtonfldbigenfhaaGreatDoorB14
import Derived.Test.YtonfldbigenfhaaGreatDoorB16
namespace Go.Proofs.YtonfldbigenfhaaGreatDoor
set_option linter.unusedVariables false
def isSp (c:UInt8):Bool:=decide (c=32)
def wildAt (l:List UInt8) (i:Nat):Bool:=decide (l[i]?=some 42) || (decide (l[i]?=some 120) || decide (l[i]?=some 88))
def pa0:Pa:=⟨0,0,0,0,[]⟩
def pa3 (l:List UInt8) (j:Nat) (a b c:Int):Int × Nat × Pa :=
 if (tailP l j).1=0 then (0,(tailP l j).2.1,⟨3,a,b,c,(tailP l j).2.2.1⟩) else ((tailP l j).1,(tailP l j).2.1,pa0)
def pa2 (l:List UInt8) (j:Nat) (a b:Int):Int × Nat × Pa :=
 if l[j]?=some 46 then (if wildAt l (j+1)=true then (0,j+2,⟨2,a,b,0,[]⟩) else if (rdNum l (j+1)).1=0 then pa3 l (rdNum l (j+1)).2.2 a b (rdNum l (j+1)).2.1 else ((rdNum l (j+1)).1,(rdNum l (j+1)).2.2,pa0))
 else (0,j,⟨2,a,b,0,[]⟩)
def pa1 (l:List UInt8) (j:Nat) (a:Int):Int × Nat × Pa :=
 if l[j]?=some 46 then (if wildAt l (j+1)=true then (0,j+2,⟨1,a,0,0,[]⟩) else if (rdNum l (j+1)).1=0 then pa2 l (rdNum l (j+1)).2.2 a (rdNum l (j+1)).2.1 else ((rdNum l (j+1)).1,(rdNum l (j+1)).2.2,pa0))
 else (0,j,⟨1,a,0,0,[]⟩)
def rdPa (l:List UInt8) (i:Nat):Int × Nat × Pa :=
 if wildAt l i=true then (0,i+1,pa0) else if (rdNum l i).1=0 then pa1 l (rdNum l i).2.2 (rdNum l i).2.1 else ((rdNum l i).1,(rdNum l i).2.2,pa0)
def rdSign (l:List UInt8) (i:Nat):Int × Nat :=
 if l[i]?=some 62 then (if l[i+1]?=some 61 then (1,i+2) else (3,i+1))
 else if l[i]?=some 60 then (if l[i+1]?=some 61 then (2,i+2) else (4,i+1))
 else if l[i]?=some 61 then (0,i+1) else if l[i]?=some 94 then (5,i+1) else if l[i]?=some 126 then (6,i+1) else (-1,i)
def barsAt (l:List UInt8) (i:Nat):Bool:=decide (l[i]?=some 124) && decide (l[i+1]?=some 124)
def endsAt (l:List UInt8) (i:Nat):Bool:=decide (l.length<=i) || barsAt l i
def skipW (l:List UInt8) (i:Nat):Nat:=i+runN isSp l i
def signOr (s:Int):Int:=if s < 0 then 0 else s
def dset (l:List UInt8):Nat->Nat->List Te->Int × Nat × List Te
 | 0,i,acc=>(0,i,acc)
 | f+1,i,acc =>
  if endsAt l i=true then (0,i,acc) else
  if (rdPa l (rdSign l i).2).1=0 then
   (if ((rdSign l i).1 < 0/\acc=[])/\(rdPa l (rdSign l i).2).2.1 < skipW l (rdPa l (rdSign l i).2).2.1/\l[skipW l (rdPa l (rdSign l i).2).2.1]?=some 45 then
    (if skipW l (skipW l (rdPa l (rdSign l i).2).2.1+1)=skipW l (rdPa l (rdSign l i).2).2.1+1 then (2,skipW l (rdPa l (rdSign l i).2).2.1+1,acc) else
    if (rdPa l (skipW l (skipW l (rdPa l (rdSign l i).2).2.1+1))).1=0 then
     (if endsAt l (skipW l (rdPa l (skipW l (skipW l (rdPa l (rdSign l i).2).2.1+1))).2.1)=true then (0,skipW l (rdPa l (skipW l (skipW l (rdPa l (rdSign l i).2).2.1+1))).2.1,[⟨7,(rdPa l (rdSign l i).2).2.2⟩,⟨2,(rdPa l (skipW l (skipW l (rdPa l (rdSign l i).2).2.1+1))).2.2⟩])
     else (2,skipW l (rdPa l (skipW l (skipW l (rdPa l (rdSign l i).2).2.1+1))).2.1,acc))
    else ((rdPa l (skipW l (skipW l (rdPa l (rdSign l i).2).2.1+1))).1,(rdPa l (skipW l (skipW l (rdPa l (rdSign l i).2).2.1+1))).2.1,acc))
   else if ¬ (rdPa l (rdSign l i).2).2.1 < skipW l (rdPa l (rdSign l i).2).2.1/\¬ endsAt l (skipW l (rdPa l (rdSign l i).2).2.1)=true then (2,skipW l (rdPa l (rdSign l i).2).2.1,acc)
   else dset l f (skipW l (rdPa l (rdSign l i).2).2.1) (acc++[⟨signOr (rdSign l i).1,(rdPa l (rdSign l i).2).2.2⟩]))
  else ((rdPa l (rdSign l i).2).1,(rdPa l (rdSign l i).2).2.1,acc)
def pset (l:List UInt8):Nat->Nat->List Te->Int × Nat × List Te
 | 0,i,acc=>(0,i,acc)
 | f+1,i,acc =>
  if l.length<=i\/l[i]?=some 124 then (0,i,acc) else
  if (rdPa l (rdSign l i).2).1=0 then
   (if ((rdSign l i).1 < 0/\acc=[])/\(rdPa l (rdSign l i).2).2.1 < skipW l (rdPa l (rdSign l i).2).2.1/\l[skipW l (rdPa l (rdSign l i).2).2.1]?=some 45 then
    (if skipW l (skipW l (rdPa l (rdSign l i).2).2.1+1)=skipW l (rdPa l (rdSign l i).2).2.1+1 then (2,skipW l (rdPa l (rdSign l i).2).2.1+1,acc) else
    if (rdPa l (skipW l (skipW l (rdPa l (rdSign l i).2).2.1+1))).1=0 then (0,(rdPa l (skipW l (skipW l (rdPa l (rdSign l i).2).2.1+1))).2.1,[⟨7,(rdPa l (rdSign l i).2).2.2⟩,⟨2,(rdPa l (skipW l (skipW l (rdPa l (rdSign l i).2).2.1+1))).2.2⟩])
    else ((rdPa l (skipW l (skipW l (rdPa l (rdSign l i).2).2.1+1))).1,(rdPa l (skipW l (skipW l (rdPa l (rdSign l i).2).2.1+1))).2.1,acc))
   else if ¬ (rdPa l (rdSign l i).2).2.1 < skipW l (rdPa l (rdSign l i).2).2.1 then (0,skipW l (rdPa l (rdSign l i).2).2.1,acc++[⟨signOr (rdSign l i).1,(rdPa l (rdSign l i).2).2.2⟩])
   else pset l f (skipW l (rdPa l (rdSign l i).2).2.1) (acc++[⟨signOr (rdSign l i).1,(rdPa l (rdSign l i).2).2.2⟩]))
  else ((rdPa l (rdSign l i).2).1,(rdPa l (rdSign l i).2).2.1,acc)
def after (l:List UInt8) (r:Int × Nat × List Te):Int × Nat × List Te :=
 if r.1=0 then (if endsAt l (skipW l r.2.1)=true then (0,skipW l r.2.1,r.2.2) else (2,skipW l r.2.1,r.2.2)) else r
theorem skip_ge (l:List UInt8) (i:Nat):i<=skipW l i:=by unfold skipW;omega
theorem skip_stop (l:List UInt8) (i:Nat) (h:i<=l.length):skipW l (skipW l i)=skipW l i:=by
 unfold skipW
 have:runN isSp l (i+runN isSp l i)=0:=runN_eq isSp l _ 0 (Nat.zero_le _) (fun hlt=>by
  have:=runN_stop isSp l i (by simpa using hlt)
  simpa using this)
 omega
def same (x y:Int × Nat × List Te):Prop:=x.1=y.1/\x.2.1=y.2.1/\(x.1=0->x.2.2=y.2.2)
theorem bar_pa (l:List UInt8) (i:Nat) (h:l[i]?=some 124):rdSign l i=(-1,i)/\(rdPa l i).1=2/\(rdPa l i).2.1=i:=by
 have hs:rdSign l i=(-1,i):=by unfold rdSign;simp [h]
 have hw:wildAt l i=false:=by unfold wildAt;simp [h]
 have hr:runN isD l i=0:=runN_eq isD l i 0 (Nat.zero_le _) (fun hlt=>by
  have:l[i+0]'hlt=124:=by
   have:=List.getElem?_eq_some_iff.1 h
   obtain ⟨_,e⟩:=this
   simpa using e
  rw [this];decide)
 have hn:rdNum l i=(2,0,i):=by unfold rdNum;rw [if_pos hr]
 refine ⟨hs,?_,?_⟩
 ·unfold rdPa;rw [hw,hn];rfl
 ·unfold rdPa;rw [hw,hn];rfl
theorem num_pos (l:List UInt8) (i:Nat) (hi:i<=l.length) (h:(rdNum l i).1=0):i < (rdNum l i).2.2/\(rdNum l i).2.2<=l.length:=by
 have hr:=runN_le isD l i hi
 unfold rdNum at h ⊢
 split at h
 ·simp at h
 ·rename_i h1
  split at h
  ·simp at h
  ·rename_i h2
   split at h
   ·simp at h
   ·rename_i h3
    rw [if_neg h1,if_neg h2,if_neg h3]
    simp only []
    omega
theorem opt_pos (c:UInt8) (st:Bool) (l:List UInt8) (i:Nat) (hi:i<=l.length) (h:(optP c st l i).1=0):i<=(optP c st l i).2.1/\(optP c st l i).2.1<=l.length:=by
 refine ⟨?_,opt_le hi h⟩
 by_cases hc:l[i]?=some c
 ·rw [opt_yes hc] at h ⊢
  simp only at h ⊢
  have hlt:=(List.getElem?_eq_some_iff.1 hc).1
  have:=(parts_take st l _ (i+1) rfl (by omega) h).1
  omega
 ·rw [opt_no hc];simp
theorem tail_pos (l:List UInt8) (i:Nat) (hi:i<=l.length) (h:(tailP l i).1=0):i<=(tailP l i).2.1/\(tailP l i).2.1<=l.length:=by
 unfold tailP at h ⊢
 by_cases h1:(optP 45 true l i).1=0
 ·rw [if_pos h1] at h ⊢
  have p1:=opt_pos 45 true l i hi h1
  by_cases h2:(optP 43 false l (optP 45 true l i).2.1).1=0
  ·rw [if_pos h2] at h ⊢
   have p2:=opt_pos 43 false l _ p1.2 h2
   simp only []
   omega
  ·rw [if_neg h2] at h
   exact absurd h h2
 ·rw [if_neg h1] at h
  exact absurd h h1
theorem dot_lt {l:List UInt8} {j:Nat} {c:UInt8} (h:l[j]?=some c):j < l.length:=(List.getElem?_eq_some_iff.1 h).1
theorem wild_lt {l:List UInt8} {i:Nat} (h:wildAt l i=true):i < l.length:=by
 unfold wildAt at h
 simp only [Bool.or_eq_true,decide_eq_true_eq] at h
 rcases h with h | h | h <;> exact dot_lt h
theorem pa3_pos (l:List UInt8) (j:Nat) (a b c:Int) (hj:j<=l.length) (h:(pa3 l j a b c).1=0):j<=(pa3 l j a b c).2.1/\(pa3 l j a b c).2.1<=l.length:=by
 unfold pa3 at h ⊢
 by_cases h1:(tailP l j).1=0
 ·rw [if_pos h1];exact tail_pos l j hj h1
 ·rw [if_neg h1] at h;exact absurd h h1
theorem pa2_pos (l:List UInt8) (j:Nat) (a b:Int) (hj:j<=l.length) (h:(pa2 l j a b).1=0):j<=(pa2 l j a b).2.1/\(pa2 l j a b).2.1<=l.length:=by
 unfold pa2 at h ⊢
 by_cases h1:l[j]?=some 46
 ·have hl:=dot_lt h1
  rw [if_pos h1] at h ⊢
  by_cases h2:wildAt l (j+1)=true
  ·have:=wild_lt h2
   rw [if_pos h2];simp only [];omega
  ·rw [if_neg h2] at h ⊢
   by_cases h3:(rdNum l (j+1)).1=0
   ·have p1:=num_pos l (j+1) (by omega) h3
    rw [if_pos h3] at h ⊢
    have p2:=pa3_pos l _ a b _ p1.2 h
    omega
   ·rw [if_neg h3] at h;exact absurd h h3
 ·rw [if_neg h1];simp only [];omega
theorem pa1_pos (l:List UInt8) (j:Nat) (a:Int) (hj:j<=l.length) (h:(pa1 l j a).1=0):j<=(pa1 l j a).2.1/\(pa1 l j a).2.1<=l.length:=by
 unfold pa1 at h ⊢
 by_cases h1:l[j]?=some 46
 ·have hl:=dot_lt h1
  rw [if_pos h1] at h ⊢
  by_cases h2:wildAt l (j+1)=true
  ·have:=wild_lt h2
   rw [if_pos h2];simp only [];omega
  ·rw [if_neg h2] at h ⊢
   by_cases h3:(rdNum l (j+1)).1=0
   ·have p1:=num_pos l (j+1) (by omega) h3
    rw [if_pos h3] at h ⊢
    have p2:=pa2_pos l _ a _ p1.2 h
    omega
   ·rw [if_neg h3] at h;exact absurd h h3
 ·rw [if_neg h1];simp only [];omega
theorem pa_pos (l:List UInt8) (i:Nat) (hi:i<=l.length) (h:(rdPa l i).1=0):i < (rdPa l i).2.1/\(rdPa l i).2.1<=l.length:=by
 unfold rdPa at h ⊢
 by_cases h2:wildAt l i=true
 ·have:=wild_lt h2
  rw [if_pos h2];simp only [];omega
 ·rw [if_neg h2] at h ⊢
  by_cases h3:(rdNum l i).1=0
  ·have p1:=num_pos l i hi h3
   rw [if_pos h3] at h ⊢
   have p2:=pa1_pos l _ _ p1.2 h
   omega
  ·rw [if_neg h3] at h;exact absurd h h3
theorem sign_pos (l:List UInt8) (i:Nat) (hi:i<=l.length):i<=(rdSign l i).2/\(rdSign l i).2<=l.length:=by
 unfold rdSign
 repeat' split
 all_goals simp only []
 ·rename_i h1 h2;have:=dot_lt h2;omega
 ·rename_i h1 h2;have:=dot_lt h1;omega
 ·rename_i h0 h1 h2;have:=dot_lt h2;omega
 ·rename_i h0 h1 h2;have:=dot_lt h1;omega
 ·rename_i h;have:=dot_lt h;omega
 ·rename_i h;have:=dot_lt h;omega
 ·rename_i h;have:=dot_lt h;omega
 ·omega
theorem skip_le (l:List UInt8) (i:Nat) (hi:i<=l.length):skipW l i<=l.length:=runN_le isSp l i hi
theorem set_same (l:List UInt8):∀(f i:Nat) (acc:List Te),l.length < f+i->i<=l.length->skipW l i=i->same (after l (pset l f i acc)) (dset l f i acc)
 | 0,i,acc,hf,hi,_=>by omega
 | f+1,i,acc,hf,hi,hsk=>by
  by_cases he:endsAt l i=true
  ·have hp:l.length<=i\/l[i]?=some 124:=by
    unfold endsAt barsAt at he
    simp only [Bool.or_eq_true,Bool.and_eq_true,decide_eq_true_eq] at he
    rcases he with h | h
    ·exact Or.inl h
    ·exact Or.inr h.1
   have e1:pset l (f+1) i acc=(0,i,acc):=by unfold pset;rw [if_pos hp]
   have e2:dset l (f+1) i acc=(0,i,acc):=by unfold dset;rw [if_pos he]
   rw [e1,e2]
   unfold after
   simp only [if_true,hsk,he]
   exact ⟨rfl,rfl,fun _=>rfl⟩
  ·by_cases hb:l[i]?=some 124
   ·obtain ⟨b1,b2,b3⟩:=bar_pa l i hb
    have e1:pset l (f+1) i acc=(0,i,acc):=by unfold pset;rw [if_pos (Or.inr hb)]
    have e2:dset l (f+1) i acc=(2,i,acc):=by
     unfold dset
     rw [if_neg he,b1]
     simp only []
     rw [b2,if_neg (by decide),b3]
    rw [e1,e2]
    unfold after
    simp only [if_true,hsk,if_neg he]
    exact ⟨rfl,rfl,fun h=>by cases h⟩
   ·have hnl:¬ l.length<=i:=by
     intro h
     apply he
     unfold endsAt
     simp [h]
    have hnp:¬ (l.length<=i\/l[i]?=some 124):=fun h=>h.elim hnl hb
    have sp:=sign_pos l i hi
    unfold pset dset
    rw [if_neg hnp,if_neg he]
    by_cases hr:(rdPa l (rdSign l i).2).1=0
    ·have pp:=pa_pos l _ sp.2 hr
     have hkl:=skip_le l _ pp.2
     have hkg:=skip_ge l (rdPa l (rdSign l i).2).2.1
     rw [if_pos hr,if_pos hr]
     by_cases hbt:((rdSign l i).1 < 0/\acc=[])/\(rdPa l (rdSign l i).2).2.1 < skipW l (rdPa l (rdSign l i).2).2.1/\l[skipW l (rdPa l (rdSign l i).2).2.1]?=some 45
     ·rw [if_pos hbt,if_pos hbt]
      by_cases hm:skipW l (skipW l (rdPa l (rdSign l i).2).2.1+1)=skipW l (rdPa l (rdSign l i).2).2.1+1
      ·rw [if_pos hm,if_pos hm]
       unfold after
       rw [if_neg (by simp)]
       exact ⟨rfl,rfl,fun h=>by cases h⟩
      ·rw [if_neg hm,if_neg hm]
       by_cases hq:(rdPa l (skipW l (skipW l (rdPa l (rdSign l i).2).2.1+1))).1=0
       ·rw [if_pos hq,if_pos hq]
        unfold after
        simp only [if_true]
        by_cases hz:endsAt l (skipW l (rdPa l (skipW l (skipW l (rdPa l (rdSign l i).2).2.1+1))).2.1)=true
        ·rw [if_pos hz,if_pos hz];exact ⟨rfl,rfl,fun _=>rfl⟩
        ·rw [if_neg hz,if_neg hz];exact ⟨rfl,rfl,fun h=>by cases h⟩
       ·rw [if_neg hq,if_neg hq]
        unfold after
        rw [if_neg hq]
        exact ⟨rfl,rfl,fun h=>absurd h hq⟩
     ·rw [if_neg hbt,if_neg hbt]
      by_cases hg:(rdPa l (rdSign l i).2).2.1 < skipW l (rdPa l (rdSign l i).2).2.1
      ·rw [if_neg (not_not_intro hg),if_neg (fun h=>h.1 hg)]
       exact set_same l f _ _ (by omega) hkl (skip_stop l _ pp.2)
      ·rw [if_pos hg]
       unfold after
       simp only [if_true]
       rw [skip_stop l _ pp.2]
       by_cases hz:endsAt l (skipW l (rdPa l (rdSign l i).2).2.1)=true
       ·rw [if_pos hz,if_neg (fun h=>h.2 hz)]
        cases f with
        | zero=>omega
        | succ f =>
         have e2:dset l (f+1) (skipW l (rdPa l (rdSign l i).2).2.1) (acc++[⟨signOr (rdSign l i).1,(rdPa l (rdSign l i).2).2.2⟩])=(0,skipW l (rdPa l (rdSign l i).2).2.1,acc++[⟨signOr (rdSign l i).1,(rdPa l (rdSign l i).2).2.2⟩]):=by unfold dset;rw [if_pos hz]
         rw [e2]
         exact ⟨rfl,rfl,fun _=>rfl⟩
       ·rw [if_neg hz,if_pos ⟨hg,hz⟩]
        exact ⟨rfl,rfl,fun h=>by cases h⟩
    ·rw [if_neg hr,if_neg hr]
     unfold after
     rw [if_neg hr]
     exact ⟨rfl,rfl,fun h=>absurd h hr⟩
theorem num_val (l:List UInt8) (i:Nat) (h:(rdNum l i).1=0):0<=(rdNum l i).2.1/\(rdNum l i).2.1<=999999999:=by
 unfold rdNum at h ⊢
 split at h
 ·simp at h
 ·rename_i h1
  split at h
  ·simp at h
  ·rename_i h2
   split at h
   ·simp at h
   ·rename_i h3
    rw [if_neg h1,if_neg h2,if_neg h3]
    simp only []
    have:=val_nn (subT l i (runN isD l i)) (sub_all isD l i)
    omega
theorem opt_ok (c:UInt8) (st:Bool) (l:List UInt8) (i:Nat) (hi:i<=l.length) (h:(optP c st l i).1=0):okParts st (optP c st l i).2.2=true:=by
 unfold optP at h ⊢
 by_cases hc:l[i]?=some c
 ·rw [if_pos hc] at h ⊢
  have hlt:=dot_lt hc
  by_cases h2:(rdParts st l (i+1)).1=0
  ·rw [if_pos h2]
   have:=(parts_take st l _ (i+1) rfl (by omega) h2).2.2
   unfold okParts
   simp only []
   rw [this];simp
  ·rw [if_neg h2] at h;exact absurd h h2
 ·rw [if_neg hc];rfl
theorem tail_ok (l:List UInt8) (i:Nat) (hi:i<=l.length) (h:(tailP l i).1=0):okParts true (tailP l i).2.2.1=true:=by
 unfold tailP at h ⊢
 by_cases h1:(optP 45 true l i).1=0
 ·rw [if_pos h1] at h ⊢
  by_cases h2:(optP 43 false l (optP 45 true l i).2.1).1=0
  ·rw [if_pos h2]
   exact opt_ok 45 true l i hi h1
  ·rw [if_neg h2] at h
   exact absurd h h2
 ·rw [if_neg h1] at h
  exact absurd h h1
theorem pa0_ok:PaOk pa0:=⟨by decide,by decide,by decide,by decide,fun _=>rfl,fun _=>rfl,fun _=>⟨rfl,rfl⟩,rfl⟩
theorem pa2_ok (l:List UInt8) (j:Nat) (a b:Int) (hj:j<=l.length) (ha:0<=a/\a<=999999999) (hb:0<=b/\b<=999999999) (h:(pa2 l j a b).1=0):PaOk (pa2 l j a b).2.2:=by
 have base:PaOk ⟨2,a,b,0,[]⟩:=⟨by simp,ha,hb,by simp,fun h=>by simp at h,fun h=>by simp at h,fun _=>⟨rfl,rfl⟩,rfl⟩
 unfold pa2 at h ⊢
 by_cases h1:l[j]?=some 46
 ·have hl:=dot_lt h1
  rw [if_pos h1] at h ⊢
  by_cases h2:wildAt l (j+1)=true
  ·rw [if_pos h2];exact base
  ·rw [if_neg h2] at h ⊢
   by_cases h3:(rdNum l (j+1)).1=0
   ·have p1:=num_pos l (j+1) (by omega) h3
    have v1:=num_val l (j+1) h3
    rw [if_pos h3] at h ⊢
    unfold pa3 at h ⊢
    by_cases h4:(tailP l (rdNum l (j+1)).2.2).1=0
    ·rw [if_pos h4]
     exact ⟨by simp,ha,hb,v1,fun h=>by simp at h,fun h=>by simp at h,fun h=>by simp at h,tail_ok l _ p1.2 h4⟩
    ·rw [if_neg h4] at h;exact absurd h h4
   ·rw [if_neg h3] at h;exact absurd h h3
 ·rw [if_neg h1];exact base
theorem pa1_ok (l:List UInt8) (j:Nat) (a:Int) (hj:j<=l.length) (ha:0<=a/\a<=999999999) (h:(pa1 l j a).1=0):PaOk (pa1 l j a).2.2:=by
 have base:PaOk ⟨1,a,0,0,[]⟩:=⟨by simp,ha,by simp,by simp,fun h=>by simp at h,fun _=>rfl,fun _=>⟨rfl,rfl⟩,rfl⟩
 unfold pa1 at h ⊢
 by_cases h1:l[j]?=some 46
 ·have hl:=dot_lt h1
  rw [if_pos h1] at h ⊢
  by_cases h2:wildAt l (j+1)=true
  ·rw [if_pos h2];exact base
  ·rw [if_neg h2] at h ⊢
   by_cases h3:(rdNum l (j+1)).1=0
   ·have p1:=num_pos l (j+1) (by omega) h3
    rw [if_pos h3] at h ⊢
    exact pa2_ok l _ a _ p1.2 ha (num_val l (j+1) h3) h
   ·rw [if_neg h3] at h;exact absurd h h3
 ·rw [if_neg h1];exact base
theorem pa_ok (l:List UInt8) (i:Nat) (hi:i<=l.length) (h:(rdPa l i).1=0):PaOk (rdPa l i).2.2:=by
 unfold rdPa at h ⊢
 by_cases h2:wildAt l i=true
 ·rw [if_pos h2];exact pa0_ok
 ·rw [if_neg h2] at h ⊢
  by_cases h3:(rdNum l i).1=0
  ·have p1:=num_pos l i hi h3
   rw [if_pos h3] at h ⊢
   exact pa1_ok l _ _ p1.2 (num_val l i h3) h
  ·rw [if_neg h3] at h;exact absurd h h3
set_option linter.unusedVariables false
def oneD (l:List UInt8) (i:Nat):Int × Nat × List Te:=dset l (l.length+1) (skipW l i) []
def oneP (l:List UInt8) (i:Nat):Int × Nat × List Te:=after l (pset l (l.length+1) (skipW l i) [])
def dsets (l:List UInt8):Nat->Nat->List (List Te)->Int × Nat × List (List Te)
 | 0,i,acc=>(0,i,acc)
 | f+1,i,acc =>
  if (oneD l i).1=0 then (if barsAt l (oneD l i).2.1=true then dsets l f ((oneD l i).2.1+2) (acc++[(oneD l i).2.2]) else (0,(oneD l i).2.1,acc++[(oneD l i).2.2]))
  else ((oneD l i).1,(oneD l i).2.1,acc)
def psets (l:List UInt8):Nat->Nat->List (List Te)->Int × Nat × List (List Te)
 | 0,i,acc=>(0,i,acc)
 | f+1,i,acc =>
  if (oneP l i).1=0 then (if l.length<=(oneP l i).2.1 then (0,(oneP l i).2.1,acc++[(oneP l i).2.2]) else psets l f ((oneP l i).2.1+2) (acc++[(oneP l i).2.2]))
  else ((oneP l i).1,(oneP l i).2.1,acc)
def sameS (x y:Int × Nat × List (List Te)):Prop:=x.1=y.1/\x.2.1=y.2.1/\(x.1=0->x.2.2=y.2.2)
theorem one_same (l:List UInt8) (i:Nat) (hi:i<=l.length):same (oneP l i) (oneD l i):=by
 have h1:=skip_le l i hi
 exact set_same l (l.length+1) (skipW l i) [] (by omega) h1 (skip_stop l i hi)
theorem after_ends (l:List UInt8) (r:Int × Nat × List Te) (h:(after l r).1=0):endsAt l (after l r).2.1=true:=by
 unfold after at h ⊢
 by_cases h1:r.1=0
 ·rw [if_pos h1] at h ⊢
  by_cases h2:endsAt l (skipW l r.2.1)=true
  ·rw [if_pos h2];exact h2
  ·rw [if_neg h2] at h;cases h
 ·rw [if_neg h1] at h;exact absurd h h1
theorem ends_bars (l:List UInt8) (i:Nat) (h:endsAt l i=true):barsAt l i=true ↔ ¬ l.length<=i:=by
 unfold endsAt at h
 rw [Bool.or_eq_true,decide_eq_true_eq] at h
 constructor
 ·intro hb hl
  unfold barsAt at hb
  rw [List.getElem?_eq_none hl] at hb
  simp at hb
 ·intro hn
  exact h.resolve_left hn
theorem bars_lt (l:List UInt8) (i:Nat) (h:barsAt l i=true):i+2<=l.length:=by
 unfold barsAt at h
 rw [Bool.and_eq_true,decide_eq_true_eq,decide_eq_true_eq] at h
 have:=dot_lt h.2
 omega
theorem pset_place (l:List UInt8):∀(f i:Nat) (acc:List Te),i<=l.length->(pset l f i acc).1=0->i<=(pset l f i acc).2.1/\(pset l f i acc).2.1<=l.length
 | 0,i,acc,hi,_=>by unfold pset;exact ⟨Nat.le_refl _,hi⟩
 | f+1,i,acc,hi,h=>by
  have sp:=sign_pos l i hi
  unfold pset at h ⊢
  by_cases h0:l.length<=i\/l[i]?=some 124
  ·rw [if_pos h0];exact ⟨Nat.le_refl _,hi⟩
  ·rw [if_neg h0] at h ⊢
   by_cases hr:(rdPa l (rdSign l i).2).1=0
   ·have pp:=pa_pos l _ sp.2 hr
    have hkl:=skip_le l _ pp.2
    have hkg:=skip_ge l (rdPa l (rdSign l i).2).2.1
    rw [if_pos hr] at h ⊢
    by_cases hbt:((rdSign l i).1 < 0/\acc=[])/\(rdPa l (rdSign l i).2).2.1 < skipW l (rdPa l (rdSign l i).2).2.1/\l[skipW l (rdPa l (rdSign l i).2).2.1]?=some 45
    ·rw [if_pos hbt] at h ⊢
     have h45:=dot_lt hbt.2.2
     by_cases hm:skipW l (skipW l (rdPa l (rdSign l i).2).2.1+1)=skipW l (rdPa l (rdSign l i).2).2.1+1
     ·rw [if_pos hm] at h;cases h
     ·rw [if_neg hm] at h ⊢
      have hk2:=skip_le l (skipW l (rdPa l (rdSign l i).2).2.1+1) (by omega)
      have hk3:=skip_ge l (skipW l (rdPa l (rdSign l i).2).2.1+1)
      by_cases hq:(rdPa l (skipW l (skipW l (rdPa l (rdSign l i).2).2.1+1))).1=0
      ·rw [if_pos hq]
       have:=pa_pos l _ hk2 hq
       simp only []
       omega
      ·rw [if_neg hq] at h;exact absurd h hq
    ·rw [if_neg hbt] at h ⊢
     by_cases hg:(rdPa l (rdSign l i).2).2.1 < skipW l (rdPa l (rdSign l i).2).2.1
     ·rw [if_neg (not_not_intro hg)] at h ⊢
      have:=pset_place l f _ _ hkl h
      omega
     ·rw [if_pos hg]
      simp only []
      omega
   ·rw [if_neg hr] at h;exact absurd h hr
theorem one_place (l:List UInt8) (i:Nat) (hi:i<=l.length) (h:(oneP l i).1=0):i<=(oneP l i).2.1/\(oneP l i).2.1<=l.length:=by
 unfold oneP after at h ⊢
 by_cases h1:(pset l (l.length+1) (skipW l i) []).1=0
 ·rw [if_pos h1] at h ⊢
  have h2:=pset_place l _ _ _ (skip_le l i hi) h1
  have h3:=skip_ge l i
  have h4:=skip_ge l (pset l (l.length+1) (skipW l i) []).2.1
  have h5:=skip_le l _ h2.2
  split <;> (simp only [];omega)
 ·rw [if_neg h1] at h;exact absurd h h1
theorem sets_same (l:List UInt8):∀(f i:Nat) (acc:List (List Te)),i<=l.length->sameS (psets l f i acc) (dsets l f i acc)
 | 0,i,acc,hi=>⟨rfl,rfl,fun _=>rfl⟩
 | f+1,i,acc,hi=>by
  obtain ⟨s1,s2,s3⟩:=one_same l i hi
  unfold psets dsets
  by_cases h:(oneP l i).1=0
  ·have h':(oneD l i).1=0:=by rw [<-s1];exact h
   have he:endsAt l (oneP l i).2.1=true:=after_ends l _ h
   have hb:=ends_bars l _ he
   have hp:=one_place l i hi h
   rw [if_pos h,if_pos h',<-s2,<-s3 h]
   by_cases hl:l.length<=(oneP l i).2.1
   ·rw [if_pos hl,if_neg (fun hb'=>hb.1 hb' hl)]
    exact ⟨rfl,rfl,fun _=>rfl⟩
   ·have hb':=hb.2 hl
    rw [if_neg hl]
    rw [if_pos hb']
    exact sets_same l f _ _ (bars_lt l _ hb')
  ·have h':¬ (oneD l i).1=0:=by rw [<-s1];exact h
   rw [if_neg h,if_neg h',<-s1,<-s2]
   exact ⟨rfl,rfl,fun h0=>absurd h0 h⟩
def rdRange (l:List UInt8):Int × Nat × List (List Te) :=
 if 200 < l.length then (1,0,[]) else if (dsets l (l.length+1) 0 []).1=0 then (0,0,(dsets l (l.length+1) 0 []).2.2) else ((dsets l (l.length+1) 0 []).1,(dsets l (l.length+1) 0 []).2.1,[])
theorem sign_val (l:List UInt8) (i:Nat):-1<=(rdSign l i).1/\(rdSign l i).1<=6:=by
 unfold rdSign
 repeat' split
 all_goals simp
theorem sub_short (l:List UInt8) (i k:Nat):(subT l i k).length<=l.length:=by unfold subT;simp;omega
theorem opt_len (c:UInt8) (st:Bool) (l:List UInt8) (i:Nat):(optP c st l i).2.2.length<=l.length:=by
 unfold optP
 repeat' split
 all_goals first | exact sub_short _ _ _ | exact Nat.zero_le _
theorem tail_len (l:List UInt8) (i:Nat):(tailP l i).2.2.1.length<=l.length:=by
 unfold tailP
 repeat' split
 all_goals first | exact opt_len _ _ _ _ | exact Nat.zero_le _
theorem pa_len (l:List UInt8) (i:Nat):(rdPa l i).2.2.pre.length<=l.length:=by
 unfold rdPa pa1 pa2 pa3
 repeat' split
 all_goals first | exact tail_len _ _ | exact Nat.zero_le _
def admL (ts:List Te) (v:V):Bool:=ts.all fun t=>admB t v
def admS (S:List (List Te)) (v:V):Bool:=S.any fun ts=>admL ts v
theorem admL_snoc (ts:List Te) (t:Te) (v:V):admL (ts++[t]) v=(admL ts v && admB t v):=by unfold admL;simp
theorem admS_snoc (S:List (List Te)) (ts:List Te) (v:V):admS (S++[ts]) v=(admS S v || admL ts v):=by unfold admS;simp
def sgS (g:Sg):Sp:=spV g.fr g.to_ g.op
structure BOk (v:V) (n:Nat):Prop where
 m1:0<=v.major/\v.major<=1000000000
 m2:0<=v.minor/\v.minor<=1000000000
 m3:0<=v.patch/\v.patch<=1000000000
 ok:okParts true v.pre=true
 sm:v.pre.length<=n
theorem BOk.sound {v:V} {n:Nat} (h:BOk v n):okT v=true:=by
 unfold okT soundV
 simp only [Bool.and_eq_true,bound_iff]
 exact ⟨h.m1,h.m2,h.m3,h.ok,rfl⟩
structure GOk (g:Sg) (n:Nat):Prop where
 fr:BOk g.fr n
 to_:g.op=false->BOk g.to_ n
 tn:g.to_.pre.length<=n
theorem ok48:okParts true [48]=true:=by decide
theorem low_b (n:Nat) (hn:1<=n):BOk lowV n:=⟨by decide,by decide,by decide,by decide,by simpa [lowV] using hn⟩
theorem first_b (p:Pa) (hp:PaOk p) (n:Nat) (hn:1<=n) (hl:p.pre.length<=n):BOk (firstV p) n:=by
 have a0:=hp.a0
 have b0:=hp.b0
 have c0:=hp.c0
 refine ⟨⟨a0.1,?_⟩,⟨b0.1,?_⟩,⟨c0.1,?_⟩,?_,?_⟩
 ·show p.a<=_;omega
 ·show p.b<=_;omega
 ·show p.c<=_;omega
 ·show okParts true (if p.n < 3 then [48] else p.pre)=true
  split
  ·exact ok48
  ·exact hp.ok
 ·show (if p.n < 3 then [48] else p.pre).length<=n
  split
  ·exact hn
  ·exact hl
theorem behind_b (p:Pa) (hp:PaOk p) (k:Nat) (n:Nat) (hn:1<=n):BOk (behindV (firstV p) k) n:=by
 have a0:=hp.a0
 have b0:=hp.b0
 have c0:=hp.c0
 unfold behindV
 have e1:(firstV p).major=p.a:=rfl
 have e2:(firstV p).minor=p.b:=rfl
 have e3:(firstV p).patch=p.c:=rfl
 rw [e1,e2,e3]
 split
 ·exact ⟨by simp only [];omega,by simp,by simp,ok48,hn⟩
 ·split
  ·exact ⟨by simp only [];omega,by simp only [];omega,by simp,ok48,hn⟩
  ·exact ⟨by simp only [];omega,by simp only [];omega,by simp only [];omega,ok48,hn⟩
theorem next_b (v:V) (n:Nat) (h1:0<=v.major/\v.major<=1000000000) (h2:0<=v.minor/\v.minor<=1000000000) (h3:0<=v.patch/\v.patch<=999999999) (hk:okParts true v.pre=true) (hn:1<=n) (hl:v.pre.length+2<=n):BOk (nextV v) n:=by
 unfold nextV
 by_cases e:v.pre=[]
 ·rw [if_pos e,if_pos (by omega)]
  exact ⟨h1,h2,by simp only [];omega,ok48,hn⟩
 ·rw [if_neg e]
  refine ⟨h1,h2,by simp only [];omega,?_,by simp only [List.length_append,List.length_cons,List.length_nil];omega⟩
  have h4:=okParts_split hk e
  show okParts true (v.pre++[46,48])=true
  unfold okParts
  rw [show v.pre++[46,48]=v.pre++46 :: [48] from rfl,splitD_app,List.all_append,h4]
  simp only [Bool.true_and,Bool.or_eq_true]
  exact Or.inr (by decide)
theorem alike_g (p:Pa) (hp:PaOk p) (k n:Nat) (hn:1<=n) (hl:p.pre.length<=n):GOk (alikeG p k) n:=by
 unfold alikeG
 split
 ·exact ⟨first_b p hp n hn hl,fun h=>(by cases h),Nat.zero_le _⟩
 ·have:=behind_b p hp k n hn
  exact ⟨first_b p hp n hn hl,fun _=>this,this.sm⟩
theorem named_g (p:Pa) (hp:PaOk p) (n:Nat) (hn:1<=n) (hl:p.pre.length+2<=n):GOk (namedG p) n:=by
 unfold namedG
 have a0:=hp.a0
 have b0:=hp.b0
 have c0:=hp.c0
 split
 ·rename_i h3
  have hf:=first_b p hp n hn (by omega)
  have e:(firstV p).pre=p.pre:=by unfold firstV;rw [if_neg (by omega)]
  have:=next_b (firstV p) n hf.m1 hf.m2 ⟨hf.m3.1,by show p.c<=_;omega⟩ hf.ok hn (by rw [e];exact hl)
  exact ⟨hf,fun _=>this,this.sm⟩
 ·exact alike_g p hp p.n n hn (by omega)
theorem sign_g (s:Int) (p:Pa) (hp:PaOk p) (n:Nat) (hn:1<=n) (hl:p.pre.length+2<=n):GOk (signG s p) n:=by
 have hlow:=low_b n hn
 have hf:=first_b p hp n hn (by omega)
 have hN:=named_g p hp n hn hl
 unfold signG
 split
 ·exact hN
 ·split
  ·exact ⟨hf,fun h=>(by cases h),Nat.zero_le _⟩
  ·split
   ·exact ⟨hlow,hN.to_,hN.tn⟩
   ·split
    ·split
     ·exact ⟨hlow,fun _=>hlow,hlow.sm⟩
     ·rename_i hop
      have hb:=hN.to_ (by simpa using hop)
      exact ⟨hb,fun h=>(by cases h),Nat.zero_le _⟩
    ·split
     ·exact ⟨hlow,fun _=>hf,hf.sm⟩
     ·split
      ·exact alike_g p hp _ n hn (by omega)
      ·exact alike_g p hp _ n hn (by omega)
theorem between_g (p q:Pa) (hp:PaOk p) (hq:PaOk q) (n:Nat) (hn:1<=n) (hl:p.pre.length<=n) (hl2:q.pre.length+2<=n):GOk (betweenG p q) n:=by
 have hN:=named_g q hq n hn hl2
 exact ⟨first_b p hp n hn hl,hN.to_,hN.tn⟩
theorem GOk.sound {g:Sg} {n:Nat} (h:GOk g n):soundS (sgS g)=true:=by
 have hv:vFrom (sgS g)=⟨g.fr.major,g.fr.minor,g.fr.patch,g.fr.pre,[]⟩:=by simp [vFrom,sgS,spV]
 have hw:vTo (sgS g)=⟨g.to_.major,g.to_.minor,g.to_.patch,g.to_.pre,[]⟩:=by simp [vTo,sgS,spV]
 have h1:=h.fr.sound
 unfold okT at h1
 unfold soundS
 rw [hv,hw,h1]
 show (true && (g.op || _))=true
 cases ho:g.op with
 | true=>rfl
 | false =>
  have h2:=(h.to_ ho).sound
  unfold okT at h2
  rw [h2];rfl
theorem GOk.small {g:Sg} {n:Nat} (h:GOk g n) (hn:n<=1048576):smallS (sgS g):=by
 have h1:=h.fr.sm
 have h2:=h.tn
 refine ⟨?_,?_,?_,?_⟩
 ·show g.fr.pre.toArray.size<=_;simp;omega
 ·show (0:Nat)<=_;omega
 ·show g.to_.pre.toArray.size<=_;simp;omega
 ·show (0:Nat)<=_;omega
theorem sgS_has (g:Sg) (v:V):hasS (sgS g) v=hasG g v:=by
 unfold hasS hasG
 rw [show cFrom (sgS g)=g.fr from cFrom_spV _ _ _,show cTo (sgS g)=g.to_ from cTo_spV _ _ _]
 rfl
structure LOk (L:List Sp) (k:Nat):Prop where
 sd:L.all soundS=true
 sm:∀s ∈ L,smallS s
 ln:L.length<=k
theorem LOk.one {g:Sg} {n:Nat} (h:GOk g n) (hn:n<=1048576):LOk [sgS g] 1:=⟨by simp [h.sound],by intro s hs;simp at hs;subst hs;exact h.small hn,Nat.le_refl _⟩
theorem LOk.app {L M:List Sp} {j k:Nat} (h:LOk L j) (h':LOk M k):LOk (L++M) (j+k) :=
 ⟨by rw [List.all_append,h.sd,h'.sd];rfl,fun s hs=>(List.mem_append.1 hs).elim (h.sm s) (h'.sm s),by have:=h.ln;have:=h'.ln;rw [List.length_append];omega⟩
theorem LOk.mono {L:List Sp} {j k:Nat} (h:LOk L j) (hk:j<=k):LOk L k:=⟨h.sd,h.sm,Nat.le_trans h.ln hk⟩
theorem holds_app (L M:List Sp) (v:V):holdsL (L++M) v=(holdsL L v || holdsL M v):=by unfold holdsL;simp
theorem holds_one (g:Sg) (v:V):holdsL [sgS g] v=hasG g v:=by unfold holdsL;simp [sgS_has]
def Has (L:List Sp) (f:V->Bool):Prop:=∀v,VOk v->holdsL L v=f v
end Go.Proofs.YtonfldbigenfhaaGreatDoor
