import Derived.Test.YtonfldbigenfhaaGreatDoorM23
namespace Go.Proofs.YtonfldbigenfhaaGreatDoor
set_option linter.unusedVariables false
def Wc (c:UInt8):Prop:=c=42\/c=120\/c=88
def Nn (a:Int):Prop:=0<=a/\a<=999999999
inductive PT:List UInt8->Pa->Prop
 | w0 (x:UInt8) (hx:Wc x):PT [x] pa0
 | n1 (a:Int) (ha:Nn a):PT (Lib.itoa a) ⟨1,a,0,0,[]⟩
 | w1 (a:Int) (x:UInt8) (ha:Nn a) (hx:Wc x):PT (Lib.itoa a++[46,x]) ⟨1,a,0,0,[]⟩
 | n2 (a b:Int) (ha:Nn a) (hb:Nn b):PT (Lib.itoa a++46 :: Lib.itoa b) ⟨2,a,b,0,[]⟩
 | w2 (a b:Int) (x:UInt8) (ha:Nn a) (hb:Nn b) (hx:Wc x):PT (Lib.itoa a++46 :: (Lib.itoa b++[46,x])) ⟨2,a,b,0,[]⟩
 | n3 (a b c:Int) (p q:List UInt8) (ha:Nn a) (hb:Nn b) (hc:Nn c) (hp:okParts true p=true) (hq:okParts false q=true) :
   PT (Lib.itoa a++46 :: (Lib.itoa b++46 :: (Lib.itoa c++(optT 45 p++optT 43 q)))) ⟨3,a,b,c,p⟩
def Stop (r:List UInt8):Prop:=∀x t,r=x :: t->x=32\/x=124
theorem dec_cons (u:Nat):∃d t,Lib.decDigits u=d :: t/\isD d=true:=by
 have h1:=dec_ne u
 have h2:=dec_all u
 cases h:Lib.decDigits u with
 | nil=>exact absurd h h1
 | cons d t=>rw [h,List.all_cons,Bool.and_eq_true] at h2;exact ⟨d,t,rfl,h2.1⟩
theorem itoa_cons {a:Int} (ha:Nn a):∃d t,Lib.itoa a=d :: t/\isD d=true:=by rw [itoa_dec ha.1];exact dec_cons _
theorem isD_ne {d:UInt8} (h:isD d=true) (c:UInt8) (hc:isD c=false):d ≠ c:=fun e=>by rw [e,hc] at h;cases h
theorem at_drop (l:List UInt8) (i:Nat):l[i]?=(l.drop i)[0]?:=by rw [List.getElem?_drop];rfl
theorem wild_not {l:List UInt8} {i:Nat} {d:UInt8} {t:List UInt8} (h:l.drop i=d :: t) (hd:isD d=true):wildAt l i=false:=by
 have e:l[i]?=some d:=by rw [at_drop,h];rfl
 unfold wildAt
 rw [e]
 have h1:=isD_ne hd 42 (by decide)
 have h2:=isD_ne hd 120 (by decide)
 have h3:=isD_ne hd 88 (by decide)
 simp [h1,h2,h3]
theorem wild_is {l:List UInt8} {i:Nat} {x:UInt8} {t:List UInt8} (h:l.drop i=x :: t) (hx:Wc x):wildAt l i=true:=by
 have e:l[i]?=some x:=by rw [at_drop,h];rfl
 unfold wildAt
 rw [e]
 rcases hx with rfl | rfl | rfl <;> simp
theorem num_give {l r:List UInt8} {i:Nat} {a:Int} (ha:Nn a) (hd:l.drop i=Lib.itoa a++r) (hr:∀c t,r=c :: t->isD c=false) :
  rdNum l i=(0,a,i+(Lib.itoa a).length)/\l.drop (i+(Lib.itoa a).length)=r/\wildAt l i=false:=by
 obtain ⟨d,t,e,hdd⟩:=itoa_cons ha
 have hw:wildAt l i=false:=wild_not (by rw [hd,e];rfl) hdd
 rw [itoa_dec ha.1] at hd ⊢
 have h1:=rdNum_dec l r i a.toNat (by have:=ha.2;omega) hd hr
 rw [Int.toNat_of_nonneg ha.1] at h1
 refine ⟨h1,?_,hw⟩
 rw [<-List.drop_drop,hd];simp
theorem stop_isD {r:List UInt8} (h:Stop r):∀c t,r=c :: t->isD c=false:=by
 intro c t e
 rcases h c t e with rfl | rfl <;> decide
theorem stop_at {l r:List UInt8} {i:Nat} (h:Stop r) (hd:l.drop i=r) (c:UInt8) (h1:c ≠ 32) (h2:c ≠ 124):¬ l[i]?=some c:=by
 rw [at_drop,hd]
 cases r with
 | nil=>simp
 | cons x t =>
  rcases h x t rfl with rfl | rfl
  ·simpa using fun e=>h1 e.symm
  ·simpa using fun e=>h2 e.symm
theorem dot_first {r:List UInt8}:∀c t,(46 :: r:List UInt8)=c :: t->isD c=false:=by
 intro c t e
 injection e with e1
 rw [<-e1];decide
theorem tail_give {l r p q:List UInt8} {i:Nat} (hd:l.drop i=optT 45 p++(optT 43 q++r)) (hp:okParts true p=true) (hq:okParts false q=true) (hr:Stop r) :
  tailP l i=(0,i+(optT 45 p).length+(optT 43 q).length,p,q):=by
 obtain ⟨e1,d1⟩:=opt_give 45 true l p (optT 43 q++r) i hd hp (by
  intro x t e
  unfold optT at e
  split at e
  ·rcases hr x t e with rfl | rfl <;> decide
  ·injection e with e1
   rw [<-e1];decide)
 obtain ⟨e2,d2⟩:=opt_give 43 false l q r _ d1 hq (by
  intro x t e
  rcases hr x t e with rfl | rfl <;> decide)
 unfold tailP
 rw [e1]
 simp only [if_true]
 rw [e2]
 simp only [if_true]
theorem opt_isD (p q r:List UInt8) (hr:Stop r):∀c t,optT 45 p++(optT 43 q++r)=c :: t->isD c=false:=by
 intro c t e
 unfold optT at e
 split at e
 ·split at e
  ·exact stop_isD hr c t e
  ·injection e with e1
   rw [<-e1];decide
 ·injection e with e1
  rw [<-e1];decide
theorem pa_give {y:List UInt8} {p:Pa} (h:PT y p) (l r:List UInt8) (i:Nat) (hd:l.drop i=y++r) (hr:Stop r):rdPa l i=(0,i+y.length,p):=by
 cases h with
 | w0 x hx =>
  unfold rdPa
  rw [if_pos (wild_is hd hx)];rfl
 | n1 a ha =>
  obtain ⟨e1,d1,w1⟩:=num_give ha hd (stop_isD hr)
  unfold rdPa
  rw [w1,e1]
  simp only [Bool.false_eq_true,if_false,if_true]
  unfold pa1
  rw [if_neg (stop_at hr d1 46 (by decide) (by decide))]
 | w1 a x ha hx =>
  rw [List.append_assoc] at hd
  obtain ⟨e1,d1,w1⟩:=num_give ha hd dot_first
  obtain ⟨d2,g1⟩:=drop_one d1
  unfold rdPa
  rw [w1,e1]
  simp only [Bool.false_eq_true,if_false,if_true]
  unfold pa1
  rw [if_pos g1,if_pos (wild_is d2 hx)]
  simp;omega
 | n2 a b ha hb =>
  rw [List.append_assoc] at hd
  obtain ⟨e1,d1,w1⟩:=num_give ha hd dot_first
  obtain ⟨d2,g1⟩:=drop_one d1
  obtain ⟨e2,d3,w2⟩:=num_give hb d2 (stop_isD hr)
  unfold rdPa
  rw [w1,e1]
  simp only [Bool.false_eq_true,if_false,if_true]
  unfold pa1
  rw [if_pos g1,w2,e2]
  simp only [Bool.false_eq_true,if_false,if_true]
  unfold pa2
  rw [if_neg (stop_at hr d3 46 (by decide) (by decide))]
  simp;omega
 | w2 a b x ha hb hx =>
  simp only [List.append_assoc,List.cons_append,List.nil_append] at hd
  obtain ⟨e1,d1,w1⟩:=num_give ha hd dot_first
  obtain ⟨d2,g1⟩:=drop_one d1
  obtain ⟨e2,d3,w2⟩:=num_give hb d2 dot_first
  obtain ⟨d4,g2⟩:=drop_one d3
  unfold rdPa
  rw [w1,e1]
  simp only [Bool.false_eq_true,if_false,if_true]
  unfold pa1
  rw [if_pos g1,w2,e2]
  simp only [Bool.false_eq_true,if_false,if_true]
  unfold pa2
  rw [if_pos g2,if_pos (wild_is d4 hx)]
  simp;omega
 | n3 a b c p q ha hb hc hp hq =>
  simp only [List.append_assoc,List.cons_append] at hd
  obtain ⟨e1,d1,w1⟩:=num_give ha hd dot_first
  obtain ⟨d2,g1⟩:=drop_one d1
  obtain ⟨e2,d3,w2⟩:=num_give hb d2 dot_first
  obtain ⟨d4,g2⟩:=drop_one d3
  obtain ⟨e3,d5,w3⟩:=num_give hc d4 (opt_isD p q r hr)
  have e4:=tail_give d5 hp hq hr
  unfold rdPa
  rw [w1,e1]
  simp only [Bool.false_eq_true,if_false,if_true]
  unfold pa1
  rw [if_pos g1,w2,e2]
  simp only [Bool.false_eq_true,if_false,if_true]
  unfold pa2
  rw [if_pos g2,w3,e3]
  simp only [Bool.false_eq_true,if_false,if_true]
  unfold pa3
  rw [e4]
  simp;omega
theorem wild_take {l:List UInt8} {i:Nat} (h:wildAt l i=true):∃x,Wc x/\l.drop i=x :: l.drop (i+1):=by
 unfold wildAt at h
 simp only [Bool.or_eq_true,decide_eq_true_eq] at h
 rcases h with h | h | h
 ·exact ⟨42,Or.inl rfl,(drop_cons h).1⟩
 ·exact ⟨120,Or.inr (Or.inl rfl),(drop_cons h).1⟩
 ·exact ⟨88,Or.inr (Or.inr rfl),(drop_cons h).1⟩
theorem tail_take {l:List UInt8} {i:Nat} (hi:i<=l.length) (h:(tailP l i).1=0) :
  ∃q,okParts true (tailP l i).2.2.1=true/\okParts false q=true/\l.drop i=optT 45 (tailP l i).2.2.1++(optT 43 q++l.drop (tailP l i).2.1):=by
 unfold tailP at h ⊢
 by_cases h1:(optP 45 true l i).1=0
 ·rw [if_pos h1] at h ⊢
  obtain ⟨a1,a2,a3⟩:=opt_take 45 true l i hi h1
  by_cases h2:(optP 43 false l (optP 45 true l i).2.1).1=0
  ·rw [if_pos h2] at h ⊢
   obtain ⟨b1,b2,b3⟩:=opt_take 43 false l _ a1 h2
   exact ⟨(optP 43 false l (optP 45 true l i).2.1).2.2,a3,b3,by rw [<-b2];exact a2⟩
  ·rw [if_neg h2] at h;exact absurd h h2
 ·rw [if_neg h1] at h;exact absurd h h1
theorem pa_take (l:List UInt8) (i:Nat) (hi:i<=l.length) (h:(rdPa l i).1=0):∃y,PT y (rdPa l i).2.2/\l.drop i=y++l.drop (rdPa l i).2.1:=by
 unfold rdPa at h ⊢
 by_cases w0:wildAt l i=true
 ·rw [if_pos w0]
  obtain ⟨x,hx,d⟩:=wild_take w0
  exact ⟨[x],PT.w0 x hx,d⟩
 ·rw [if_neg w0] at h ⊢
  by_cases n1:(rdNum l i).1=0
  ·rw [if_pos n1] at h ⊢
   obtain ⟨a1,a2,a3⟩:=num_take l i hi n1
   unfold pa1 at h ⊢
   by_cases g1:l[(rdNum l i).2.2]?=some 46
   ·obtain ⟨c1,c2⟩:=drop_cons g1
    rw [if_pos g1] at h ⊢
    by_cases w1:wildAt l ((rdNum l i).2.2+1)=true
    ·rw [if_pos w1]
     obtain ⟨x,hx,d⟩:=wild_take w1
     exact ⟨_,PT.w1 _ x a3 hx,by rw [a2,c1,d];simp⟩
    ·rw [if_neg w1] at h ⊢
     by_cases n2:(rdNum l ((rdNum l i).2.2+1)).1=0
     ·rw [if_pos n2] at h ⊢
      obtain ⟨b1,b2,b3⟩:=num_take l _ c2 n2
      unfold pa2 at h ⊢
      by_cases g2:l[(rdNum l ((rdNum l i).2.2+1)).2.2]?=some 46
      ·obtain ⟨c3,c4⟩:=drop_cons g2
       rw [if_pos g2] at h ⊢
       by_cases w2:wildAt l ((rdNum l ((rdNum l i).2.2+1)).2.2+1)=true
       ·rw [if_pos w2]
        obtain ⟨x,hx,d⟩:=wild_take w2
        exact ⟨_,PT.w2 _ _ x a3 b3 hx,by rw [a2,c1,b2,c3,d];simp⟩
       ·rw [if_neg w2] at h ⊢
        by_cases n3:(rdNum l ((rdNum l ((rdNum l i).2.2+1)).2.2+1)).1=0
        ·rw [if_pos n3] at h ⊢
         obtain ⟨d1,d2,d3⟩:=num_take l _ c4 n3
         unfold pa3 at h ⊢
         by_cases t1:(tailP l (rdNum l ((rdNum l ((rdNum l i).2.2+1)).2.2+1)).2.2).1=0
         ·rw [if_pos t1]
          obtain ⟨q,q1,q2,q3⟩:=tail_take d1 t1
          exact ⟨_,PT.n3 _ _ _ _ q a3 b3 d3 q1 q2,by rw [a2,c1,b2,c3,d2,q3];simp⟩
         ·rw [if_neg t1] at h;exact absurd h t1
        ·rw [if_neg n3] at h;exact absurd h n3
      ·rw [if_neg g2]
       exact ⟨_,PT.n2 _ _ a3 b3,by rw [a2,c1,b2];simp⟩
     ·rw [if_neg n2] at h;exact absurd h n2
   ·rw [if_neg g1]
    exact ⟨_,PT.n1 _ a3,a2⟩
  ·rw [if_neg n1] at h;exact absurd h n1
inductive SgT:List UInt8->Int->Prop
 | none:SgT [] (-1)
 | eq:SgT [61] 0
 | ge:SgT [62,61] 1
 | le:SgT [60,61] 2
 | gt:SgT [62] 3
 | lt:SgT [60] 4
 | ca:SgT [94] 5
 | ti:SgT [126] 6
def Fst (x:UInt8):Prop:=isD x=true\/Wc x
theorem pt_head {y:List UInt8} {p:Pa} (h:PT y p):∃x t,y=x :: t/\Fst x:=by
 cases h with
 | w0 x hx=>exact ⟨x,[],rfl,Or.inr hx⟩
 | n1 a ha=>obtain ⟨d,t,e,h⟩:=itoa_cons ha;exact ⟨d,t,e,Or.inl h⟩
 | w1 a x ha hx=>obtain ⟨d,t,e,h⟩:=itoa_cons ha;exact ⟨d,_,by rw [e];rfl,Or.inl h⟩
 | n2 a b ha hb=>obtain ⟨d,t,e,h⟩:=itoa_cons ha;exact ⟨d,_,by rw [e];rfl,Or.inl h⟩
 | w2 a b x ha hb hx=>obtain ⟨d,t,e,h⟩:=itoa_cons ha;exact ⟨d,_,by rw [e];rfl,Or.inl h⟩
 | n3 a b c p q ha hb hc hp hq=>obtain ⟨d,t,e,h⟩:=itoa_cons ha;exact ⟨d,_,by rw [e];rfl,Or.inl h⟩
theorem fst_ne {x:UInt8} (h:Fst x) (c:UInt8) (h0:isD c=false) (h1:c ≠ 42) (h2:c ≠ 120) (h3:c ≠ 88):x ≠ c:=by
 rcases h with h | rfl | rfl | rfl
 ·exact isD_ne h c h0
 ·exact h1.symm
 ·exact h2.symm
 ·exact h3.symm
theorem sign_give {u z:List UInt8} {s:Int} (h:SgT u s) (l:List UInt8) (i:Nat) (hd:l.drop i=u++z) (hz:∃x t,z=x :: t/\Fst x):rdSign l i=(s,i+u.length):=by
 obtain ⟨x,t,rfl,hx⟩:=hz
 have n61:=fst_ne hx 61 (by decide) (by decide) (by decide) (by decide)
 have n62:=fst_ne hx 62 (by decide) (by decide) (by decide) (by decide)
 have n60:=fst_ne hx 60 (by decide) (by decide) (by decide) (by decide)
 have n94:=fst_ne hx 94 (by decide) (by decide) (by decide) (by decide)
 have n126:=fst_ne hx 126 (by decide) (by decide) (by decide) (by decide)
 have e0:l[i]?=(u++x :: t)[0]?:=by rw [at_drop,hd]
 have e1:l[i+1]?=(u++x :: t)[1]?:=by rw [<-hd,List.getElem?_drop]
 unfold rdSign
 rw [e0,e1]
 cases h <;> simp [n61,n62,n60,n94,n126]
theorem sign_take (l:List UInt8) (i:Nat):∃u,SgT u (rdSign l i).1/\l.drop i=u++l.drop (rdSign l i).2:=by
 unfold rdSign
 split
 ·rename_i h1
  have d1:=(drop_cons h1).1
  split
  ·rename_i h2
   have d2:=(drop_cons h2).1
   exact ⟨_,SgT.ge,by rw [d1,d2];rfl⟩
  ·exact ⟨_,SgT.gt,by rw [d1];rfl⟩
 ·split
  ·rename_i h1
   have d1:=(drop_cons h1).1
   split
   ·rename_i h2
    have d2:=(drop_cons h2).1
    exact ⟨_,SgT.le,by rw [d1,d2];rfl⟩
   ·exact ⟨_,SgT.lt,by rw [d1];rfl⟩
  ·split
   ·rename_i h1
    exact ⟨_,SgT.eq,by rw [(drop_cons h1).1];rfl⟩
   ·split
    ·rename_i h1
     exact ⟨_,SgT.ca,by rw [(drop_cons h1).1];rfl⟩
    ·split
     ·rename_i h1
      exact ⟨_,SgT.ti,by rw [(drop_cons h1).1];rfl⟩
     ·exact ⟨_,SgT.none,rfl⟩
theorem sgt_none {u:List UInt8} {s:Int} (h:SgT u s) (hs:s < 0):u=[]:=by cases h <;> first | rfl | (exfalso;revert hs;decide)
def TT (y:List UInt8) (s:Int) (t:Te):Prop:=∃u z p,SgT u s/\PT z p/\y=u++z/\t=⟨signOr s,p⟩
def bl (g:Nat):List UInt8:=List.replicate g 32
inductive SetT:List UInt8->List Te->Prop
 | nil:SetT [] []
 | last (y:List UInt8) (s:Int) (t:Te) (g:Nat) (h:TT y s t):SetT (y++bl g) [t]
 | cons (y:List UInt8) (s:Int) (t:Te) (g:Nat) (z:List UInt8) (ts:List Te) (h:TT y s t) (hz:SetT z ts) (hn:z ≠ []):SetT (y++(bl (g+1)++z)) (t :: ts)
def BT (x:List UInt8) (ts:List Te):Prop:=∃y z p q g h k,PT y p/\PT z q/\x=y++(bl (g+1)++45 :: (bl (h+1)++(z++bl k)))/\ts=[⟨7,p⟩,⟨2,q⟩]
def OneT (x:List UInt8) (ts:List Te):Prop:=∃g z,x=bl g++z/\(SetT z ts\/BT z ts)
inductive RT:List UInt8->List (List Te)->Prop
 | one (x:List UInt8) (ts:List Te) (h:OneT x ts):RT x [ts]
 | more (x:List UInt8) (ts:List Te) (y:List UInt8) (S:List (List Te)) (h:OneT x ts) (hy:RT y S):RT (x++124 :: 124 :: y) (ts :: S)
def SEnd (r:List UInt8):Prop:=r=[]\/∃t,r=124 :: 124 :: t
theorem SEnd.stop {r:List UInt8} (h:SEnd r):Stop r:=by
 intro x t e
 rcases h with h | ⟨u,h⟩
 ·rw [h] at e;cases e
 ·rw [h] at e;injection e with e1;exact Or.inr e1.symm
theorem send_ends {l r:List UInt8} {i:Nat} (hi:i<=l.length) (hd:l.drop i=r) (h:SEnd r):endsAt l i=true:=by
 unfold endsAt
 rcases h with h | ⟨t,h⟩
 ·rw [h,List.drop_eq_nil_iff] at hd
  simp [hd]
 ·rw [h] at hd
  obtain ⟨d1,e1⟩:=drop_one hd
  obtain ⟨d2,e2⟩:=drop_one d1
  unfold barsAt
  simp [e1,e2]
theorem skip_give {l r:List UInt8} {i g:Nat} (hd:l.drop i=bl g++r) (hr:∀x t,r=x :: t->x ≠ 32):skipW l i=i+g/\l.drop (i+g)=r:=by
 obtain ⟨h1,h2,h3,h4⟩:=run_of isSp l (bl g) r i hd (by simp [bl,isSp]) (fun c t e=>by simpa [isSp] using hr c t e)
 have hl:(bl g).length=g:=by simp [bl]
 rw [hl] at h1 h4
 exact ⟨by unfold skipW;rw [h1],h4⟩
theorem skip_take (l:List UInt8) (i:Nat):∃g,skipW l i=i+g/\l.drop i=bl g++l.drop (i+g):=by
 refine ⟨runN isSp l i,rfl,?_⟩
 have h1:=@sub_drop l i (runN isSp l i)
 have h2:subT l i (runN isSp l i)=bl (runN isSp l i):=by
  have h3:=sub_all isSp l i
  rw [bl,List.eq_replicate_iff]
  refine ⟨?_,fun b hb=>?_⟩
  ·rw [subT_run];rfl
  ·have:=List.all_eq_true.1 h3 b hb
   simpa [isSp] using this
 rw [h2] at h1
 exact h1
theorem tt_head {y:List UInt8} {s:Int} {t:Te} (h:TT y s t):∃x u,y=x :: u/\x ≠ 32/\x ≠ 124/\x ≠ 45:=by
 obtain ⟨u,z,p,hu,hz,rfl,rfl⟩:=h
 obtain ⟨x,v,rfl,hx⟩:=pt_head hz
 have n1:=fst_ne hx 32 (by decide) (by decide) (by decide) (by decide)
 have n2:=fst_ne hx 124 (by decide) (by decide) (by decide) (by decide)
 have n3:=fst_ne hx 45 (by decide) (by decide) (by decide) (by decide)
 cases hu
 ·exact ⟨x,v,rfl,n1,n2,n3⟩
 all_goals exact ⟨_,_,rfl,by decide,by decide,by decide⟩
theorem set_head {z:List UInt8} {ts:List Te} (h:SetT z ts):z=[]/\ts=[]\/∃x u,z=x :: u/\x ≠ 32/\x ≠ 124/\x ≠ 45:=by
 cases h with
 | nil=>exact Or.inl ⟨rfl,rfl⟩
 | last y s t g h=>obtain ⟨x,u,rfl,h1⟩:=tt_head h;exact Or.inr ⟨x,_,rfl,h1⟩
 | cons y s t g z ts h hz hn=>obtain ⟨x,u,rfl,h1⟩:=tt_head h;exact Or.inr ⟨x,_,rfl,h1⟩
theorem ends_not {l:List UInt8} {i:Nat} {x:UInt8} {u:List UInt8} (hd:l.drop i=x :: u) (hx:x ≠ 124):¬ endsAt l i=true:=by
 obtain ⟨d1,e1⟩:=drop_one hd
 have:=dot_lt e1
 unfold endsAt barsAt
 rw [e1]
 simp [hx];omega
theorem tt_read {y:List UInt8} {s:Int} {t:Te} (h:TT y s t) {l r:List UInt8} {i:Nat} (hd:l.drop i=y++r) (hr:Stop r):∃j,rdSign l i=(s,j)/\rdPa l j=(0,i+y.length,t.p)/\t.sign=signOr s/\¬ endsAt l i=true/\l.drop (i+y.length)=r/\0 < y.length:=by
 obtain ⟨x,v,e,-,h124,-⟩:=tt_head h
 obtain ⟨u,z,p,hu,hz,rfl,rfl⟩:=h
 have hz':=pt_head hz
 obtain ⟨x',v',ez,hx'⟩:=hz'
 rw [List.append_assoc] at hd
 have e1:=sign_give hu l i hd ⟨x',v'++r,by rw [ez];rfl,hx'⟩
 have d1:l.drop (i+u.length)=z++r:=by rw [<-List.drop_drop,hd];simp
 have e2:=pa_give hz l r _ d1 hr
 refine ⟨_,e1,?_,rfl,?_,?_,?_⟩
 ·rw [e2,List.length_append,Nat.add_assoc]
 ·refine ends_not (x:=x) (u:=v++r) ?_ h124
  rw [hd,<-List.append_assoc,e];rfl
 ·rw [List.length_append,<-Nat.add_assoc,<-List.drop_drop,d1];simp
 ·rw [e];simp
theorem stop_bl (g:Nat) (r:List UInt8) (hr:Stop r):Stop (bl g++r):=by
 intro x t e
 cases g with
 | zero=>exact hr x t e
 | succ g=>simp only [bl,List.replicate_succ,List.cons_append] at e;injection e with e1;exact Or.inl e1.symm
theorem stop_bl1 (g:Nat) (r:List UInt8):Stop (bl (g+1)++r):=by
 intro x t e
 simp only [bl,List.replicate_succ,List.cons_append] at e
 injection e with e1;exact Or.inl e1.symm
theorem drop_le {l:List UInt8} {i:Nat} {x:UInt8} {u:List UInt8} (hd:l.drop i=x :: u):i < l.length:=dot_lt (drop_one hd).2
theorem dset_give {x:List UInt8} {ts:List Te} (h:SetT x ts):∀(l r:List UInt8) (f i:Nat) (acc:List Te),l.drop i=x++r->i<=l.length->SEnd r->l.length < f+i->dset l f i acc=(0,i+x.length,acc++ts):=by
 induction h with
 | nil =>
  intro l r f i acc hd hi hr hf
  cases f with
  | zero=>omega
  | succ f =>
   unfold dset
   rw [if_pos (send_ends hi hd hr)]
   simp
 | last y s t g h =>
  intro l r f i acc hd hi hr hf
  rw [List.append_assoc] at hd
  obtain ⟨j,e1,e2,e3,e4,d1,hy⟩:=tt_read h hd (stop_bl g r hr.stop)
  obtain ⟨k1,k2⟩:=skip_give d1 (fun x t e=>by rcases hr.stop x t e with rfl | rfl <;> first | decide | (exfalso;rcases hr with hr | ⟨u,hr⟩ <;> rw [hr] at e <;> simp at e))
  have hn:i+y.length+g<=l.length:=by
   have:=congrArg List.length hd
   simp [bl] at this
   omega
  have he:=send_ends hn k2 hr
  cases f with
  | zero=>omega
  | succ f =>
   unfold dset
   rw [if_neg e4,e1]
   simp only []
   rw [e2]
   simp only [if_true,k1]
   rw [if_neg (fun hh=>stop_at hr.stop k2 45 (by decide) (by decide) hh.2.2),if_neg (fun hh=>hh.2 he)]
   cases f with
   | zero=>omega
   | succ f =>
    unfold dset
    rw [if_pos he]
    have:t=⟨signOr s,t.p⟩:=by rw [<-e3]
    rw [<-this]
    simp [bl];omega
 | cons y s t g z ts h hz hn ih =>
  intro l r f i acc hd hi hr hf
  rw [List.append_assoc,List.append_assoc] at hd
  obtain ⟨j,e1,e2,e3,e4,d1,hy⟩:=tt_read h hd (stop_bl1 g _)
  obtain ⟨x,u,ez,h32,h124,h45⟩:=(set_head hz).resolve_left (fun hh=>hn hh.1)
  obtain ⟨k1,k2⟩:=skip_give d1 (fun x' t' e=>by rw [ez] at e;injection e with e5;rw [<-e5];exact h32)
  have hlt:i+y.length+(g+1) < l.length:=drop_le (x:=x) (u:=u++r) (by rw [k2,ez];rfl)
  cases f with
  | zero=>omega
  | succ f =>
   unfold dset
   rw [if_neg e4,e1]
   simp only []
   rw [e2]
   simp only [if_true,k1]
   rw [if_neg (fun hh=>by
    have h2:=hh.2.2
    rw [at_drop,k2,ez] at h2
    exact h45 (by simpa using h2)),if_neg (fun hh=>hh.1 (by omega))]
   rw [ih l r f _ _ k2 (by omega) hr (by omega)]
   have:t=⟨signOr s,t.p⟩:=by rw [<-e3]
   rw [<-this]
   simp [bl];omega
theorem bt_give {x:List UInt8} {ts:List Te} (h:BT x ts) (l r:List UInt8) (f i:Nat) (hd:l.drop i=x++r) (hi:i<=l.length) (hr:SEnd r) (hf:0 < f):dset l f i []=(0,i+x.length,ts):=by
 obtain ⟨y,z,p,q,g,h,k,hy,hz,rfl,rfl⟩:=h
 simp only [List.append_assoc,List.cons_append] at hd
 have ht:TT y (-1) ⟨signOr (-1),p⟩:=⟨[],y,p,SgT.none,hy,rfl,rfl⟩
 obtain ⟨j,e1,e2,e3,e4,d1,hyl⟩:=tt_read ht hd (stop_bl1 g _)
 obtain ⟨k1,k2⟩:=skip_give d1 (fun x t e=>by injection e with e5;rw [<-e5];decide)
 obtain ⟨d2,g2⟩:=drop_one k2
 obtain ⟨x',v',ez,hx'⟩:=pt_head hz
 obtain ⟨k3,k4⟩:=skip_give d2 (fun x t e=>by rw [ez] at e;injection e with e5;rw [<-e5];exact fst_ne hx' 32 (by decide) (by decide) (by decide) (by decide))
 have e5:=pa_give hz l _ _ k4 (stop_bl k r hr.stop)
 have d5:l.drop (i+y.length+(g+1)+1+(h+1)+z.length)=bl k++r:=by rw [<-List.drop_drop,k4];simp
 obtain ⟨k5,k6⟩:=skip_give d5 (fun x t e=>by rcases hr.stop x t e with rfl | rfl <;> first | decide | (exfalso;rcases hr with hr | ⟨u,hr⟩ <;> rw [hr] at e <;> simp at e))
 have hn:i+y.length+(g+1)+1+(h+1)+z.length+k<=l.length:=by
  have:=congrArg List.length hd
  simp [bl] at this
  omega
 have he:=send_ends hn k6 hr
 cases f with
 | zero=>omega
 | succ f =>
  unfold dset
  rw [if_neg e4,e1]
  simp only []
  rw [e2]
  simp only [if_true,k1]
  rw [if_pos ⟨⟨by decide,trivial⟩,by omega,g2⟩,k3,if_neg (by omega),e5]
  simp only [if_true,k5]
  rw [if_pos he]
  simp [bl];omega
theorem one_give {x:List UInt8} {ts:List Te} (h:OneT x ts) (l r:List UInt8) (i:Nat) (hd:l.drop i=x++r) (hi:i<=l.length) (hr:SEnd r):oneD l i=(0,i+x.length,ts):=by
 obtain ⟨g,z,rfl,h⟩:=h
 rw [List.append_assoc] at hd
 have hn:i+g<=l.length:=by
  have:=congrArg List.length hd
  simp [bl] at this
  omega
 have hh:∀x t,z++r=x :: t->x ≠ 32:=by
  intro x t e
  have h0:∀x t,r=x :: t->x ≠ 32:=fun x t e=>by
   rcases hr with hr | ⟨u,hr⟩
   ·rw [hr] at e;cases e
   ·rw [hr] at e;injection e with e5;rw [<-e5];decide
  rcases h with h | ⟨y,z',p,q,g',h',k,hy,hz,rfl,-⟩
  ·rcases set_head h with ⟨e1,-⟩ | ⟨x',u,e1,h1,-⟩
   ·rw [e1] at e;exact h0 x t e
   ·rw [e1] at e;injection e with e5;rw [<-e5];exact h1
  ·obtain ⟨x',v',ez,hx'⟩:=pt_head hy
   rw [ez] at e;injection e with e5;rw [<-e5];exact fst_ne hx' 32 (by decide) (by decide) (by decide) (by decide)
 obtain ⟨k1,k2⟩:=skip_give hd hh
 unfold oneD
 rw [k1]
 rcases h with h | h
 ·rw [dset_give h l r _ _ [] k2 hn hr (by omega)]
  simp [bl];omega
 ·rw [bt_give h l r _ _ k2 hn hr (by omega)]
  simp [bl];omega
theorem dsets_give {x:List UInt8} {S:List (List Te)} (h:RT x S):∀(l:List UInt8) (f i:Nat) (acc:List (List Te)),l.drop i=x->i<=l.length->l.length < f+i->dsets l f i acc=(0,l.length,acc++S):=by
 induction h with
 | one x ts h =>
  intro l f i acc hd hi hf
  have e1:=one_give h l [] i (by simpa using hd) hi (Or.inl rfl)
  have hl:i+x.length=l.length:=by
   have:=congrArg List.length hd
   simp at this;omega
  cases f with
  | zero=>omega
  | succ f =>
   unfold dsets
   rw [e1]
   simp only [if_true]
   rw [if_neg,hl]
   unfold barsAt
   rw [List.getElem?_eq_none (by omega)]
   simp
 | more x ts y S h hy ih =>
  intro l f i acc hd hi hf
  have e1:=one_give h l (124 :: 124 :: y) i hd hi (Or.inr ⟨y,rfl⟩)
  have hl:i+x.length+2+y.length=l.length:=by
   have:=congrArg List.length hd
   simp at this;omega
  have d1:l.drop (i+x.length)=124 :: 124 :: y:=by rw [<-List.drop_drop,hd];simp
  obtain ⟨d2,g2⟩:=drop_one d1
  obtain ⟨d3,g3⟩:=drop_one d2
  cases f with
  | zero=>omega
  | succ f =>
   unfold dsets
   rw [e1]
   simp only [if_true]
   rw [if_pos (by unfold barsAt;simp [g2,g3])]
   rw [ih l f _ _ d3 (by omega) (by omega)]
   simp
theorem range_give {x:List UInt8} {S:List (List Te)} (h:RT x S) (hl:x.length<=200):rdRange x=(0,0,S):=by
 have:=dsets_give h x (x.length+1) 0 [] rfl (Nat.zero_le _) (by omega)
 unfold rdRange
 rw [if_neg (by omega),this]
 simp
theorem tt_of {l:List UInt8} {i:Nat} (hi:i<=l.length) (h:(rdPa l (rdSign l i).2).1=0):∃y,TT y (rdSign l i).1 ⟨signOr (rdSign l i).1,(rdPa l (rdSign l i).2).2.2⟩/\l.drop i=y++l.drop (rdPa l (rdSign l i).2).2.1:=by
 obtain ⟨u,hu,d1⟩:=sign_take l i
 obtain ⟨z,hz,d2⟩:=pa_take l _ (sign_pos l i hi).2 h
 exact ⟨u++z,⟨u,z,_,hu,hz,rfl,rfl⟩,by rw [d1,d2];simp⟩
theorem dset_take (l:List UInt8):∀(f i:Nat) (acc:List Te),l.length < f+i->i<=l.length->(dset l f i acc).1=0 →
  ∃x ts,l.drop i=x++l.drop (dset l f i acc).2.1/\(dset l f i acc).2.1<=l.length/\i<=(dset l f i acc).2.1/\endsAt l (dset l f i acc).2.1=true/\((SetT x ts/\(dset l f i acc).2.2=acc++ts)\/(acc=[]/\BT x ts/\(dset l f i acc).2.2=ts))
 | 0,i,acc,hf,hi,h=>by omega
 | f+1,i,acc,hf,hi,h=>by
  by_cases he:endsAt l i=true
  ·have e:dset l (f+1) i acc=(0,i,acc):=by unfold dset;rw [if_pos he]
   rw [e]
   exact ⟨[],[],rfl,hi,Nat.le_refl _,he,Or.inl ⟨SetT.nil,by simp⟩⟩
  ·have sp:=sign_pos l i hi
   unfold dset at h ⊢
   rw [if_neg he] at h ⊢
   by_cases hr:(rdPa l (rdSign l i).2).1=0
   ·have pp:=pa_pos l _ sp.2 hr
    obtain ⟨y,hy,d1⟩:=tt_of hi hr
    obtain ⟨g,k1,k2⟩:=skip_take l (rdPa l (rdSign l i).2).2.1
    have hk:=skip_le l _ pp.2
    rw [if_pos hr] at h ⊢
    rw [k1] at h ⊢ hk
    by_cases hb:((rdSign l i).1 < 0/\acc=[])/\(rdPa l (rdSign l i).2).2.1 < (rdPa l (rdSign l i).2).2.1+g/\l[(rdPa l (rdSign l i).2).2.1+g]?=some 45
    ·rw [if_pos hb] at h ⊢
     obtain ⟨d2,c2⟩:=drop_cons hb.2.2
     obtain ⟨g2,k3,k4⟩:=skip_take l ((rdPa l (rdSign l i).2).2.1+g+1)
     have hk2:=skip_le l ((rdPa l (rdSign l i).2).2.1+g+1) (by omega)
     rw [k3] at h ⊢ hk2
     by_cases hm:(rdPa l (rdSign l i).2).2.1+g+1+g2=(rdPa l (rdSign l i).2).2.1+g+1
     ·rw [if_pos hm] at h;cases h
     ·rw [if_neg hm] at h ⊢
      by_cases hq:(rdPa l ((rdPa l (rdSign l i).2).2.1+g+1+g2)).1=0
      ·rw [if_pos hq] at h ⊢
       have pq:=pa_pos l _ hk2 hq
       obtain ⟨z,hz,d3⟩:=pa_take l _ hk2 hq
       obtain ⟨g3,k5,k6⟩:=skip_take l (rdPa l ((rdPa l (rdSign l i).2).2.1+g+1+g2)).2.1
       have hk3:=skip_le l _ pq.2
       rw [k5] at h ⊢ hk3
       by_cases hn:endsAt l ((rdPa l ((rdPa l (rdSign l i).2).2.1+g+1+g2)).2.1+g3)=true
       ·rw [if_pos hn]
        obtain ⟨u,z',p,hu,hz',ey,et⟩:=hy
        obtain ⟨g',rfl⟩:∃g',g=g'+1:=⟨g - 1,by omega⟩
        obtain ⟨h',rfl⟩:∃h',g2=h'+1:=⟨g2 - 1,by omega⟩
        have hup:p=(rdPa l (rdSign l i).2).2.2:=by injection et with e1 e2;exact e2.symm
        have hu0:u=[]:=sgt_none hu hb.1.1
        subst hu0
        refine ⟨y++(bl (g'+1)++45 :: (bl (h'+1)++(z++bl g3))),_,?_,hk3,by simp only [];omega,hn,Or.inr ⟨hb.1.2,⟨y,z,_,_,g',h',g3,?_,hz,rfl,rfl⟩,rfl⟩⟩
        ·rw [d1,k2,d2,k4,d3,k6]
         simp only [List.append_assoc,List.cons_append]
        ·rw [ey,<-hup];exact hz'
       ·rw [if_neg hn] at h;cases h
      ·rw [if_neg hq] at h;exact absurd h hq
    ·rw [if_neg hb] at h ⊢
     by_cases hn:¬ (rdPa l (rdSign l i).2).2.1 < (rdPa l (rdSign l i).2).2.1+g/\¬ endsAt l ((rdPa l (rdSign l i).2).2.1+g)=true
     ·rw [if_pos hn] at h;cases h
     ·rw [if_neg hn] at h ⊢
      obtain ⟨x,ts,a1,a2,a3,a4,a5⟩:=dset_take l f _ _ (by omega) hk h
      rcases a5 with ⟨s1,s2⟩ | ⟨s1,-⟩
      ·by_cases hx:x=[]
       ·subst hx
        have hts:ts=[]:=(set_head s1).elim (fun h=>h.2) (fun ⟨x,u,e,_⟩=>by cases e)
        subst hts
        refine ⟨_,_,?_,a2,by omega,a4,Or.inl ⟨SetT.last y _ _ g hy,by rw [s2];simp⟩⟩
        rw [d1,k2,a1];simp
       ·have hg:0 < g:=by
         rcases Nat.eq_zero_or_pos g with h0 | h0
         ·exfalso
          subst h0
          have he2:endsAt l ((rdPa l (rdSign l i).2).2.1+0)=true:=by
           by_cases hh:endsAt l ((rdPa l (rdSign l i).2).2.1+0)=true
           ·exact hh
           ·exact absurd ⟨by omega,hh⟩ hn
          obtain ⟨f',rfl⟩:∃f',f=f'+1:=⟨f - 1,by omega⟩
          have e0:dset l (f'+1) ((rdPa l (rdSign l i).2).2.1+0) (acc++[⟨signOr (rdSign l i).1,(rdPa l (rdSign l i).2).2.2⟩])=(0,(rdPa l (rdSign l i).2).2.1+0,acc++[⟨signOr (rdSign l i).1,(rdPa l (rdSign l i).2).2.2⟩]):=by unfold dset;rw [if_pos he2]
          rw [e0] at a1
          have:=congrArg List.length a1
          simp at this
          exact hx this
         ·exact h0
        obtain ⟨g',rfl⟩:∃g',g=g'+1:=⟨g - 1,by omega⟩
        refine ⟨_,_,?_,a2,by omega,a4,Or.inl ⟨SetT.cons y _ _ g' x ts hy s1 hx,by rw [s2];simp⟩⟩
        rw [d1,k2,a1];simp
      ·simp at s1
   ·rw [if_neg hr] at h;exact absurd h hr
theorem one_take (l:List UInt8) (i:Nat) (hi:i<=l.length) (h:(oneD l i).1=0):∃x,OneT x (oneD l i).2.2/\l.drop i=x++l.drop (oneD l i).2.1/\(oneD l i).2.1<=l.length/\i<=(oneD l i).2.1/\endsAt l (oneD l i).2.1=true:=by
 obtain ⟨g,k1,k2⟩:=skip_take l i
 have hk:=skip_le l i hi
 unfold oneD at h ⊢
 rw [k1] at h ⊢ hk
 obtain ⟨x,ts,a1,a2,a3,a4,a5⟩:=dset_take l _ _ [] (by omega) hk h
 refine ⟨bl g++x,⟨g,x,rfl,?_⟩,by rw [k2,a1];simp,a2,by omega,a4⟩
 rcases a5 with ⟨s1,s2⟩ | ⟨-,s1,s2⟩
 ·rw [s2];exact Or.inl s1
 ·rw [s2];exact Or.inr s1
theorem dsets_take (l:List UInt8):∀(f i:Nat) (acc:List (List Te)),l.length < f+i->i<=l.length->(dsets l f i acc).1=0->∃S,RT (l.drop i) S/\(dsets l f i acc).2.2=acc++S
 | 0,i,acc,hf,hi,h=>by omega
 | f+1,i,acc,hf,hi,h=>by
  unfold dsets at h ⊢
  by_cases h1:(oneD l i).1=0
  ·rw [if_pos h1] at h ⊢
   obtain ⟨x,a1,a2,a3,a4,a5⟩:=one_take l i hi h1
   by_cases hb:barsAt l (oneD l i).2.1=true
   ·rw [if_pos hb] at h ⊢
    have hlt:(oneD l i).2.1+2<=l.length:=by
     unfold barsAt at hb
     rw [Bool.and_eq_true,decide_eq_true_eq,decide_eq_true_eq] at hb
     have:=dot_lt hb.2
     omega
    obtain ⟨S,b1,b2⟩:=dsets_take l f _ _ (by omega) hlt h
    refine ⟨(oneD l i).2.2 :: S,?_,by rw [b2];simp⟩
    unfold barsAt at hb
    rw [Bool.and_eq_true,decide_eq_true_eq,decide_eq_true_eq] at hb
    rw [a2,(drop_cons hb.1).1,(drop_cons hb.2).1]
    exact RT.more x _ _ S a1 b1
   ·rw [if_neg hb]
    refine ⟨[(oneD l i).2.2],?_,rfl⟩
    have hl:l.length<=(oneD l i).2.1:=by
     unfold endsAt at a5
     rw [Bool.or_eq_true,decide_eq_true_eq] at a5
     exact a5.resolve_right hb
    rw [a2,List.drop_eq_nil_of_le hl,List.append_nil]
    exact RT.one x _ a1
  ·rw [if_neg h1] at h;exact absurd h h1
theorem range_take (x:List UInt8) (h:(rdRange x).1=0):RT x (rdRange x).2.2/\x.length<=200:=by
 unfold rdRange at h ⊢
 by_cases h1:200 < x.length
 ·rw [if_pos h1] at h;cases h
 ·rw [if_neg h1] at h ⊢
  by_cases h2:(dsets x (x.length+1) 0 []).1=0
  ·rw [if_pos h2]
   obtain ⟨S,a1,a2⟩:=dsets_take x (x.length+1) 0 [] (by omega) (Nat.zero_le _) h2
   rw [a2]
   exact ⟨a1,by omega⟩
  ·rw [if_neg h2] at h;exact absurd h h2
theorem rt_app {a b:List UInt8} {A B:List (List Te)} (ha:RT a A) (hb:RT b B):RT (a++124 :: 124 :: b) (A++B):=by
 induction ha with
 | one x ts h=>exact RT.more x ts b B h hb
 | more x ts y S h hy ih =>
  rw [List.append_assoc,List.cons_append,List.cons_append,List.cons_append]
  exact RT.more x ts _ _ h ih
theorem rt_ne {a:List UInt8} {A:List (List Te)} (h:RT a A):A ≠ []:=by cases h <;> simp
theorem rt_one {a:List UInt8} {x:List Te} (h:RT a [x]):OneT a x:=by
 generalize e:[x]=A at h
 cases h with
 | one y ts h=>injection e with e1;rw [e1];exact h
 | more y ts z S h hz=>injection e with e1 e2;exact absurd e2.symm (rt_ne hz)
def isBet (ts:List Te):Bool:=match ts with
 | [t,_]=>decide (t.sign=7)
 | _=>false
theorem bl_add (g h:Nat) (z:List UInt8):bl g++(bl h++z)=bl (g+h)++z:=by
 unfold bl
 rw [<-List.append_assoc,List.replicate_append_replicate]
theorem bl_cons (g:Nat) (z:List UInt8):bl g++32 :: z=bl (g+1)++z:=by
 have:=bl_add g 1 z
 simpa [bl] using this
theorem set_app {x y:List UInt8} {A B:List Te} (hx:SetT x A) (hy:SetT y B) (g:Nat) (hn:x ≠ []):SetT (x++(bl (g+1)++y)) (A++B):=by
 induction hx with
 | nil=>exact absurd rfl hn
 | last z s t k h =>
  rw [List.append_assoc,bl_add]
  by_cases hy0:y=[]
  ·subst hy0
   have hB:B=[]:=(set_head hy).elim (fun h=>h.2) (fun ⟨x,u,e,_⟩=>by cases e)
   subst hB
   rw [List.append_nil]
   exact SetT.last z s t _ h
  ·rw [<-Nat.add_assoc]
   exact SetT.cons z s t _ y B h hy hy0
 | cons z s t k z' ts h hz hz0 ih =>
  have h1:=ih hz0
  rw [List.append_assoc,List.append_assoc]
  exact SetT.cons z s t k _ _ h h1 (by simp [hz0])
theorem rt_blank {a b:List UInt8} {x y:List Te} (ha:RT a [x]) (hb:RT b [y]) (hx:isBet x=false) (hy:isBet y=false):RT (a++32 :: b) [x++y]:=by
 obtain ⟨g,z,rfl,h1⟩:=rt_one ha
 obtain ⟨k,u,rfl,h2⟩:=rt_one hb
 have h1':SetT z x:=h1.elim id (fun ⟨_,_,_,_,_,_,_,_,_,_,e⟩=>by rw [e] at hx;cases hx)
 have h2':SetT u y:=h2.elim id (fun ⟨_,_,_,_,_,_,_,_,_,_,e⟩=>by rw [e] at hy;cases hy)
 refine RT.one _ _ ?_
 by_cases hz:z=[]
 ·subst hz
  have hx0:x=[]:=(set_head h1').elim (fun h=>h.2) (fun ⟨x,u,e,_⟩=>by cases e)
  subst hx0
  refine ⟨g+1+k,u,?_,Or.inl h2'⟩
  rw [List.append_nil,bl_cons,bl_add]
 ·refine ⟨g,z++(bl (k+1)++u),?_,Or.inl (set_app h1' h2' k hz)⟩
  have e:(32 :: (bl k++u):List UInt8)=bl (k+1)++u:=by
   have:=bl_add 1 k u
   rw [Nat.add_comm] at this
   rw [<-this];rfl
  rw [List.append_assoc,e]
end Go.Proofs.YtonfldbigenfhaaGreatDoor
