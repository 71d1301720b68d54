import Derived.Test.YtonfldbigenfhaaGreatDoorB17
import Derived.Test.YtonfldbigenfhaaGreatDoorB03
import Derived.Laws.AppendOwn
import Derived.Deep.RegionLaw
import Derived.Deep.AppendLies
import Derived.Test.YtonfldbigenfhaaGreatDoorB04
import Derived.Test.YtonfldbigenfhaaGreatDoorB02
import Derived.Test.YtonfldbigenfhaaGreatDoorB07
import Derived.Test.YtonfldbigenfhaaGreatDoorB14
namespace Go.Proofs.YtonfldbigenfhaaGreatDoor
set_option linter.unusedVariables false
def Wc (c:UInt8):Prop:=c=42\/c=120\/c=88
def Nn (a:Int):Prop:=0<=a/\a<=999999999
inductive PT:List UInt8->Pa->Prop
 | w0 (x:UInt8) (hx:Wc x):PT [x] pa0
 | n1 (a:Int) (ha:Nn a):PT (Lib.itoa a) ⟨1,a,0,0,[]⟩
 | w1 (a:Int) (x:UInt8) (ha:Nn a) (hx:Wc x):PT (Lib.itoa a++[46,x]) ⟨1,a,0,0,[]⟩
 | n2 (a b:Int) (ha:Nn a) (hb:Nn b):PT (Lib.itoa a++46 :: Lib.itoa b) ⟨2,a,b,0,[]⟩
 | w2 (a b:Int) (x:UInt8) (ha:Nn a) (hb:Nn b) (hx:Wc x):PT (Lib.itoa a++46 :: (Lib.itoa b++[46,x])) ⟨2,a,b,0,[]⟩
 | n3 (a b c:Int) (p q:List UInt8) (ha:Nn a) (hb:Nn b) (hc:Nn c) (hp:okParts true p=true) (hq:okParts false q=true) :
   PT (Lib.itoa a++46 :: (Lib.itoa b++46 :: (Lib.itoa c++(optT 45 p++optT 43 q)))) ⟨3,a,b,c,p⟩
def Stop (r:List UInt8):Prop:=∀x t,r=x :: t->x=32\/x=124
theorem dec_cons (u:Nat):∃d t,Lib.decDigits u=d :: t/\isD d=true:=by
 have h1:=dec_ne u
 have h2:=dec_all u
 cases h:Lib.decDigits u with
 | nil=>exact absurd h h1
 | cons d t=>rw [h,List.all_cons,Bool.and_eq_true] at h2;exact ⟨d,t,rfl,h2.1⟩
theorem itoa_cons {a:Int} (ha:Nn a):∃d t,Lib.itoa a=d :: t/\isD d=true:=by rw [itoa_dec ha.1];exact dec_cons _
theorem isD_ne {d:UInt8} (h:isD d=true) (c:UInt8) (hc:isD c=false):d ≠ c:=fun e=>by rw [e,hc] at h;cases h
theorem at_drop (l:List UInt8) (i:Nat):l[i]?=(l.drop i)[0]?:=by rw [List.getElem?_drop];rfl
theorem wild_not {l:List UInt8} {i:Nat} {d:UInt8} {t:List UInt8} (h:l.drop i=d :: t) (hd:isD d=true):wildAt l i=false:=by
 have e:l[i]?=some d:=by rw [at_drop,h];rfl
 unfold wildAt
 rw [e]
 have h1:=isD_ne hd 42 (by decide)
 have h2:=isD_ne hd 120 (by decide)
 have h3:=isD_ne hd 88 (by decide)
 simp [h1,h2,h3]
theorem wild_is {l:List UInt8} {i:Nat} {x:UInt8} {t:List UInt8} (h:l.drop i=x :: t) (hx:Wc x):wildAt l i=true:=by
 have e:l[i]?=some x:=by rw [at_drop,h];rfl
 unfold wildAt
 rw [e]
 rcases hx with rfl | rfl | rfl <;> simp
theorem num_give {l r:List UInt8} {i:Nat} {a:Int} (ha:Nn a) (hd:l.drop i=Lib.itoa a++r) (hr:∀c t,r=c :: t->isD c=false) :
  rdNum l i=(0,a,i+(Lib.itoa a).length)/\l.drop (i+(Lib.itoa a).length)=r/\wildAt l i=false:=by
 obtain ⟨d,t,e,hdd⟩:=itoa_cons ha
 have hw:wildAt l i=false:=wild_not (by rw [hd,e];rfl) hdd
 rw [itoa_dec ha.1] at hd ⊢
 have h1:=rdNum_dec l r i a.toNat (by have:=ha.2;omega) hd hr
 rw [Int.toNat_of_nonneg ha.1] at h1
 refine ⟨h1,?_,hw⟩
 rw [<-List.drop_drop,hd];simp
theorem stop_isD {r:List UInt8} (h:Stop r):∀c t,r=c :: t->isD c=false:=by
 intro c t e
 rcases h c t e with rfl | rfl <;> decide
theorem stop_at {l r:List UInt8} {i:Nat} (h:Stop r) (hd:l.drop i=r) (c:UInt8) (h1:c ≠ 32) (h2:c ≠ 124):¬ l[i]?=some c:=by
 rw [at_drop,hd]
 cases r with
 | nil=>simp
 | cons x t =>
  rcases h x t rfl with rfl | rfl
  ·simpa using fun e=>h1 e.symm
  ·simpa using fun e=>h2 e.symm
theorem dot_first {r:List UInt8}:∀c t,(46 :: r:List UInt8)=c :: t->isD c=false:=by
 intro c t e
 injection e with e1
 rw [<-e1];decide
theorem tail_give {l r p q:List UInt8} {i:Nat} (hd:l.drop i=optT 45 p++(optT 43 q++r)) (hp:okParts true p=true) (hq:okParts false q=true) (hr:Stop r) :
  tailP l i=(0,i+(optT 45 p).length+(optT 43 q).length,p,q):=by
 obtain ⟨e1,d1⟩:=opt_give 45 true l p (optT 43 q++r) i hd hp (by
  intro x t e
  unfold optT at e
  split at e
  ·rcases hr x t e with rfl | rfl <;> decide
  ·injection e with e1
   rw [<-e1];decide)
 obtain ⟨e2,d2⟩:=opt_give 43 false l q r _ d1 hq (by
  intro x t e
  rcases hr x t e with rfl | rfl <;> decide)
 unfold tailP
 rw [e1]
 simp only [if_true]
 rw [e2]
 simp only [if_true]
theorem opt_isD (p q r:List UInt8) (hr:Stop r):∀c t,optT 45 p++(optT 43 q++r)=c :: t->isD c=false:=by
 intro c t e
 unfold optT at e
 split at e
 ·split at e
  ·exact stop_isD hr c t e
  ·injection e with e1
   rw [<-e1];decide
 ·injection e with e1
  rw [<-e1];decide
theorem pa_give {y:List UInt8} {p:Pa} (h:PT y p) (l r:List UInt8) (i:Nat) (hd:l.drop i=y++r) (hr:Stop r):rdPa l i=(0,i+y.length,p):=by
 cases h with
 | w0 x hx =>
  unfold rdPa
  rw [if_pos (wild_is hd hx)];rfl
 | n1 a ha =>
  obtain ⟨e1,d1,w1⟩:=num_give ha hd (stop_isD hr)
  unfold rdPa
  rw [w1,e1]
  simp only [Bool.false_eq_true,if_false,if_true]
  unfold pa1
  rw [if_neg (stop_at hr d1 46 (by decide) (by decide))]
 | w1 a x ha hx =>
  rw [List.append_assoc] at hd
  obtain ⟨e1,d1,w1⟩:=num_give ha hd dot_first
  obtain ⟨d2,g1⟩:=drop_one d1
  unfold rdPa
  rw [w1,e1]
  simp only [Bool.false_eq_true,if_false,if_true]
  unfold pa1
  rw [if_pos g1,if_pos (wild_is d2 hx)]
  simp;omega
 | n2 a b ha hb =>
  rw [List.append_assoc] at hd
  obtain ⟨e1,d1,w1⟩:=num_give ha hd dot_first
  obtain ⟨d2,g1⟩:=drop_one d1
  obtain ⟨e2,d3,w2⟩:=num_give hb d2 (stop_isD hr)
  unfold rdPa
  rw [w1,e1]
  simp only [Bool.false_eq_true,if_false,if_true]
  unfold pa1
  rw [if_pos g1,w2,e2]
  simp only [Bool.false_eq_true,if_false,if_true]
  unfold pa2
  rw [if_neg (stop_at hr d3 46 (by decide) (by decide))]
  simp;omega
 | w2 a b x ha hb hx =>
  simp only [List.append_assoc,List.cons_append,List.nil_append] at hd
  obtain ⟨e1,d1,w1⟩:=num_give ha hd dot_first
  obtain ⟨d2,g1⟩:=drop_one d1
  obtain ⟨e2,d3,w2⟩:=num_give hb d2 dot_first
  obtain ⟨d4,g2⟩:=drop_one d3
  unfold rdPa
  rw [w1,e1]
  simp only [Bool.false_eq_true,if_false,if_true]
  unfold pa1
  rw [if_pos g1,w2,e2]
  simp only [Bool.false_eq_true,if_false,if_true]
  unfold pa2
  rw [if_pos g2,if_pos (wild_is d4 hx)]
  simp;omega
 | n3 a b c p q ha hb hc hp hq =>
  simp only [List.append_assoc,List.cons_append] at hd
  obtain ⟨e1,d1,w1⟩:=num_give ha hd dot_first
  obtain ⟨d2,g1⟩:=drop_one d1
  obtain ⟨e2,d3,w2⟩:=num_give hb d2 dot_first
  obtain ⟨d4,g2⟩:=drop_one d3
  obtain ⟨e3,d5,w3⟩:=num_give hc d4 (opt_isD p q r hr)
  have e4:=tail_give d5 hp hq hr
  unfold rdPa
  rw [w1,e1]
  simp only [Bool.false_eq_true,if_false,if_true]
  unfold pa1
  rw [if_pos g1,w2,e2]
  simp only [Bool.false_eq_true,if_false,if_true]
  unfold pa2
  rw [if_pos g2,w3,e3]
  simp only [Bool.false_eq_true,if_false,if_true]
  unfold pa3
  rw [e4]
  simp;omega
inductive SgT:List UInt8->Int->Prop
 | none:SgT [] (-1)
 | eq:SgT [61] 0
 | ge:SgT [62,61] 1
 | le:SgT [60,61] 2
 | gt:SgT [62] 3
 | lt:SgT [60] 4
 | ca:SgT [94] 5
 | ti:SgT [126] 6
def Fst (x:UInt8):Prop:=isD x=true\/Wc x
theorem pt_head {y:List UInt8} {p:Pa} (h:PT y p):∃x t,y=x :: t/\Fst x:=by
 cases h with
 | w0 x hx=>exact ⟨x,[],rfl,Or.inr hx⟩
 | n1 a ha=>obtain ⟨d,t,e,h⟩:=itoa_cons ha;exact ⟨d,t,e,Or.inl h⟩
 | w1 a x ha hx=>obtain ⟨d,t,e,h⟩:=itoa_cons ha;exact ⟨d,_,by rw [e];rfl,Or.inl h⟩
 | n2 a b ha hb=>obtain ⟨d,t,e,h⟩:=itoa_cons ha;exact ⟨d,_,by rw [e];rfl,Or.inl h⟩
 | w2 a b x ha hb hx=>obtain ⟨d,t,e,h⟩:=itoa_cons ha;exact ⟨d,_,by rw [e];rfl,Or.inl h⟩
 | n3 a b c p q ha hb hc hp hq=>obtain ⟨d,t,e,h⟩:=itoa_cons ha;exact ⟨d,_,by rw [e];rfl,Or.inl h⟩
theorem fst_ne {x:UInt8} (h:Fst x) (c:UInt8) (h0:isD c=false) (h1:c ≠ 42) (h2:c ≠ 120) (h3:c ≠ 88):x ≠ c:=by
 rcases h with h | rfl | rfl | rfl
 ·exact isD_ne h c h0
 ·exact h1.symm
 ·exact h2.symm
 ·exact h3.symm
theorem sign_give {u z:List UInt8} {s:Int} (h:SgT u s) (l:List UInt8) (i:Nat) (hd:l.drop i=u++z) (hz:∃x t,z=x :: t/\Fst x):rdSign l i=(s,i+u.length):=by
 obtain ⟨x,t,rfl,hx⟩:=hz
 have n61:=fst_ne hx 61 (by decide) (by decide) (by decide) (by decide)
 have n62:=fst_ne hx 62 (by decide) (by decide) (by decide) (by decide)
 have n60:=fst_ne hx 60 (by decide) (by decide) (by decide) (by decide)
 have n94:=fst_ne hx 94 (by decide) (by decide) (by decide) (by decide)
 have n126:=fst_ne hx 126 (by decide) (by decide) (by decide) (by decide)
 have e0:l[i]?=(u++x :: t)[0]?:=by rw [at_drop,hd]
 have e1:l[i+1]?=(u++x :: t)[1]?:=by rw [<-hd,List.getElem?_drop]
 unfold rdSign
 rw [e0,e1]
 cases h <;> simp [n61,n62,n60,n94,n126]
def TT (y:List UInt8) (s:Int) (t:Te):Prop:=∃u z p,SgT u s/\PT z p/\y=u++z/\t=⟨signOr s,p⟩
def bl (g:Nat):List UInt8:=List.replicate g 32
inductive SetT:List UInt8->List Te->Prop
 | nil:SetT [] []
 | last (y:List UInt8) (s:Int) (t:Te) (g:Nat) (h:TT y s t):SetT (y++bl g) [t]
 | cons (y:List UInt8) (s:Int) (t:Te) (g:Nat) (z:List UInt8) (ts:List Te) (h:TT y s t) (hz:SetT z ts) (hn:z ≠ []):SetT (y++(bl (g+1)++z)) (t :: ts)
def BT (x:List UInt8) (ts:List Te):Prop:=∃y z p q g h k,PT y p/\PT z q/\x=y++(bl (g+1)++45 :: (bl (h+1)++(z++bl k)))/\ts=[⟨7,p⟩,⟨2,q⟩]
def OneT (x:List UInt8) (ts:List Te):Prop:=∃g z,x=bl g++z/\(SetT z ts\/BT z ts)
inductive RT:List UInt8->List (List Te)->Prop
 | one (x:List UInt8) (ts:List Te) (h:OneT x ts):RT x [ts]
 | more (x:List UInt8) (ts:List Te) (y:List UInt8) (S:List (List Te)) (h:OneT x ts) (hy:RT y S):RT (x++124 :: 124 :: y) (ts :: S)
def SEnd (r:List UInt8):Prop:=r=[]\/∃t,r=124 :: 124 :: t
theorem SEnd.stop {r:List UInt8} (h:SEnd r):Stop r:=by
 intro x t e
 rcases h with h | ⟨u,h⟩
 ·rw [h] at e;cases e
 ·rw [h] at e;injection e with e1;exact Or.inr e1.symm
theorem send_ends {l r:List UInt8} {i:Nat} (hi:i<=l.length) (hd:l.drop i=r) (h:SEnd r):endsAt l i=true:=by
 unfold endsAt
 rcases h with h | ⟨t,h⟩
 ·rw [h,List.drop_eq_nil_iff] at hd
  simp [hd]
 ·rw [h] at hd
  obtain ⟨d1,e1⟩:=drop_one hd
  obtain ⟨d2,e2⟩:=drop_one d1
  unfold barsAt
  simp [e1,e2]
theorem skip_give {l r:List UInt8} {i g:Nat} (hd:l.drop i=bl g++r) (hr:∀x t,r=x :: t->x ≠ 32):skipW l i=i+g/\l.drop (i+g)=r:=by
 obtain ⟨h1,h2,h3,h4⟩:=run_of isSp l (bl g) r i hd (by simp [bl,isSp]) (fun c t e=>by simpa [isSp] using hr c t e)
 have hl:(bl g).length=g:=by simp [bl]
 rw [hl] at h1 h4
 exact ⟨by unfold skipW;rw [h1],h4⟩
theorem tt_head {y:List UInt8} {s:Int} {t:Te} (h:TT y s t):∃x u,y=x :: u/\x ≠ 32/\x ≠ 124/\x ≠ 45:=by
 obtain ⟨u,z,p,hu,hz,rfl,rfl⟩:=h
 obtain ⟨x,v,rfl,hx⟩:=pt_head hz
 have n1:=fst_ne hx 32 (by decide) (by decide) (by decide) (by decide)
 have n2:=fst_ne hx 124 (by decide) (by decide) (by decide) (by decide)
 have n3:=fst_ne hx 45 (by decide) (by decide) (by decide) (by decide)
 cases hu
 ·exact ⟨x,v,rfl,n1,n2,n3⟩
 all_goals exact ⟨_,_,rfl,by decide,by decide,by decide⟩
theorem set_head {z:List UInt8} {ts:List Te} (h:SetT z ts):z=[]/\ts=[]\/∃x u,z=x :: u/\x ≠ 32/\x ≠ 124/\x ≠ 45:=by
 cases h with
 | nil=>exact Or.inl ⟨rfl,rfl⟩
 | last y s t g h=>obtain ⟨x,u,rfl,h1⟩:=tt_head h;exact Or.inr ⟨x,_,rfl,h1⟩
 | cons y s t g z ts h hz hn=>obtain ⟨x,u,rfl,h1⟩:=tt_head h;exact Or.inr ⟨x,_,rfl,h1⟩
theorem ends_not {l:List UInt8} {i:Nat} {x:UInt8} {u:List UInt8} (hd:l.drop i=x :: u) (hx:x ≠ 124):¬ endsAt l i=true:=by
 obtain ⟨d1,e1⟩:=drop_one hd
 have:=dot_lt e1
 unfold endsAt barsAt
 rw [e1]
 simp [hx];omega
theorem tt_read {y:List UInt8} {s:Int} {t:Te} (h:TT y s t) {l r:List UInt8} {i:Nat} (hd:l.drop i=y++r) (hr:Stop r):∃j,rdSign l i=(s,j)/\rdPa l j=(0,i+y.length,t.p)/\t.sign=signOr s/\¬ endsAt l i=true/\l.drop (i+y.length)=r/\0 < y.length:=by
 obtain ⟨x,v,e,-,h124,-⟩:=tt_head h
 obtain ⟨u,z,p,hu,hz,rfl,rfl⟩:=h
 have hz':=pt_head hz
 obtain ⟨x',v',ez,hx'⟩:=hz'
 rw [List.append_assoc] at hd
 have e1:=sign_give hu l i hd ⟨x',v'++r,by rw [ez];rfl,hx'⟩
 have d1:l.drop (i+u.length)=z++r:=by rw [<-List.drop_drop,hd];simp
 have e2:=pa_give hz l r _ d1 hr
 refine ⟨_,e1,?_,rfl,?_,?_,?_⟩
 ·rw [e2,List.length_append,Nat.add_assoc]
 ·refine ends_not (x:=x) (u:=v++r) ?_ h124
  rw [hd,<-List.append_assoc,e];rfl
 ·rw [List.length_append,<-Nat.add_assoc,<-List.drop_drop,d1];simp
 ·rw [e];simp
theorem stop_bl (g:Nat) (r:List UInt8) (hr:Stop r):Stop (bl g++r):=by
 intro x t e
 cases g with
 | zero=>exact hr x t e
 | succ g=>simp only [bl,List.replicate_succ,List.cons_append] at e;injection e with e1;exact Or.inl e1.symm
theorem stop_bl1 (g:Nat) (r:List UInt8):Stop (bl (g+1)++r):=by
 intro x t e
 simp only [bl,List.replicate_succ,List.cons_append] at e
 injection e with e1;exact Or.inl e1.symm
theorem drop_le {l:List UInt8} {i:Nat} {x:UInt8} {u:List UInt8} (hd:l.drop i=x :: u):i < l.length:=dot_lt (drop_one hd).2
theorem dset_give {x:List UInt8} {ts:List Te} (h:SetT x ts):∀(l r:List UInt8) (f i:Nat) (acc:List Te),l.drop i=x++r->i<=l.length->SEnd r->l.length < f+i->dset l f i acc=(0,i+x.length,acc++ts):=by
 induction h with
 | nil =>
  intro l r f i acc hd hi hr hf
  cases f with
  | zero=>omega
  | succ f =>
   unfold dset
   rw [if_pos (send_ends hi hd hr)]
   simp
 | last y s t g h =>
  intro l r f i acc hd hi hr hf
  rw [List.append_assoc] at hd
  obtain ⟨j,e1,e2,e3,e4,d1,hy⟩:=tt_read h hd (stop_bl g r hr.stop)
  obtain ⟨k1,k2⟩:=skip_give d1 (fun x t e=>by rcases hr.stop x t e with rfl | rfl <;> first | decide | (exfalso;rcases hr with hr | ⟨u,hr⟩ <;> rw [hr] at e <;> simp at e))
  have hn:i+y.length+g<=l.length:=by
   have:=congrArg List.length hd
   simp [bl] at this
   omega
  have he:=send_ends hn k2 hr
  cases f with
  | zero=>omega
  | succ f =>
   unfold dset
   rw [if_neg e4,e1]
   simp only []
   rw [e2]
   simp only [if_true,k1]
   rw [if_neg (fun hh=>stop_at hr.stop k2 45 (by decide) (by decide) hh.2.2),if_neg (fun hh=>hh.2 he)]
   cases f with
   | zero=>omega
   | succ f =>
    unfold dset
    rw [if_pos he]
    have:t=⟨signOr s,t.p⟩:=by rw [<-e3]
    rw [<-this]
    simp [bl];omega
 | cons y s t g z ts h hz hn ih =>
  intro l r f i acc hd hi hr hf
  rw [List.append_assoc,List.append_assoc] at hd
  obtain ⟨j,e1,e2,e3,e4,d1,hy⟩:=tt_read h hd (stop_bl1 g _)
  obtain ⟨x,u,ez,h32,h124,h45⟩:=(set_head hz).resolve_left (fun hh=>hn hh.1)
  obtain ⟨k1,k2⟩:=skip_give d1 (fun x' t' e=>by rw [ez] at e;injection e with e5;rw [<-e5];exact h32)
  have hlt:i+y.length+(g+1) < l.length:=drop_le (x:=x) (u:=u++r) (by rw [k2,ez];rfl)
  cases f with
  | zero=>omega
  | succ f =>
   unfold dset
   rw [if_neg e4,e1]
   simp only []
   rw [e2]
   simp only [if_true,k1]
   rw [if_neg (fun hh=>by
    have h2:=hh.2.2
    rw [at_drop,k2,ez] at h2
    exact h45 (by simpa using h2)),if_neg (fun hh=>hh.1 (by omega))]
   rw [ih l r f _ _ k2 (by omega) hr (by omega)]
   have:t=⟨signOr s,t.p⟩:=by rw [<-e3]
   rw [<-this]
   simp [bl];omega
theorem bt_give {x:List UInt8} {ts:List Te} (h:BT x ts) (l r:List UInt8) (f i:Nat) (hd:l.drop i=x++r) (hi:i<=l.length) (hr:SEnd r) (hf:0 < f):dset l f i []=(0,i+x.length,ts):=by
 obtain ⟨y,z,p,q,g,h,k,hy,hz,rfl,rfl⟩:=h
 simp only [List.append_assoc,List.cons_append] at hd
 have ht:TT y (-1) ⟨signOr (-1),p⟩:=⟨[],y,p,SgT.none,hy,rfl,rfl⟩
 obtain ⟨j,e1,e2,e3,e4,d1,hyl⟩:=tt_read ht hd (stop_bl1 g _)
 obtain ⟨k1,k2⟩:=skip_give d1 (fun x t e=>by injection e with e5;rw [<-e5];decide)
 obtain ⟨d2,g2⟩:=drop_one k2
 obtain ⟨x',v',ez,hx'⟩:=pt_head hz
 obtain ⟨k3,k4⟩:=skip_give d2 (fun x t e=>by rw [ez] at e;injection e with e5;rw [<-e5];exact fst_ne hx' 32 (by decide) (by decide) (by decide) (by decide))
 have e5:=pa_give hz l _ _ k4 (stop_bl k r hr.stop)
 have d5:l.drop (i+y.length+(g+1)+1+(h+1)+z.length)=bl k++r:=by rw [<-List.drop_drop,k4];simp
 obtain ⟨k5,k6⟩:=skip_give d5 (fun x t e=>by rcases hr.stop x t e with rfl | rfl <;> first | decide | (exfalso;rcases hr with hr | ⟨u,hr⟩ <;> rw [hr] at e <;> simp at e))
 have hn:i+y.length+(g+1)+1+(h+1)+z.length+k<=l.length:=by
  have:=congrArg List.length hd
  simp [bl] at this
  omega
 have he:=send_ends hn k6 hr
 cases f with
 | zero=>omega
 | succ f =>
  unfold dset
  rw [if_neg e4,e1]
  simp only []
  rw [e2]
  simp only [if_true,k1]
  rw [if_pos ⟨⟨by decide,trivial⟩,by omega,g2⟩,k3,if_neg (by omega),e5]
  simp only [if_true,k5]
  rw [if_pos he]
  simp [bl];omega
theorem one_give {x:List UInt8} {ts:List Te} (h:OneT x ts) (l r:List UInt8) (i:Nat) (hd:l.drop i=x++r) (hi:i<=l.length) (hr:SEnd r):oneD l i=(0,i+x.length,ts):=by
 obtain ⟨g,z,rfl,h⟩:=h
 rw [List.append_assoc] at hd
 have hn:i+g<=l.length:=by
  have:=congrArg List.length hd
  simp [bl] at this
  omega
 have hh:∀x t,z++r=x :: t->x ≠ 32:=by
  intro x t e
  have h0:∀x t,r=x :: t->x ≠ 32:=fun x t e=>by
   rcases hr with hr | ⟨u,hr⟩
   ·rw [hr] at e;cases e
   ·rw [hr] at e;injection e with e5;rw [<-e5];decide
  rcases h with h | ⟨y,z',p,q,g',h',k,hy,hz,rfl,-⟩
  ·rcases set_head h with ⟨e1,-⟩ | ⟨x',u,e1,h1,-⟩
   ·rw [e1] at e;exact h0 x t e
   ·rw [e1] at e;injection e with e5;rw [<-e5];exact h1
  ·obtain ⟨x',v',ez,hx'⟩:=pt_head hy
   rw [ez] at e;injection e with e5;rw [<-e5];exact fst_ne hx' 32 (by decide) (by decide) (by decide) (by decide)
 obtain ⟨k1,k2⟩:=skip_give hd hh
 unfold oneD
 rw [k1]
 rcases h with h | h
 ·rw [dset_give h l r _ _ [] k2 hn hr (by omega)]
  simp [bl];omega
 ·rw [bt_give h l r _ _ k2 hn hr (by omega)]
  simp [bl];omega
theorem dsets_give {x:List UInt8} {S:List (List Te)} (h:RT x S):∀(l:List UInt8) (f i:Nat) (acc:List (List Te)),l.drop i=x->i<=l.length->l.length < f+i->dsets l f i acc=(0,l.length,acc++S):=by
 induction h with
 | one x ts h =>
  intro l f i acc hd hi hf
  have e1:=one_give h l [] i (by simpa using hd) hi (Or.inl rfl)
  have hl:i+x.length=l.length:=by
   have:=congrArg List.length hd
   simp at this;omega
  cases f with
  | zero=>omega
  | succ f =>
   unfold dsets
   rw [e1]
   simp only [if_true]
   rw [if_neg,hl]
   unfold barsAt
   rw [List.getElem?_eq_none (by omega)]
   simp
 | more x ts y S h hy ih =>
  intro l f i acc hd hi hf
  have e1:=one_give h l (124 :: 124 :: y) i hd hi (Or.inr ⟨y,rfl⟩)
  have hl:i+x.length+2+y.length=l.length:=by
   have:=congrArg List.length hd
   simp at this;omega
  have d1:l.drop (i+x.length)=124 :: 124 :: y:=by rw [<-List.drop_drop,hd];simp
  obtain ⟨d2,g2⟩:=drop_one d1
  obtain ⟨d3,g3⟩:=drop_one d2
  cases f with
  | zero=>omega
  | succ f =>
   unfold dsets
   rw [e1]
   simp only [if_true]
   rw [if_pos (by unfold barsAt;simp [g2,g3])]
   rw [ih l f _ _ d3 (by omega) (by omega)]
   simp
theorem range_give {x:List UInt8} {S:List (List Te)} (h:RT x S) (hl:x.length<=200):rdRange x=(0,0,S):=by
 have:=dsets_give h x (x.length+1) 0 [] rfl (Nat.zero_le _) (by omega)
 unfold rdRange
 rw [if_neg (by omega),this]
 simp
set_option linter.unusedVariables false
theorem pt3 {a b c:Int} {p q:List UInt8} (ha:Nn a) (hb:Nn b) (hc:Nn c) (hp:okParts true p=true) (hq:okParts false q=true):PT (textV ⟨a,b,c,p,q⟩) ⟨3,a,b,c,p⟩:=PT.n3 a b c p q ha hb hc hp hq
theorem rt1 {u z:List UInt8} {s:Int} {p:Pa} (hu:SgT u s) (hz:PT z p):RT (u++z) [[⟨signOr s,p⟩]] :=
 RT.one _ _ ⟨0,_,rfl,Or.inl (by simpa [bl] using SetT.last (u++z) s _ 0 ⟨u,z,p,hu,hz,rfl,rfl⟩)⟩
theorem set1 {u z:List UInt8} {s:Int} {p:Pa} (hu:SgT u s) (hz:PT z p):SetT (u++z) [⟨signOr s,p⟩]/\u++z ≠ []:=by
 refine ⟨by simpa [bl] using SetT.last (u++z) s _ 0 ⟨u,z,p,hu,hz,rfl,rfl⟩,?_⟩
 obtain ⟨x,t,e,-⟩:=pt_head hz
 rw [e];simp
theorem adm1 (t:Te) (v:V):admS [[t]] v=admB t v:=by simp [admS,admL]
theorem pa3_ok {a b c:Int} {p:List UInt8} (ha:Nn a) (hb:Nn b) (hc:Nn c) (hp:okParts true p=true):PaOk ⟨3,a,b,c,p⟩ :=
 ⟨Nat.le_refl _,ha,hb,hc,fun h=>by simp only at h;omega,fun h=>by simp only at h;omega,fun h=>by simp only at h;omega,hp⟩
theorem seg_split (fr to_ v:V) (hv:VOk v):hasG ⟨fr,to_,false⟩ v=(hasG ⟨fr,nilV,true⟩ v && hasG ⟨lowV,to_,false⟩ v):=by
 have hl:=low_all v hv
 rw [Bool.eq_iff_iff,Bool.and_eq_true,has_iff,has_iff,has_iff]
 simp [hl]
theorem ge_is {p:Pa} (hp:PaOk p) {v:V} (hv:VOk v):admB ⟨1,p⟩ v=hasG ⟨firstV p,nilV,true⟩ v:=(sign_ok 1 (by decide) p hp v hv).symm
theorem lt_is {p:Pa} (hp:PaOk p) {v:V} (hv:VOk v):admB ⟨4,p⟩ v=hasG ⟨lowV,firstV p,false⟩ v:=(sign_ok 4 (by decide) p hp v hv).symm
theorem place3 (a b c:Int) (p:List UInt8) (v:V):placeB ⟨3,a,b,c,p⟩ v=verC v ⟨a,b,c,p⟩:=by
 have hP:placeB ⟨3,a,b,c,p⟩ v=if verC (⟨a,b,c,p⟩:V) v=0 then 0 else verC v ⟨a,b,c,p⟩:=by
  unfold placeB namedB paV
  by_cases hm:verC (⟨a,b,c,p⟩:V) v=0 <;> simp [hm]
 rw [hP]
 have:=v_anti v ⟨a,b,c,p⟩
 split
 ·omega
 ·rfl
theorem s0 (a b c:Int) (p:List UInt8) (v:V):admB ⟨0,⟨3,a,b,c,p⟩⟩ v=decide (verC v ⟨a,b,c,p⟩=0):=by
 have h:=v_anti v ⟨a,b,c,p⟩
 show decide (verC (⟨a,b,c,p⟩:V) v=0)=_
 rw [Bool.eq_iff_iff,decide_eq_true_eq,decide_eq_true_eq]
 omega
theorem s1 (a b c:Int) (p:List UInt8) (v:V):admB ⟨1,⟨3,a,b,c,p⟩⟩ v=decide (0<=verC v ⟨a,b,c,p⟩):=by
 show decide (0<=placeB ⟨3,a,b,c,p⟩ v)=_
 rw [place3]
theorem s2 (a b c:Int) (p:List UInt8) (v:V):admB ⟨2,⟨3,a,b,c,p⟩⟩ v=decide (verC v ⟨a,b,c,p⟩<=0):=by
 show decide (placeB ⟨3,a,b,c,p⟩ v<=0)=_
 rw [place3]
theorem s3 (a b c:Int) (p:List UInt8) (v:V):admB ⟨3,⟨3,a,b,c,p⟩⟩ v=decide (0 < verC v ⟨a,b,c,p⟩):=by
 show decide (0 < placeB ⟨3,a,b,c,p⟩ v)=_
 rw [place3]
theorem s4 (a b c:Int) (p:List UInt8) (v:V):admB ⟨4,⟨3,a,b,c,p⟩⟩ v=decide (verC v ⟨a,b,c,p⟩ < 0):=by
 show decide (placeB ⟨3,a,b,c,p⟩ v < 0)=_
 rw [place3]
open Go.RowKit
set_option linter.unusedVariables false
def VAt (w:World) (p:Addr) (t:V):Prop:=w.cell? p=some (.int .i64 t.major)/\w.cell? ⟨p.block,p.off+1,none⟩=some (.int .i64 t.minor)/\w.cell? ⟨p.block,p.off+2,none⟩=some (.int .i64 t.patch)/\w.cell? ⟨p.block,p.off+3,none⟩=some (.string ⟨t.pre.toArray⟩)/\w.cell? ⟨p.block,p.off+4,none⟩=some (.string ⟨#[]⟩)
theorem VAt.grow {w w':World} {p:Addr} {t:V} (h:VAt w p t) (hg:w.grownBy w' none):VAt w' p t :=
 ⟨hg.cell h.1 (by simp),hg.cell h.2.1 (by simp),hg.cell h.2.2.1 (by simp),hg.cell h.2.2.2.1 (by simp),hg.cell h.2.2.2.2 (by simp)⟩
def VsAt (w:World) (a:Addr) (l:List V):Prop:=∀i (hi:i < l.length),VAt w (a.add (i * 5)) l[i]
theorem VsAt.grow {w w':World} {a:Addr} {l:List V} (h:VsAt w a l) (hg:w.grownBy w' none):VsAt w' a l:=fun i hi=>(h i hi).grow hg
open Go.RowKit
set_option linter.unusedVariables false
theorem own_keepV {w w':World} {base:Nat} {e:TypeId} {size:Nat} {v:Value} {n:Nat} {xs:List Value} (h:w.ownsRow base e size v n xs) (hg:w.grownBy w' none):w'.ownsRow base e size v n xs :=
 h.kept hg (by cases v.ownBlock <;> simp)
open Go.RowKit
set_option linter.unusedVariables false
def qFrom (s:Sp):V:=⟨s.f1,s.f2,s.f3,s.f4.data.toList⟩
def qTo (s:Sp):V:=⟨s.t1,s.t2,s.t3,s.t4.data.toList⟩
def bndS (out:List V) (s:Sp):List V:=if s.o=true then insV (qFrom s) out else insV (qTo s) (insV (qFrom s) out)
def bnd (l:List Sp):List V:=l.foldl bndS []
def VsS (w:World) (sl:Value) (l:List V):Prop:=(sl=.slice none 0 0/\l=[])\/∃a cap,sl=.slice (some a) l.length cap/\l.length<=cap/\VsAt w a l
theorem VsS.grow {w w':World} {sl:Value} {l:List V} (h:VsS w sl l) (hg:w.grownBy w' none):VsS w' sl l:=by
 rcases h with h | ⟨a,cap,h1,h2,h3⟩
 ·exact Or.inl h
 ·exact Or.inr ⟨a,cap,h1,h2,h3.grow hg⟩
open Go.RowKit
set_option linter.unusedVariables false
theorem bndS_rising {acc:List V} (s:Sp) (h:Rising acc):Rising (bndS acc s):=by
 unfold bndS
 split
 ·exact ins_rising _ _ h
 ·exact ins_rising _ _ (ins_rising _ _ h)
theorem bnd_rising:∀(l:List Sp) (acc:List V),Rising acc->Rising (l.foldl bndS acc)
 | [],acc,h=>h
 | s :: l,acc,h=>bnd_rising l (bndS acc s) (bndS_rising s h)
theorem bndS_old {acc:List V} (s:Sp) {d:V} (h:d ∈ acc):d ∈ bndS acc s:=by
 unfold bndS
 split
 ·exact ins_old _ _ _ h
 ·exact ins_old _ _ _ (ins_old _ _ _ h)
theorem bnd_old:∀(l:List Sp) (acc:List V) (d:V),d ∈ acc->d ∈ l.foldl bndS acc
 | [],acc,d,h=>h
 | s :: l,acc,d,h=>bnd_old l (bndS acc s) d (bndS_old s h)
theorem sound_pre (s:Sp) (h:soundS s=true):okParts true (qFrom s).pre=true/\(¬ s.o=true->okParts true (qTo s).pre=true):=by
 unfold soundS at h
 rw [Bool.and_eq_true] at h
 constructor
 ·have:=h.1
  unfold soundV vFrom at this
  simp only [Bool.and_eq_true] at this
  exact this.2.2.2.1
 ·intro ho
  have:=h.2
  rw [Bool.or_eq_true] at this
  rcases this with h | this
  ·exact absurd h ho
  ·unfold soundV vTo at this
   simp only [Bool.and_eq_true] at this
   exact this.2.2.2.1
theorem bnd_ok:∀(l:List Sp) (acc:List V),l.all soundS=true->(∀d ∈ acc,okParts true d.pre=true)->∀d ∈ l.foldl bndS acc,okParts true d.pre=true
 | [],acc,_,h=>h
 | s :: l,acc,hs,h=>by
  rw [List.all_cons,Bool.and_eq_true] at hs
  refine bnd_ok l (bndS acc s) hs.2 ?_
  have hp:=sound_pre s hs.1
  intro d hd
  unfold bndS at hd
  split at hd
  ·rcases ins_mem _ _ _ hd with rfl | hd
   ·exact hp.1
   ·exact h d hd
  ·rename_i ho
   rcases ins_mem _ _ _ hd with rfl | hd
   ·exact hp.2 ho
   ·rcases ins_mem _ _ _ hd with rfl | hd
    ·exact hp.1
    ·exact h d hd
theorem bnd_has:∀(l:List Sp) (acc:List V) (s:Sp),s ∈ l->(∃d ∈ l.foldl bndS acc,verC (qFrom s) d=0)/\(¬ s.o=true->∃d ∈ l.foldl bndS acc,verC (qTo s) d=0)
 | [],acc,s,h=>by simp at h
 | t :: l,acc,s,h=>by
  rcases List.mem_cons.1 h with rfl | h
  ·constructor
   ·obtain ⟨d,hd,h0⟩:=ins_new (qFrom s) acc
    refine ⟨d,bnd_old l _ d ?_,h0⟩
    unfold bndS
    split
    ·exact hd
    ·exact ins_old _ _ _ hd
   ·intro ho
    obtain ⟨d,hd,h0⟩:=ins_new (qTo s) (insV (qFrom s) acc)
    refine ⟨d,bnd_old l _ d ?_,h0⟩
    unfold bndS
    rw [if_neg ho]
    exact hd
  ·exact bnd_has l (bndS acc t) s h
theorem er_src (Ls:List (List Sp)):∀(k:Nat),∀e ∈ erL k Ls,∃s ∈ Ls.flatten,(toEd e).at_=qFrom s\/(¬ s.o=true/\(toEd e).at_=qTo s):=by
 induction Ls with
 | nil=>intro k e he;simp [erL] at he
 | cons l Ls ih =>
  intro k e he
  rw [erL] at he
  rcases List.mem_append.1 he with he | he
  ·obtain ⟨s,hs,he⟩:=List.mem_flatMap.1 he
   refine ⟨s,by simp [hs],?_⟩
   unfold erS at he
   split at he
   ·simp at he;rw [he];exact Or.inl rfl
   ·rename_i ho
    split at he
    ·simp at he
     rcases he with rfl | rfl
     ·exact Or.inl rfl
     ·exact Or.inr ⟨ho,rfl⟩
    ·simp at he
  ·obtain ⟨s,hs,h⟩:=ih (k+1) e he
   exact ⟨s,by rw [List.flatten_cons];exact List.mem_append_right _ hs,h⟩
theorem all_flat (Ls:List (List Sp)) (h:Ls.all (·.all soundS)=true):Ls.flatten.all soundS=true:=by
 rw [List.all_eq_true] at h ⊢
 intro s hs
 obtain ⟨l,hl,hs⟩:=List.mem_flatten.1 hs
 exact List.all_eq_true.1 (h l hl) s hs
theorem sweep_bnd (ch:Int->Bool) (h0:ch 0=false) (Ls:List (List Sp)) (hsd:Ls.all (·.all soundS)=true) (E:List Er) (hE:E.Perm (erL 0 Ls)) (hs:SortedE (E.map toEd)) :
  swT (fun b=>ch (having Ls.length b)) (fun _=>0) false (E.map toEd)=tog (fun x=>ch (haveN (Ls.map (·.map toSg)) x)) false (bnd Ls.flatten):=by
 have hE':(E.map toEd).Perm (edL 0 (Ls.map (·.map toSg))):=by rw [<-erL_ed];exact hE.map _
 have hfl:=all_flat Ls hsd
 have hok:=bnd_ok Ls.flatten [] hfl (fun d hd=>by simp at hd)
 have:=sweep_bounds ch h0 (Ls.map (·.map toSg)) (E.map toEd) hE' hs (bnd Ls.flatten) (bnd_rising Ls.flatten [] List.Pairwise.nil) ?_
 ·rw [List.length_map] at this;exact this
 ·intro p hp
  obtain ⟨d,hd,rfl⟩:=(poss_mem _ hs).1 p hp
  obtain ⟨e,he,rfl⟩:=List.mem_map.1 hd
  have he':=hE.mem_iff.1 he
  obtain ⟨s,hs',hsrc⟩:=er_src Ls 0 e he'
  have hb:=bnd_has Ls.flatten [] s hs'
  have hp2:=sound_pre s (List.all_eq_true.1 hfl s hs')
  rcases hsrc with h | ⟨ho,h⟩
  ·obtain ⟨d,hd,hz⟩:=hb.1
   have:qFrom s=d:=ver_one hp2.1 (hok d hd) hz
   rw [h,this];exact hd
  ·obtain ⟨d,hd,hz⟩:=hb.2 ho
   have:qTo s=d:=ver_one (hp2.2 ho) (hok d hd) hz
   rw [h,this];exact hd
end Go.Proofs.YtonfldbigenfhaaGreatDoor
