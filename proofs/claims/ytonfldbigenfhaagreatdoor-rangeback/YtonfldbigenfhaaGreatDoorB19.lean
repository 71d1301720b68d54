import Derived.Test.YtonfldbigenfhaaGreatDoorB18
import Derived.Lib.Join
import Derived.Test.YtonfldbigenfhaaGreatDoorB17
import Derived.Test.YtonfldbigenfhaaGreatDoorB03
import Derived.Laws.AppendOwn
import Derived.Deep.RegionLaw
import Derived.Deep.AppendLies
import Derived.Test.YtonfldbigenfhaaGreatDoorB04
import Derived.Test.YtonfldbigenfhaaGreatDoorB02
import Derived.Laws.BytesString
import Derived.Shelf.Strconv.Itoa3
import Derived.Test.YtonfldbigenfhaaGreatDoorProg
namespace Go.Proofs.YtonfldbigenfhaaGreatDoor
open Go.RowKit
set_option linter.unusedVariables false
def leastV:V:=⟨0,0,0,[48]⟩
def lowS (s:Sp):Bool:=decide (0 < verC (cFrom s) leastV)
def fromT (s:Sp):List UInt8:=textV ⟨s.f1,s.f2,s.f3,s.f4.data.toList,s.f5.data.toList⟩
def toT (s:Sp):List UInt8:=textV ⟨s.t1,s.t2,s.t3,s.t4.data.toList,s.t5.data.toList⟩
def tOf (s:Sp):List UInt8 :=
 if lowS s=true then (if s.o=true then [62,61]++fromT s else ([62,61]++fromT s)++([32]++([60]++toT s))) else if s.o=true then [42] else [60]++toT s
def sepT:List UInt8:=[32,124,124,32]
def noneT:List UInt8:=[60,48,46,48,46,48,45,48]
def rText (N:List Sp):List UInt8:=if N=[] then noneT else Lib.join (N.map tOf) sepT
theorem dec_len:∀(k u:Nat),u < 10 ^ (k+1)->(Lib.decDigits u).length<=k+1
 | 0,u,h=>by
  rw [Lib.decDigits]
  split
  ·simp
  ·simp at h;omega
 | k+1,u,h=>by
  rw [Lib.decDigits]
  split
  ·simp
  ·have h2:u < 10 ^ (k+1) * 10:=by rw [<-Nat.pow_succ];exact h
   have:=dec_len k (u / 10) (by omega)
   simp;omega
theorem itoa_small (n:Int) (h:bound n=true):(Lib.itoa n).length<=10:=by
 unfold bound at h
 simp only [Bool.and_eq_true,decide_eq_true_eq] at h
 rw [itoa_dec h.1]
 exact dec_len 9 n.toNat (by omega)
theorem text_len (t:V) (h:okT t=true):(textV ⟨t.major,t.minor,t.patch,t.pre,[]⟩).length<=t.pre.length+33:=by
 unfold okT soundV at h
 simp only [Bool.and_eq_true] at h
 have h1:=itoa_small _ h.1
 have h2:=itoa_small _ h.2.1
 have h3:=itoa_small _ h.2.2.1
 have h4:(optT 45 t.pre).length<=t.pre.length+1:=by unfold optT;split <;> simp
 have h5:(optT 43 ([]:List UInt8)).length=0:=by simp [optT]
 unfold textV
 simp only [List.length_append,List.length_cons]
 omega
theorem text_zero:textV ⟨0,0,0,[48],[]⟩=[48,46,48,46,48,45,48]:=by
 have h0:Lib.itoa 0=[48]:=by
  rw [itoa_dec (Int.le_refl 0),Lib.decDigits];rfl
 unfold textV
 simp only [h0];rfl
theorem text_zero':textV ⟨0,0,0,[],[]⟩=[48,46,48,46,48]:=by
 have h0:Lib.itoa 0=[48]:=by
  rw [itoa_dec (Int.le_refl 0),Lib.decDigits];rfl
 unfold textV
 simp only [h0];rfl
theorem okT_nums {t:V} (h:okT t=true):0<=t.major/\t.major<=1000000000/\0<=t.minor/\t.minor<=1000000000/\0<=t.patch/\t.patch<=1000000000/\okParts true t.pre=true:=by
 unfold okT soundV bound at h
 simp only [Bool.and_eq_true,decide_eq_true_eq] at h
 exact ⟨h.1.1,h.1.2,h.2.1.1,h.2.1.2,h.2.2.1.1,h.2.2.1.2,h.2.2.2.1⟩
structure NSp (s:Sp):Prop where
 b1:0<=s.f1/\s.f1<=1000000000
 b2:0<=s.f2/\s.f2<=1000000000
 b3:0<=s.f3/\s.f3<=1000000000
 b4:s.f4.size<=1048576
 b5:s.f5=⟨#[]⟩
 c1:0<=s.t1/\s.t1<=1000000000
 c2:0<=s.t2/\s.t2<=1000000000
 c3:0<=s.t3/\s.t3<=1000000000
 c4:s.t4.size<=1048576
 c5:s.t5=⟨#[]⟩
 lf:(fromT s).length<=1048609
 lt:(toT s).length<=1048609
 low:lowS s=false ↔ (s.f1=0/\s.f2=0/\s.f3=0/\s.f4=⟨#[48]⟩)
theorem low_iff (x:V) (h:okT x=true):decide (0 < verC x leastV)=false ↔ x=leastV:=by
 obtain ⟨n1,_,n2,_,n3,_,hp⟩:=okT_nums h
 have hl:=ver_least x n1 n2 n3
 have ha:=v_anti x leastV
 rw [decide_eq_false_iff_not]
 constructor
 ·intro hn
  have h0:verC x leastV=0:=by
   have:verC leastV x<=0:=hl
   omega
  exact ver_one hp (by decide) h0
 ·intro e;rw [e,v_self];omega
theorem nsp_of (x y:V) (o:Bool) (hx:okT x=true) (hxs:x.pre.length<=1048576) (hy:(y=zeroV0\/okT y=true)/\y.pre.length<=1048576):NSp (spV x y o):=by
 obtain ⟨n1,n1',n2,n2',n3,n3',hp⟩:=okT_nums hx
 have hyn:0<=y.major/\y.major<=1000000000/\0<=y.minor/\y.minor<=1000000000/\0<=y.patch/\y.patch<=1000000000:=by
  rcases hy.1 with rfl | h
  ·decide
  ·obtain ⟨m1,m1',m2,m2',m3,m3',_⟩:=okT_nums h
   exact ⟨m1,m1',m2,m2',m3,m3'⟩
 obtain ⟨m1,m1',m2,m2',m3,m3'⟩:=hyn
 refine ⟨⟨n1,n1'⟩,⟨n2,n2'⟩,⟨n3,n3'⟩,?_,rfl,⟨m1,m1'⟩,⟨m2,m2'⟩,⟨m3,m3'⟩,?_,rfl,?_,?_,?_⟩
 ·show (⟨x.pre.toArray⟩:ByteArray).size<=_
  simpa [ByteArray.size] using hxs
 ·show (⟨y.pre.toArray⟩:ByteArray).size<=_
  simpa [ByteArray.size] using hy.2
 ·have:=text_len x hx
  show (textV ⟨x.major,x.minor,x.patch,x.pre.toArray.toList,[]⟩).length<=_
  simp only []
  omega
 ·show (textV ⟨y.major,y.minor,y.patch,y.pre.toArray.toList,[]⟩).length<=_
  rcases hy.1 with rfl | h
  ·show (textV ⟨0,0,0,[],[]⟩).length<=_
   rw [text_zero'];simp
  ·have:=text_len y h
   simp only []
   omega
 ·unfold lowS
  rw [cFrom_spV,low_iff x hx]
  constructor
  ·intro e;rw [e];exact ⟨rfl,rfl,rfl,rfl⟩
  ·rintro ⟨e1,e2,e3,e4⟩
   obtain ⟨a,b,c,p⟩:=x
   simp only [spV] at e1 e2 e3 e4
   subst e1 e2 e3
   have e5:p.toArray=#[48]:=by injection e4
   have e6:p=[48]:=by
    have:=congrArg Array.toList e5
    simpa using this
   rw [e6];rfl
theorem nsp_outs {T:List V} {k:Nat} (h:NT T k):∀s ∈ outs T,NSp s:=by
 intro s hs
 rcases outs_mem T s hs with ⟨x,hx,rfl⟩ | ⟨x,hx,y,hy,rfl⟩
 ·exact nsp_of x zeroV0 true (h.sd x hx) (h.sm x hx) ⟨Or.inl rfl,by decide⟩
 ·exact nsp_of x y false (h.sd x hx) (h.sm x hx) ⟨Or.inr (h.sd y hy),h.sm y hy⟩
theorem tOf_len {s:Sp} (h:NSp s):(tOf s).length<=2097222:=by
 have h1:=h.lf
 have h2:=h.lt
 unfold tOf
 split
 ·split
  ·simp;omega
  ·simp;omega
 ·split
  ·simp
  ·simp;omega
theorem join_le (sep:List UInt8) (m:Nat):∀(l:List (List UInt8)),(∀x ∈ l,x.length<=m)->(Lib.join l sep).length<=l.length * (m+sep.length)
 | [],_=>by simp [Lib.join,List.intercalate]
 | [a],h=>by
  have:=h a (by simp)
  rw [Lib.join_one];simp;omega
 | a :: b :: r,h=>by
  have ih:=join_le sep m (b :: r) (fun x hx=>h x (by simp [hx]))
  have e:Lib.join (a :: b :: r) sep=a++(sep++Lib.join (b :: r) sep):=by simp [Lib.join,List.intercalate]
  have ha:=h a (by simp)
  rw [e,List.length_append,List.length_append,List.length_cons,Nat.add_mul]
  omega
theorem rt_len (N:List Sp) (h:∀s ∈ N,NSp s) (i:Nat):(Lib.join ((N.take i).map tOf) sepT).length<=i * 2097226:=by
 have h1:=join_le sepT 2097222 ((N.take i).map tOf) (fun x hx=>by
  obtain ⟨s,hs,rfl⟩:=List.mem_map.1 hx
  exact tOf_len (h s (List.mem_of_mem_take hs)))
 have h2:((N.take i).map tOf).length<=i:=by rw [List.length_map,List.length_take];omega
 have h3:sepT.length=4:=rfl
 rw [h3] at h1
 have h4:=Nat.mul_le_mul_right 2097226 h2
 exact Nat.le_trans h1 h4
set_option linter.unusedVariables false
theorem num_big {l r:List UInt8} {i u:Nat} (hu:999999999 < u) (hd:l.drop i=Lib.decDigits u++r) (hr:∀c t,r=c :: t->isD c=false):(rdNum l i).1=3/\wildAt l i=false:=by
 obtain ⟨h1,h2,h3,h4⟩:=run_of isD l _ r i hd (dec_all u) hr
 have hl:0 < (Lib.decDigits u).length:=List.length_pos_iff.2 (dec_ne u)
 have hz:=dec_zeros u
 have h0:l[i]?=(Lib.decDigits u)[0]?:=by
  have:l[i]?=(l.drop i)[0]?:=by rw [List.getElem?_drop];rfl
  rw [this,hd,List.getElem?_append_left hl]
 obtain ⟨d,t,e,hdd⟩:=dec_cons u
 refine ⟨?_,wild_not (by rw [hd,e];rfl) hdd⟩
 unfold rdNum
 rw [h1,h2,dec_val,h0,if_neg (by omega),if_neg hz,if_pos (by omega)]
def Wide (x:V):Prop:=(0<=x.major/\x.major<=1000000000)/\(0<=x.minor/\x.minor<=1000000000)/\(0<=x.patch/\x.patch<=1000000000)/\okParts true x.pre=true
def Fine (x:V):Prop:=Nn x.major/\Nn x.minor/\Nn x.patch
def vT (x:V):List UInt8:=textV ⟨x.major,x.minor,x.patch,x.pre,[]⟩
def vP (x:V):Pa:=⟨3,x.major,x.minor,x.patch,x.pre⟩
theorem vt_fine {x:V} (h:Wide x) (hf:Fine x):PT (vT x) (vP x):=pt3 hf.1 hf.2.1 hf.2.2 h.2.2.2 (by decide)
theorem nn_or {a:Int} (h:0<=a/\a<=1000000000):Nn a\/999999999 < a.toNat:=by
 by_cases h1:a<=999999999
 ·exact Or.inl ⟨h.1,h1⟩
 ·exact Or.inr (by omega)
theorem pa_bad {x:V} (h:Wide x) (hf:¬ Fine x) (l r:List UInt8) (i:Nat) (hd:l.drop i=vT x++r) (hr:Stop r):(rdPa l i).1=3:=by
 obtain ⟨h1,h2,h3,hp⟩:=h
 have e:vT x++r=Lib.itoa x.major++46 :: (Lib.itoa x.minor++46 :: (Lib.itoa x.patch++(optT 45 x.pre++(optT 43 []++r)))):=by
  unfold vT textV;simp only [List.append_assoc,List.cons_append]
 rw [e] at hd
 rcases nn_or h1 with n1 | n1
 ·obtain ⟨e1,d1,w1⟩:=num_give n1 hd dot_first
  obtain ⟨d2,g1⟩:=drop_one d1
  rcases nn_or h2 with n2 | n2
  ·obtain ⟨e2,d3,w2⟩:=num_give n2 d2 dot_first
   obtain ⟨d4,g2⟩:=drop_one d3
   rcases nn_or h3 with n3 | n3
   ·exact absurd ⟨n1,n2,n3⟩ hf
   ·rw [itoa_dec h3.1] at d4
    obtain ⟨e3,w3⟩:=num_big n3 d4 (opt_isD x.pre [] r hr)
    unfold rdPa
    rw [w1,e1]
    simp only [Bool.false_eq_true,if_false,if_true]
    unfold pa1
    rw [if_pos g1,w2,e2]
    simp only [Bool.false_eq_true,if_false,if_true]
    unfold pa2
    rw [if_pos g2,w3]
    simp only [Bool.false_eq_true,if_false]
    rw [if_neg (by rw [e3];decide)]
    exact e3
  ·rw [itoa_dec h2.1] at d2
   obtain ⟨e3,w3⟩:=num_big n2 d2 dot_first
   unfold rdPa
   rw [w1,e1]
   simp only [Bool.false_eq_true,if_false,if_true]
   unfold pa1
   rw [if_pos g1,w3]
   simp only [Bool.false_eq_true,if_false]
   rw [if_neg (by rw [e3];decide)]
   exact e3
 ·rw [itoa_dec h1.1] at hd
  obtain ⟨e3,w3⟩:=num_big n1 hd dot_first
  unfold rdPa
  rw [w3]
  simp only [Bool.false_eq_true,if_false]
  rw [if_neg (by rw [e3];decide)]
  exact e3
theorem vt_head {x:V} (h:Wide x):∃c t,vT x=c :: t/\Fst c:=by
 unfold vT textV
 rw [itoa_dec h.1.1]
 obtain ⟨d,t,e,hd⟩:=dec_cons x.major.toNat
 exact ⟨d,_,by rw [e];rfl,Or.inl hd⟩
theorem dset_wide {u:List UInt8} {s:Int} (hu:SgT u s) {x:V} (h:Wide x) (hf:¬ Fine x) (l r:List UInt8) (f i:Nat) (acc:List Te) (hd:l.drop i=u++(vT x++r)) (hr:Stop r) (hl:0 < f):(dset l f i acc).1=3:=by
 obtain ⟨c,t,ec,hc⟩:=vt_head h
 have e1:=sign_give hu l i hd ⟨c,t++r,by rw [ec];rfl,hc⟩
 have d1:l.drop (i+u.length)=vT x++r:=by rw [<-List.drop_drop,hd];simp
 have e2:=pa_bad h hf l r _ d1 hr
 have e4:¬ endsAt l i=true:=by
  rw [ec] at hd
  cases hu
  ·exact ends_not hd (fst_ne hc 124 (by decide) (by decide) (by decide) (by decide))
  all_goals exact ends_not hd (by decide)
 cases f with
 | zero=>omega
 | succ f =>
  unfold dset
  rw [if_neg e4,e1]
  simp only []
  rw [if_neg (by rw [e2];decide)]
  exact e2
theorem sgt_first {u:List UInt8} {s:Int} (hu:SgT u s) {x:V} (h:Wide x) (r:List UInt8):∀c t,u++(vT x++r)=c :: t->c ≠ 32:=by
 obtain ⟨d,t',ec,hc⟩:=vt_head h
 intro c t e
 rw [ec] at e
 cases hu
 ·injection e with e1;rw [<-e1];exact fst_ne hc 32 (by decide) (by decide) (by decide) (by decide)
 all_goals (injection e with e1;rw [<-e1];decide)
theorem one_bad {u:List UInt8} {s:Int} (hu:SgT u s) {x:V} (h:Wide x) (hf:¬ Fine x) (l r:List UInt8) (i g:Nat) (hd:l.drop i=bl g++(u++(vT x++r))) (hr:Stop r):(oneD l i).1=3:=by
 obtain ⟨k1,k2⟩:=skip_give hd (sgt_first hu h r)
 unfold oneD
 rw [k1]
 exact dset_wide hu h hf l r _ _ [] k2 hr (by omega)
theorem one_bad2 {u u':List UInt8} {s s':Int} (hu:SgT u s) (hs:0<=s) (hu':SgT u' s') {x y:V} (h:Wide x) (hx:Fine x) (h':Wide y) (hf:¬ Fine y) (l r:List UInt8) (i g:Nat) (hd:l.drop i=bl g++(u++(vT x++(32 :: (u'++(vT y++r)))))) (hr:Stop r):(oneD l i).1=3:=by
 obtain ⟨k1,k2⟩:=skip_give hd (sgt_first hu h _)
 have ht:TT (u++vT x) s ⟨signOr s,vP x⟩:=⟨u,vT x,vP x,hu,vt_fine h hx,rfl,rfl⟩
 rw [<-List.append_assoc] at k2
 obtain ⟨j,e1,e2,e3,e4,d1,hy⟩:=tt_read ht k2 (by intro c t e;injection e with e1;exact Or.inl e1.symm)
 have d1':l.drop (i+g+(u++vT x).length)=bl 1++(u'++(vT y++r)):=d1
 obtain ⟨m1,m2⟩:=skip_give d1' (sgt_first hu' h' r)
 unfold oneD
 rw [k1]
 unfold dset
 rw [if_neg e4,e1]
 simp only []
 rw [e2]
 simp only [if_true,m1]
 have hlt:i+g+(u++vT x).length+1 < l.length:=by
  obtain ⟨c,t,ec,hc⟩:=vt_head h'
  rw [ec] at m2
  cases hu' <;> exact drop_le m2
 rw [if_neg (fun hh=>by have:=hh.1.1;omega),if_neg (fun hh=>hh.1 (by omega))]
 exact dset_wide hu' h' hf l r _ _ _ m2 hr (by omega)
inductive ET:List UInt8->Prop
 | here (g:Nat) (u:List UInt8) (s:Int) (x:V) (r:List UInt8) (hu:SgT u s) (h:Wide x) (hf:¬ Fine x) (hr:Stop r):ET (bl g++(u++(vT x++r)))
 | next (g:Nat) (u u':List UInt8) (s s':Int) (x y:V) (r:List UInt8) (hu:SgT u s) (hs:0<=s) (hu':SgT u' s') (h:Wide x) (hx:Fine x) (h':Wide y) (hf:¬ Fine y) (hr:Stop r):ET (bl g++(u++(vT x++(32 :: (u'++(vT y++r))))))
 | more (x:List UInt8) (ts:List Te) (y:List UInt8) (h:OneT x ts) (hy:ET y):ET (x++124 :: 124 :: y)
theorem dsets_bad {x:List UInt8} (h:ET x):∀(l:List UInt8) (f i:Nat) (acc:List (List Te)),l.drop i=x->i<=l.length->l.length < f+i->(dsets l f i acc).1=3:=by
 induction h with
 | here g u s x r hu h hf hr =>
  intro l f i acc hd hi hfu
  have e:=one_bad hu h hf l r i g hd hr
  cases f with
  | zero=>omega
  | succ f =>
   unfold dsets
   rw [if_neg (by rw [e];decide)]
   exact e
 | next g u u' s s' x y r hu hs hu' h hx h' hf hr =>
  intro l f i acc hd hi hfu
  have e:=one_bad2 hu hs hu' h hx h' hf l r i g hd hr
  cases f with
  | zero=>omega
  | succ f =>
   unfold dsets
   rw [if_neg (by rw [e];decide)]
   exact e
 | more x ts y h hy ih =>
  intro l f i acc hd hi hf
  have e1:=one_give h l (124 :: 124 :: y) i hd hi (Or.inr ⟨y,rfl⟩)
  have hl:i+x.length+2+y.length=l.length:=by
   have:=congrArg List.length hd
   simp at this;omega
  have d1:l.drop (i+x.length)=124 :: 124 :: y:=by rw [<-List.drop_drop,hd];simp
  obtain ⟨d2,g2⟩:=drop_one d1
  obtain ⟨d3,g3⟩:=drop_one d2
  cases f with
  | zero=>omega
  | succ f =>
   unfold dsets
   rw [e1]
   simp only [if_true]
   rw [if_pos (by unfold barsAt;simp [g2,g3])]
   exact ih l f _ _ d3 (by omega) (by omega)
theorem range_bad {x:List UInt8} (h:ET x):(rdRange x).1=1\/(rdRange x).1=3:=by
 unfold rdRange
 by_cases hl:200 < x.length
 ·rw [if_pos hl];exact Or.inl rfl
 ·have e:=dsets_bad h x (x.length+1) 0 [] rfl (Nat.zero_le _) (by omega)
  rw [if_neg hl,if_neg (by rw [e];decide)]
  exact Or.inr e
structure Ns (s:Sp):Prop where
 ex:∃x y:V,s=spV x y s.o/\okT x=true/\(s.o=false->okT y=true)
def sT (s:Sp):List Te:=if lowS s=true then (if s.o=true then [⟨1,vP (cFrom s)⟩] else [⟨1,vP (cFrom s)⟩,⟨4,vP (cTo s)⟩]) else if s.o=true then [⟨0,pa0⟩] else [⟨4,vP (cTo s)⟩]
theorem okt_wide {x:V} (h:okT x=true):Wide x:=by
 obtain ⟨n1,n1',n2,n2',n3,n3',hp⟩:=okT_nums h
 exact ⟨⟨n1,n1'⟩,⟨n2,n2'⟩,⟨n3,n3'⟩,hp⟩
theorem from_spV (x y:V) (o:Bool):fromT (spV x y o)=vT x/\toT (spV x y o)=vT y/\cFrom (spV x y o)=x/\cTo (spV x y o)=y:=⟨by simp [fromT,spV,vT],by simp [toT,spV,vT],cFrom_spV _ _ _,cTo_spV _ _ _⟩
def Fn (s:Sp):Prop:=(lowS s=true->Fine (cFrom s))/\(s.o=false->Fine (cTo s))
theorem span_text (s:Sp) (h:Ns s):(∀g,SetT (tOf s++bl g) (sT s))/\tOf s ≠ []/\Fn s\/∀g r,Stop r->∃x,x=bl g++(tOf s++r)/\ET x:=by
 obtain ⟨x,y,e,hx,hy⟩:=h.ex
 obtain ⟨o,ho⟩:∃o,s.o=o:=⟨_,rfl⟩
 rw [ho] at e hy
 subst e
 obtain ⟨e1,e2,e3,e4⟩:=from_spV x y o
 have hwx:=okt_wide hx
 unfold tOf sT Fn
 rw [e1,e2,e3,e4]
 have eo:(spV x y o).o=o:=rfl
 rw [eo]
 have ne:∀(u:List UInt8) (z:V),Wide z->u++vT z ≠ []:=fun u z hz=>by
  obtain ⟨c,t,ec,-⟩:=vt_head hz
  rw [ec];simp
 cases hlo:lowS (spV x y o) with
 | true =>
  by_cases fx:Fine x
  ·have px:=vt_fine hwx fx
   cases o with
   | true =>
    refine Or.inl ⟨fun g=>?_,ne _ _ hwx,fun _=>fx,fun h=>by cases h⟩
    exact SetT.last _ 1 _ g ⟨[62,61],vT x,vP x,SgT.ge,px,rfl,rfl⟩
   | false =>
    have hwy:=okt_wide (hy rfl)
    by_cases fy:Fine y
    ·have py:=vt_fine hwy fy
     refine Or.inl ⟨fun g=>?_,by simp,fun _=>fx,fun _=>fy⟩
     have h1:SetT (([60]++vT y)++bl g) [⟨4,vP y⟩]:=SetT.last _ 4 _ g ⟨[60],vT y,vP y,SgT.lt,py,rfl,rfl⟩
     have h2:=SetT.cons ([62,61]++vT x) 1 ⟨1,vP x⟩ 0 _ _ ⟨[62,61],vT x,vP x,SgT.ge,px,rfl,rfl⟩ h1 (by simp)
     simpa [bl] using h2
    ·refine Or.inr fun g r hr=>⟨_,rfl,?_⟩
     have:=ET.next g [62,61] [60] 1 4 x y r SgT.ge (by decide) SgT.lt hwx fx hwy fy hr
     simpa using this
  ·refine Or.inr fun g r hr=>⟨_,rfl,?_⟩
   cases o with
   | true =>
    have:=ET.here g [62,61] 1 x r SgT.ge hwx fx hr
    simpa using this
   | false =>
    have:=ET.here g [62,61] 1 x (32 :: ([60]++vT y++r)) SgT.ge hwx fx (by intro c t e;injection e with e1;exact Or.inl e1.symm)
    simpa using this
 | false =>
  cases o with
  | true =>
   refine Or.inl ⟨fun g=>?_,by simp,(fun h=>by cases h),fun h=>by cases h⟩
   exact SetT.last _ (-1) _ g ⟨[],[42],pa0,SgT.none,PT.w0 42 (Or.inl rfl),rfl,rfl⟩
  | false =>
   have hwy:=okt_wide (hy rfl)
   by_cases fy:Fine y
   ·refine Or.inl ⟨fun g=>?_,by simp,(fun h=>by cases h),fun _=>fy⟩
    exact SetT.last _ 4 _ g ⟨[60],vT y,vP y,SgT.lt,vt_fine hwy fy,rfl,rfl⟩
   ·refine Or.inr fun g r hr=>⟨_,rfl,?_⟩
    have:=ET.here g [60] 4 y r SgT.lt hwy fy hr
    simpa using this
theorem join_two (a b:List UInt8) (r:List (List UInt8)):Lib.join (a :: b :: r) sepT=a++(32 :: 124 :: 124 :: 32 :: Lib.join (b :: r) sepT):=by
 rw [Lib.join_cons,Lib.join_cons]
 simp [Lib.joinTail,sepT]
theorem spans_text:∀(N:List Sp),N ≠ []->(∀s ∈ N,Ns s)->((∀g,RT (bl g++Lib.join (N.map tOf) sepT) (N.map sT))/\∀s ∈ N,Fn s)\/∀g,ET (bl g++Lib.join (N.map tOf) sepT)
 | [],hn,_=>absurd rfl hn
 | [s],_,h=>by
  rw [List.map_cons,List.map_nil,Lib.join_one,List.map_cons,List.map_nil]
  rcases span_text s (h s (by simp)) with ⟨h1,-,hfn⟩ | h1
  ·refine Or.inl ⟨fun g=>RT.one _ _ ⟨g,tOf s,rfl,Or.inl ?_⟩,fun x hx=>by simp at hx;rw [hx];exact hfn⟩
   have:=h1 0
   simpa [bl] using this
  ·refine Or.inr fun g=>?_
   obtain ⟨x,e,hx⟩:=h1 g [] (by intro c t e;cases e)
   rw [e,List.append_nil] at hx
   exact hx
 | s :: t :: r,_,h=>by
  have ih:=spans_text (t :: r) (by simp) (fun x hx=>h x (by simp at hx ⊢;exact Or.inr hx))
  rw [List.map_cons,List.map_cons,join_two,<-List.map_cons]
  rcases span_text s (h s (by simp)) with ⟨h1,h1n,hfn⟩ | h1
  ·have ho:∀g,OneT (bl g++(tOf s++bl 1)) (sT s):=fun g=>⟨g,_,rfl,Or.inl (h1 1)⟩
   have eq:∀g (J:List UInt8),bl g++(tOf s++(32 :: 124 :: 124 :: 32 :: J))=(bl g++(tOf s++bl 1))++124 :: 124 :: (bl 1++J):=fun g J=>by simp [bl]
   rcases ih with ⟨ih,ihf⟩ | ih
   ·refine Or.inl ⟨fun g=>?_,fun x hx=>?_⟩
    ·rw [eq,List.map_cons]
     exact RT.more _ _ _ _ (ho g) (ih 1)
    ·rcases List.mem_cons.1 hx with rfl | hx
     ·exact hfn
     ·exact ihf x hx
   ·refine Or.inr fun g=>?_
    rw [eq]
    exact ET.more _ _ _ (ho g) (ih 1)
  ·refine Or.inr fun g=>?_
   obtain ⟨x,e,hx⟩:=h1 g (32 :: 124 :: 124 :: 32 :: Lib.join ((t :: r).map tOf) sepT) (by intro c t e;injection e with e1;exact Or.inl e1.symm)
   rw [e] at hx
   exact hx
theorem span_adm (s:Sp) (h:Ns s) (hf:Fn s) (v:V) (hv:VOk v):admL (sT s) v=hasS s v:=by
 obtain ⟨x,y,e,hx,hy⟩:=h.ex
 obtain ⟨o,ho⟩:∃o,s.o=o:=⟨_,rfl⟩
 rw [ho] at e hy
 subst e
 obtain ⟨e1,e2,e3,e4⟩:=from_spV x y o
 unfold Fn at hf
 rw [e3,e4] at hf
 have eo:(spV x y o).o=o:=rfl
 rw [eo] at hf
 have hs:hasS (spV x y o) v=hasG ⟨x,y,o⟩ v:=sgS_has ⟨x,y,o⟩ v
 have hwx:=okt_wide hx
 rw [hs]
 unfold sT
 rw [e3,e4,eo]
 cases hlo:lowS (spV x y o) with
 | true =>
  have fx:=hf.1 hlo
  have px:PaOk (vP x):=pa3_ok fx.1 fx.2.1 fx.2.2 hwx.2.2.2
  cases o with
  | true =>
   simp only [if_true,admL,List.all_cons,List.all_nil,Bool.and_true]
   rw [ge_is px hv]
   rw [Bool.eq_iff_iff,has_iff,has_iff]
   show (¬ verC v x < 0/\_) ↔ _
   simp
  | false =>
   have fy:=hf.2 rfl
   have py:PaOk (vP y):=pa3_ok fy.1 fy.2.1 fy.2.2 (okt_wide (hy rfl)).2.2.2
   simp only [if_true,Bool.false_eq_true,if_false,admL,List.all_cons,List.all_nil,Bool.and_true]
   rw [ge_is px hv,lt_is py hv,seg_split x y v hv]
   rfl
 | false =>
  have hlow:x=lowV:=by
   unfold lowS at hlo
   rw [e3,low_iff x hx] at hlo
   exact hlo
  subst hlow
  cases o with
  | true =>
   simp only [Bool.false_eq_true,if_false,if_true,admL,List.all_cons,List.all_nil,Bool.and_true]
   have a1:admB ⟨0,pa0⟩ v=true:=rfl
   rw [a1]
   symm
   rw [has_iff]
   exact ⟨low_all v hv,Or.inl rfl⟩
  | false =>
   have fy:=hf.2 rfl
   have py:PaOk (vP y):=pa3_ok fy.1 fy.2.1 fy.2.2 (okt_wide (hy rfl)).2.2.2
   simp only [Bool.false_eq_true,if_false,admL,List.all_cons,List.all_nil,Bool.and_true]
   rw [lt_is py hv]
   rfl
theorem ns_outs {T:List V} {k:Nat} (h:NT T k):∀s ∈ outs T,Ns s:=by
 intro s hs
 rcases outs_mem T s hs with ⟨x,hx,rfl⟩ | ⟨x,hx,y,hy,rfl⟩
 ·exact ⟨x,zeroV0,rfl,h.sd x hx,fun h=>by cases h⟩
 ·exact ⟨x,y,rfl,h.sd x hx,fun _=>h.sd y hy⟩
theorem text_back {T:List V} {k:Nat} (hT:NT T k):(rdRange (rText (outs T))).1=1\/(rdRange (rText (outs T))).1=3\/∃S,rdRange (rText (outs T))=(0,0,S)/\∀v,VOk v->admS S v=holdsL (outs T) v:=by
 have fin:∀(x:List UInt8) (S:List (List Te)),RT x S->(∀v,VOk v->admS S v=holdsL (outs T) v)->(rdRange x).1=1\/(rdRange x).1=3\/∃S,rdRange x=(0,0,S)/\∀v,VOk v->admS S v=holdsL (outs T) v:=by
  intro x S h hS
  by_cases hl:x.length<=200
  ·exact Or.inr (Or.inr ⟨S,range_give h hl,hS⟩)
  ·left
   unfold rdRange
   rw [if_pos (by omega)]
 have hNs:=ns_outs hT
 generalize hN:outs T=N at *
 by_cases h0:N=[]
 ·subst h0
  have e:rText []=[60]++vT lowV:=by
   unfold rText vT
   rw [if_pos rfl]
   show noneT=[60]++textV ⟨0,0,0,[48],[]⟩
   rw [text_zero];rfl
  rw [e]
  have n0:Nn 0:=by unfold Nn;omega
  have px:PaOk (vP lowV):=pa3_ok n0 n0 n0 (by decide)
  refine fin _ _ (rt1 SgT.lt (vt_fine (okt_wide (by decide)) ⟨n0,n0,n0⟩)) (fun v hv=>?_)
  rw [adm1]
  show admB ⟨4,vP lowV⟩ v=false
  rw [lt_is px hv,Bool.eq_false_iff]
  intro h
  rw [has_iff] at h
  rcases h.2 with h2 | h2
  ·cases h2
  ·exact low_all v hv h2
 ·have e:rText N=Lib.join (N.map tOf) sepT:=by unfold rText;rw [if_neg h0]
  rw [e]
  rcases spans_text N h0 hNs with ⟨h1,h2⟩ | h1
  ·refine fin _ _ (h1 0) (fun v hv=>?_)
   unfold admS holdsL
   rw [List.any_map,Bool.eq_iff_iff,List.any_eq_true,List.any_eq_true]
   constructor
   ·rintro ⟨s,hs,h3⟩
    exact ⟨s,hs,by rw [<-span_adm s (hNs s hs) (h2 s hs) v hv];exact h3⟩
   ·rintro ⟨s,hs,h3⟩
    exact ⟨s,hs,by rw [<-span_adm s (hNs s hs) (h2 s hs) v hv] at h3;exact h3⟩
  ·rcases range_bad (h1 0) with h2 | h2
   ·exact Or.inl h2
   ·exact Or.inr (Or.inl h2)
set_option linter.unusedVariables false
theorem vok_okT {t:V} (h:okT t=true):VOk t:=by
 unfold okT soundV at h
 simp only [Bool.and_eq_true,bound_iff] at h
 exact ⟨h.1.1,h.2.1.1,h.2.2.1.1,h.2.2.2.1⟩
theorem nt_one {T U:List V} {j k:Nat} (hT:NT T j) (hU:NT U k) (h:∀v,VOk v->holdsL (outs T) v=holdsL (outs U) v):T=U:=by
 by_cases e:T=U
 ·exact e
 ·exfalso
  obtain ⟨t,ht,hn⟩:=par_one T U hT.up hU.up hT.ok hU.ok e
  rw [<-outs_par T hT.up,<-outs_par U hU.up] at hn
  refine hn (h t (vok_okT ?_))
  rcases ht with ht | ht
  ·exact hT.sd t ht
  ·exact hU.sd t ht
theorem side_same {D:List V} {x z e:V} (h1:verC z x<=0) (h2:∀p ∈ D,verC z p < 0->verC x p < 0) (he:∃d ∈ D,verC e d=0):verC x e < 0 ↔ verC z e < 0:=by
 obtain ⟨d,hd,h0⟩:=he
 have a:=v_anti e d
 constructor
 ·intro h
  exact v_le_lt h1 h
 ·intro h
  exact v_lt_le (h2 d hd (v_lt_le h (by omega))) (by omega)
theorem has_same {D:List V} {x z:V} {g:Sg} (h1:verC z x<=0) (h2:∀p ∈ D,verC z p < 0->verC x p < 0) (hf:∃d ∈ D,verC g.fr d=0) (ht:g.op=false->∃d ∈ D,verC g.to_ d=0):hasG g x=hasG g z:=by
 rw [Bool.eq_iff_iff,has_iff,has_iff,side_same h1 h2 hf]
 cases ho:g.op with
 | true=>simp
 | false=>rw [side_same h1 h2 (ht ho)]
open Go.RowKit
set_option linter.unusedVariables false
theorem add_lists (x y:List UInt8) (wx:World) (h:x.length+y.length<=9223372036854775807):(Op.stringOp .add ⟨x.toArray⟩ ⟨y.toArray⟩).run Tryz.prog wx=.ok (.string ⟨(x++y).toArray⟩) wx:=by
 rw [run_string_add_sum wx _ _ (by
  show x.toArray.size+y.toArray.size<=_
  simpa using h),ByteArray.mk_append_mk]
theorem nd_len:∀(u:Nat),(Lib.decDigits u).length<=u / 10+1:=by
 intro u
 induction u using Nat.strongRecOn with
 | ind u ih =>
  rw [Lib.decDigits]
  split
  ·simp
  ·have:=ih (u / 10) (by omega)
   simp;omega
theorem itoa_len (n:Int) (h0:-9223372036854775808<=n) (h1:n<=9223372036854775807):(Lib.itoa n).length<=922337203685477584:=by
 unfold Lib.itoa
 split
 ·have:=nd_len n.natAbs;simp;omega
 ·have:=nd_len n.toNat;omega
end Go.Proofs.YtonfldbigenfhaaGreatDoor
namespace Go.Proofs
open Go.Shelf
def Tryz.lays171_ren:Go.Shelf.Ren:=⟨fun | 129=>157 | 171=>77 | 243=>100 | 246=>116 | 283=>144 | 284=>145 | 285=>146 | 286=>147 | 317=>168 | 318=>169 | 319=>170 | 320=>171 | 337=>181 | 338=>182 | n=>n,fun | 22=>54 | 23=>170 | 27=>118 | 28=>131 | 31=>93 | 37=>120 | 40=>236 | 41=>113 | 42=>140 | 43=>117 | 46=>178 | 47=>177 | 51=>210 | 52=>209 | 53=>196 | 54=>197 | 55=>213 | 59=>154 | 60=>155 | 63=>217 | 64=>228 | 67=>95 | 68=>112 | 69=>163 | 70=>119 | 71=>121 | 72=>122 | 73=>123 | 74=>124 | 75=>125 | 76=>126 | 77=>127 | 80=>128 | 81=>99 | 83=>98 | 84=>172 | 104=>38 | 105=>215 | 106=>216 | 111=>55 | 112=>97 | 114=>214 | 115=>189 | 116=>190 | 117=>191 | 118=>192 | 119=>232 | 122=>188 | 123=>193 | 124=>194 | 127=>160 | 131=>207 | 137=>233 | 138=>234 | 139=>235 | 146=>226 | 151=>227 | 164=>173 | 165=>174 | 166=>175 | 171=>195 | 172=>198 | 173=>199 | 174=>200 | 182=>202 | 183=>203 | 211=>218 | 212=>219 | 213=>220 | 218=>221 | 219=>222 | 220=>223 | 222=>137 | 228=>229 | 229=>230 | 232=>237 | 233=>238 | 238=>239 | 239=>240 | 240=>241 | 241=>242 | 242=>243 | 243=>244 | 244=>245 | 245=>246 | 246=>247 | 247=>248 | 248=>249 | 249=>250 | n=>n,fun | 1=>0 | 3=>2 | 4=>3 | 17=>1 | 18=>4 | 19=>5 | n=>n⟩
set_option maxRecDepth 100000 in
theorem Tryz.lays171:Go.Proofs.LaysM.n171 Tryz.prog Tryz.lays171_ren:={
 mixed:=by kernel_rfl
 f129:=Tryz.func157.trans (congrArg some (by kernel_rfl))
 f171:=Tryz.func77.trans (congrArg some (by kernel_rfl))
 f243:=Tryz.func100.trans (congrArg some (by kernel_rfl))
 f246:=Tryz.func116.trans (congrArg some (by kernel_rfl))
 f283:=Tryz.func144.trans (congrArg some (by kernel_rfl))
 f284:=Tryz.func145.trans (congrArg some (by kernel_rfl))
 f285:=Tryz.func146.trans (congrArg some (by kernel_rfl))
 f286:=Tryz.func147.trans (congrArg some (by kernel_rfl))
 f317:=Tryz.func168.trans (congrArg some (by kernel_rfl))
 f318:=Tryz.func169.trans (congrArg some (by kernel_rfl))
 f319:=Tryz.func170.trans (congrArg some (by kernel_rfl))
 f320:=Tryz.func171.trans (congrArg some (by kernel_rfl))
 f337:=Tryz.func181.trans (congrArg some (by kernel_rfl))
 f338:=Tryz.func182.trans (congrArg some (by kernel_rfl))
 t0:=Tryz.underlying0
 a0:=Tryz.isAgg0
 z0:=Tryz.sizeOf0
 v0:=Tryz.zeroValue0
 t2:=Tryz.underlying2
 a2:=Tryz.isAgg2
 z2:=Tryz.sizeOf2
 v2:=Tryz.zeroValue2
 t3:=Tryz.underlying3
 a3:=Tryz.isAgg3
 z3:=Tryz.sizeOf3
 v3:=Tryz.zeroValue3
 t4:=Tryz.underlying4
 a4:=Tryz.isAgg4
 z4:=Tryz.sizeOf4
 v4:=Tryz.zeroValue4
 t5:=Tryz.underlying5
 a5:=Tryz.isAgg5
 z5:=Tryz.sizeOf5
 v5:=Tryz.zeroValue5
 t9:=Tryz.underlying9
 a9:=Tryz.isAgg9
 z9:=Tryz.sizeOf9
 v9:=Tryz.zeroValue9
 t20:=Tryz.underlying20
 a20:=Tryz.isAgg20
 z20:=Tryz.sizeOf20
 v20:=Tryz.zeroValue20
 t37:=Tryz.underlying120
 a37:=Tryz.isAgg120
 z37:=Tryz.sizeOf120
 v37:=Tryz.zeroValue120
 t46:=Tryz.underlying178
 a46:=Tryz.isAgg178
 z46:=Tryz.sizeOf178
 v46:=Tryz.zeroValue178
 t51:=Tryz.underlying210
 a51:=Tryz.isAgg210
 z51:=Tryz.sizeOf210
 v51:=Tryz.zeroValue210
 t53:=Tryz.underlying196
 a53:=Tryz.isAgg196
 z53:=Tryz.sizeOf196
 v53:=Tryz.zeroValue196
 t171:=Tryz.underlying195
 a171:=Tryz.isAgg195
 z171:=Tryz.sizeOf195
 v171:=Tryz.zeroValue195
 t173:=Tryz.underlying199
 a173:=Tryz.isAgg199
 z173:=Tryz.sizeOf199
 v173:=Tryz.zeroValue199
 t212:=Tryz.underlying219
 a212:=Tryz.isAgg219
 z212:=Tryz.sizeOf219
 v212:=Tryz.zeroValue219
 t213:=Tryz.underlying220
 a213:=Tryz.isAgg220
 z213:=Tryz.sizeOf220
 t232:=Tryz.underlying237
 a232:=Tryz.isAgg237
 z232:=Tryz.sizeOf237
 v232:=Tryz.zeroValue237
 t233:=Tryz.underlying238
 a233:=Tryz.isAgg238
 z233:=Tryz.sizeOf238
 v233:=Tryz.zeroValue238
 g17:=by kernel_rfl
 g18:=by kernel_rfl
 g19:=by kernel_rfl
 i0:=by kernel_rfl
 i2:=by kernel_rfl
 i3:=by kernel_rfl
 i4:=by kernel_rfl
 i5:=by kernel_rfl
 i9:=by kernel_rfl
 i20:=by kernel_rfl
 i37:=by kernel_rfl
 i46:=by kernel_rfl
 i51:=by kernel_rfl
 i53:=by kernel_rfl
 i171:=by kernel_rfl
 i173:=by kernel_rfl
 i212:=by kernel_rfl
 i232:=by kernel_rfl
 i233:=by kernel_rfl
 m17:=by kernel_rfl
 m18:=by kernel_rfl
 m19:=by kernel_rfl }
end Go.Proofs
