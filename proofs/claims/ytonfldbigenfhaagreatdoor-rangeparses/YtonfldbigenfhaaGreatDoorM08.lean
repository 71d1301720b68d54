import Derived.Test.YtonfldbigenfhaaGreatDoorM07
import Derived.Test.YtonfldbigenfhaaGreatDoorM04
namespace Go.Proofs.YtonfldbigenfhaaGreatDoor
set_option linter.unusedVariables false
structure Ed where
 at_:V
 l:Nat
 d:Int
def upd (b:Nat->Int) (l:Nat) (d:Int):Nat->Int:=fun j=>if j=l then b j+d else b j
def tot:List Ed->Nat->Int
 | [],_=>0
 | e :: r,j=>(if j=e.l then e.d else 0)+tot r j
def sumB:List Ed->Nat->V->Int
 | [],_,_=>0
 | e :: r,j,x=>(if j=e.l/\verC e.at_ x<=0 then e.d else 0)+sumB r j x
def nextSame (e:Ed):List Ed->Bool
 | []=>false
 | e' :: _=>decide (verC e.at_ e'.at_=0)
def swT (wt:(Nat->Int)->Bool):(Nat->Int)->Bool->List Ed->List V
 | _,_,[]=>[]
 | b,on,e :: r =>
  if nextSame e r=true then swT wt (upd b e.l e.d) on r
  else if wt (upd b e.l e.d)=on then swT wt (upd b e.l e.d) on r
  else e.at_ :: swT wt (upd b e.l e.d) (wt (upd b e.l e.d)) r
def poss:List Ed->List V
 | []=>[]
 | e :: r=>if nextSame e r=true then poss r else e.at_ :: poss r
def SortedE (E:List Ed):Prop:=E.Pairwise fun a b=>verC a.at_ b.at_<=0
theorem tot_app (A B:List Ed) (j:Nat):tot (A++B) j=tot A j+tot B j:=by
 induction A with
 | nil=>simp [tot]
 | cons e A ih=>simp only [List.cons_append,tot,ih];omega
theorem sumB_app (A B:List Ed) (j:Nat) (x:V):sumB (A++B) j x=sumB A j x+sumB B j x:=by
 induction A with
 | nil=>simp [sumB]
 | cons e A ih=>simp only [List.cons_append,sumB,ih];omega
theorem sumB_all (A:List Ed) (j:Nat) (x:V) (h:∀e ∈ A,verC e.at_ x<=0):sumB A j x=tot A j:=by
 induction A with
 | nil=>rfl
 | cons e A ih =>
  have he:=h e (by simp)
  simp only [sumB,tot,ih (fun e' h'=>h e' (by simp [h'])),he,and_true]
theorem sumB_none (A:List Ed) (j:Nat) (x:V) (h:∀e ∈ A,¬ verC e.at_ x<=0):sumB A j x=0:=by
 induction A with
 | nil=>rfl
 | cons e A ih =>
  have he:=h e (by simp)
  simp only [sumB,ih (fun e' h'=>h e' (by simp [h'])),he,and_false,if_false]
  omega
theorem sumB_congr (A:List Ed) (j:Nat) (x y:V) (h:∀e ∈ A,verC e.at_ x<=0 ↔ verC e.at_ y<=0):sumB A j x=sumB A j y:=by
 induction A with
 | nil=>rfl
 | cons e A ih =>
  have he:=h e (by simp)
  simp only [sumB,ih (fun e' h'=>h e' (by simp [h'])),he]
theorem behind_all {e:Ed} {r:List Ed} (hs:SortedE (e :: r)) (hn:¬ nextSame e r=true):∀e' ∈ r,verC e.at_ e'.at_ < 0:=by
 cases r with
 | nil=>intro e' h;simp at h
 | cons f r =>
  have h1:=(List.pairwise_cons.1 hs).1
  have h2:=(List.pairwise_cons.1 (List.pairwise_cons.1 hs).2).1
  have hf:verC e.at_ f.at_ < 0:=by
   have a1:=h1 f (by simp)
   have a2:verC e.at_ f.at_ ≠ 0:=fun e0=>hn (by simp [nextSame,e0])
   omega
  intro e' he'
  rcases List.mem_cons.1 he' with rfl | he'
  ·exact hf
  ·exact v_lt_le hf (h2 e' he')
theorem swT_tog (wt:(Nat->Int)->Bool) (E:List Ed) (h:V->Bool) (hh:∀x,h x=wt (fun j=>sumB E j x)) (hs:SortedE E) :
  ∀(r pre:List Ed) (on:Bool),E=pre++r->swT wt (fun j=>tot pre j) on r=tog h on (poss r)
 | [],pre,on,hE=>rfl
 | e :: r,pre,on,hE=>by
  have hE':E=(pre++[e])++r:=by rw [hE];simp
  have hb:upd (fun j=>tot pre j) e.l e.d=fun j=>tot (pre++[e]) j:=by
   funext j
   rw [tot_app]
   unfold upd
   by_cases hj:j=e.l
   ·simp [tot,hj]
   ·simp [tot,hj]
  have ih:=fun on=>swT_tog wt E h hh hs r (pre++[e]) on hE'
  unfold swT poss
  rw [hb]
  by_cases hn:nextSame e r=true
  ·rw [if_pos hn,if_pos hn];exact ih on
  ·rw [if_neg hn,if_neg hn]
   have hw:wt (fun j=>tot (pre++[e]) j)=h e.at_:=by
    rw [hh]
    congr 1
    funext j
    rw [hE',sumB_app]
    have hsr:SortedE (e :: r):=by rw [hE] at hs;exact (List.pairwise_append.1 hs).2.1
    have hpre:∀e' ∈ pre++[e],verC e'.at_ e.at_<=0:=by
     intro e' he'
     rcases List.mem_append.1 he' with h1 | h1
     ·rw [hE] at hs;exact (List.pairwise_append.1 hs).2.2 e' h1 e (by simp)
     ·simp at h1;rw [h1,v_self];omega
    have hr:=behind_all hsr hn
    rw [sumB_all _ j _ hpre,sumB_none r j _ (fun e' he'=>by have:=hr e' he';have:=v_anti e.at_ e'.at_;omega)]
    omega
   rw [hw]
   unfold tog
   by_cases ho:h e.at_=on
   ·rw [if_pos ho,if_pos ho];exact ih on
   ·rw [if_neg ho,if_neg ho,ih]
theorem poss_mem (E:List Ed) (hs:SortedE E):(∀p ∈ poss E,∃e ∈ E,e.at_=p)/\(∀e ∈ E,∃p ∈ poss E,verC e.at_ p=0):=by
 induction E with
 | nil=>exact ⟨by simp [poss],by simp⟩
 | cons e r ih =>
  obtain ⟨i1,i2⟩:=ih (List.pairwise_cons.1 hs).2
  unfold poss
  by_cases hn:nextSame e r=true
  ·rw [if_pos hn]
   refine ⟨fun p hp=>?_,fun e' he'=>?_⟩
   ·obtain ⟨e',h1,h2⟩:=i1 p hp;exact ⟨e',by simp [h1],h2⟩
   ·rcases List.mem_cons.1 he' with rfl | he'
    ·cases r with
     | nil=>simp [nextSame] at hn
     | cons f r =>
      have hf:verC e'.at_ f.at_=0:=by simpa [nextSame] using hn
      obtain ⟨p,hp,h0⟩:=i2 f (by simp)
      exact ⟨p,hp,by have:=(good_ver.trans e'.at_ f.at_ p (by omega) (by omega)).2.1 ⟨hf,h0⟩;exact this⟩
    ·exact i2 e' he'
  ·rw [if_neg hn]
   refine ⟨fun p hp=>?_,fun e' he'=>?_⟩
   ·rcases List.mem_cons.1 hp with rfl | hp
    ·exact ⟨e,by simp,rfl⟩
    ·obtain ⟨e',h1,h2⟩:=i1 p hp;exact ⟨e',by simp [h1],h2⟩
   ·rcases List.mem_cons.1 he' with rfl | he'
    ·exact ⟨e'.at_,by simp,v_self _⟩
    ·obtain ⟨p,hp,h0⟩:=i2 e' he';exact ⟨p,by simp [hp],h0⟩
theorem poss_rising (E:List Ed) (hs:SortedE E):Rising (poss E):=by
 induction E with
 | nil=>exact List.Pairwise.nil
 | cons e r ih =>
  have hr:=(List.pairwise_cons.1 hs).2
  unfold poss
  by_cases hn:nextSame e r=true
  ·rw [if_pos hn];exact ih hr
  ·rw [if_neg hn]
   refine List.pairwise_cons.2 ⟨fun p hp=>?_,ih hr⟩
   obtain ⟨e',h1,rfl⟩:=(poss_mem r hr).1 p hp
   exact behind_all hs hn e' h1
def joinD:List (List UInt8)->List UInt8
 | []=>[]
 | [p]=>p
 | p :: q :: r=>p++46 :: joinD (q :: r)
theorem join_split (l:List UInt8):joinD (splitD l)=l:=by
 induction l with
 | nil=>rfl
 | cons c l ih =>
  rw [splitD_cons]
  cases hs:splitD l with
  | nil=>exact absurd hs (splitD_ne l)
  | cons p r =>
   rw [hs] at ih
   by_cases hc:c=46
   ·rw [if_pos hc]
    simp only [joinD,List.nil_append]
    rw [ih,hc]
   ·rw [if_neg hc]
    cases r with
    | nil=>simp only [joinD] at ih ⊢;rw [ih]
    | cons q r=>simp only [joinD,List.cons_append] at ih ⊢;rw [ih]
theorem bytes_zero:∀(a b:List UInt8),Lib.compareBytes a b=0->a=b
 | [],[],_=>rfl
 | [],_ :: _,h=>by simp [Lib.compareBytes] at h
 | _ :: _,[],h=>by simp [Lib.compareBytes] at h
 | x :: a,y :: b,h=>by
  rw [bytes_list] at h
  unfold listC at h
  have hc:byteC x y=0:=by
   by_cases h0:byteC x y=0
   ·exact h0
   ·rw [if_neg h0] at h;exact h
  simp only [hc,if_true] at h
  rw [<-bytes_list] at h
  have e1:x=y:=by
   unfold byteC at hc
   have:=cmp_zero.1 hc
   exact UInt8.toNat_inj.1 (by omega)
  rw [e1,bytes_zero a b h]
theorem bare_head {c:UInt8} {r:List UInt8} (h:c ≠ 48):bareT (c :: r)=c :: r:=by
 unfold bareT Lib.trimLeftB
 rw [List.dropWhile_cons]
 have:(c == 48)=false:=by simpa using h
 rw [this];simp
theorem bare_inj {p q:List UInt8} (hp:okPart true p=true) (hq:okPart true q=true) (np:numT p=true) (nq:numT q=true) (h:bareT p=bareT q):p=q:=by
 have key:∀p:List UInt8,okPart true p=true->numT p=true->(p=[48]/\bareT p=[])\/(bareT p=p/\p ≠ []/\p ≠ [48]):=by
  intro p hp np
  unfold numT at np
  simp only [Bool.and_eq_true,Bool.not_eq_true'] at np
  cases p with
  | nil=>simp at np
  | cons c r =>
   by_cases hc:c=48
   ·subst hc
    cases r with
    | nil=>exact Or.inl ⟨rfl,by decide⟩
    | cons d r =>
     exfalso
     unfold okPart badZ at hp
     rw [np.2] at hp
     simp at hp
   ·exact Or.inr ⟨bare_head hc,by simp,fun e=>hc (by injection e)⟩
 rcases key p hp np with ⟨e1,e2⟩ | ⟨e1,e2,e3⟩ <;> rcases key q hq nq with ⟨f1,f2⟩ | ⟨f1,f2,f3⟩
 ·rw [e1,f1]
 ·rw [e2,f1] at h;exact absurd h.symm f2
 ·rw [e1,f2] at h;exact absurd h e2
 ·rw [e1,f1] at h;exact h
theorem part_one {p q:List UInt8} (hp:okPart true p=true) (hq:okPart true q=true) (h:partC p q=0):p=q:=by
 cases np:numT p with
 | true =>
  cases nq:numT q with
  | true =>
   rw [partC_nn np nq] at h
   split at h
   ·exact bare_inj hp hq np nq (bytes_zero _ _ h)
   ·rename_i hl;exact absurd (cmp_zero.1 h) hl
  | false=>rw [partC_nw np nq] at h;exact absurd h (by decide)
 | false =>
  cases nq:numT q with
  | true=>rw [partC_wn np nq] at h;exact absurd h (by decide)
  | false=>rw [partC_ww np nq] at h;exact bytes_zero _ _ h
theorem parts_one:∀(A B:List (List UInt8)),A.all (okPart true)=true->B.all (okPart true)=true->listC partC A B=0->A=B
 | [],[],_,_,_=>rfl
 | [],_ :: _,_,_,h=>by simp [listC] at h
 | _ :: _,[],_,_,h=>by simp [listC] at h
 | p :: A,q :: B,ha,hb,h=>by
  simp only [List.all_cons,Bool.and_eq_true] at ha hb
  unfold listC at h
  by_cases h0:partC p q=0
  ·rw [if_pos h0] at h
   rw [part_one ha.1 hb.1 h0,parts_one A B ha.2 hb.2 h]
  ·rw [if_neg h0] at h;exact absurd h h0
theorem pre_one {a b:List UInt8} (ha:okParts true a=true) (hb:okParts true b=true) (h:preC a b=0):a=b:=by
 by_cases h0:a=[]\/b=[]
 ·rw [pre_empty a b h0] at h
  have:=cmp_zero.1 h
  rcases h0 with rfl | rfl
  ·simp at this;rw [this]
  ·simp at this;exact List.length_eq_zero_iff.1 (by omega)
 ·have hna:a ≠ []:=fun e=>h0 (Or.inl e)
  have hnb:b ≠ []:=fun e=>h0 (Or.inr e)
  rw [pre_full a b hna hnb] at h
  have:=parts_one _ _ (okParts_split ha hna) (okParts_split hb hnb) h
  rw [<-join_split a,<-join_split b,this]
theorem ver_one {a b:V} (ha:okParts true a.pre=true) (hb:okParts true b.pre=true) (h:verC a b=0):a=b:=by
 rw [verC_eq] at h
 split at h
 ·rename_i e1
  split at h
  ·rename_i e2
   split at h
   ·rename_i e3
    have h1:=cmp_zero.1 e1
    have h2:=cmp_zero.1 e2
    have h3:=cmp_zero.1 e3
    have h4:=pre_one ha hb h
    cases a;cases b
    simp only at h1 h2 h3 h4
    rw [h1,h2,h3,h4]
   ·rename_i e3;exact absurd h e3
  ·rename_i e2;exact absurd h e2
 ·rename_i e1;exact absurd h e1
def insV (v:V):List V->List V
 | []=>[v]
 | x :: l=>if verC v x=0 then x :: l else if verC v x < 0 then v :: x :: l else x :: insV v l
theorem ins_mem (v:V):∀(l:List V) (d:V),d ∈ insV v l->d=v\/d ∈ l
 | [],d,h=>by simp [insV] at h;exact Or.inl h
 | x :: l,d,h=>by
  unfold insV at h
  split at h
  ·exact Or.inr h
  ·split at h
   ·rcases List.mem_cons.1 h with e | e
    ·exact Or.inl e
    ·exact Or.inr e
   ·rcases List.mem_cons.1 h with e | e
    ·exact Or.inr (by simp [e])
    ·rcases ins_mem v l d e with e | e
     ·exact Or.inl e
     ·exact Or.inr (by simp [e])
theorem ins_old (v:V):∀(l:List V) (d:V),d ∈ l->d ∈ insV v l
 | [],d,h=>by simp at h
 | x :: l,d,h=>by
  unfold insV
  split
  ·exact h
  ·split
   ·exact List.mem_cons_of_mem _ h
   ·rcases List.mem_cons.1 h with e | e
    ·simp [e]
    ·exact List.mem_cons_of_mem _ (ins_old v l d e)
theorem ins_new (v:V):∀(l:List V),∃d ∈ insV v l,verC v d=0
 | []=>⟨v,by simp [insV],v_self v⟩
 | x :: l=>by
  unfold insV
  split
  ·rename_i h;exact ⟨x,by simp,h⟩
  ·split
   ·exact ⟨v,by simp,v_self v⟩
   ·obtain ⟨d,hd,h⟩:=ins_new v l
    exact ⟨d,by simp [hd],h⟩
theorem ins_rising (v:V):∀(l:List V),Rising l->Rising (insV v l)
 | [],_=>by simp [insV,Rising]
 | x :: l,h=>by
  have h1:=(List.pairwise_cons.1 h).1
  have h2:=(List.pairwise_cons.1 h).2
  unfold insV
  split
  ·exact h
  ·split
   ·rename_i h0 hlt
    refine List.pairwise_cons.2 ⟨fun d hd=>?_,h⟩
    rcases List.mem_cons.1 hd with e | e
    ·rw [e];exact hlt
    ·exact v_lt_trans hlt (h1 d e)
   ·rename_i h0 hge
    refine List.pairwise_cons.2 ⟨fun d hd=>?_,ins_rising v l h2⟩
    rcases ins_mem v l d hd with e | e
    ·rw [e];have:=v_anti x v;omega
    ·exact h1 d e
structure Sg where
 fr:V
 to_:V
 op:Bool
def hasG (s:Sg) (x:V):Bool:=decide (verC s.fr x<=0) && (s.op || decide (verC x s.to_ < 0))
def holdsG (l:List Sg) (x:V):Bool:=l.any fun s=>hasG s x
def edS (k:Nat) (s:Sg):List Ed:=if s.op=true then [⟨s.fr,k,1⟩] else if verC s.fr s.to_ < 0 then [⟨s.fr,k,1⟩,⟨s.to_,k,-1⟩] else []
def edL:Nat->List (List Sg)->List Ed
 | _,[]=>[]
 | k,l :: Ls=>l.flatMap (edS k)++edL (k+1) Ls
def cnt (l:List Sg) (x:V):Int:=(l.countP fun s=>hasG s x:Nat)
theorem sum_span (k j:Nat) (s:Sg) (x:V):sumB (edS k s) j x=if j=k then (if hasG s x=true then 1 else 0) else 0:=by
 unfold edS hasG
 by_cases ho:s.op=true
 ·rw [if_pos ho,ho]
  simp only [sumB,Bool.true_or,Bool.and_true,decide_eq_true_eq]
  by_cases hj:j=k <;> simp [hj]
 ·have ho':s.op=false:=by simpa using ho
  rw [if_neg ho,ho']
  simp only [Bool.false_or,Bool.and_eq_true,decide_eq_true_eq]
  have ha:=v_anti x s.to_
  by_cases hlt:verC s.fr s.to_ < 0
  ·rw [if_pos hlt]
   simp only [sumB]
   by_cases hj:j=k
   ·simp only [hj,true_and,if_true]
    by_cases h1:verC s.fr x<=0
    ·by_cases h2:verC x s.to_ < 0
     ·have h3:¬ verC s.to_ x<=0:=by omega
      simp [h1,h2,h3]
     ·have h3:verC s.to_ x<=0:=by omega
      simp [h1,h2,h3]
    ·have h3:¬ verC s.to_ x<=0:=fun h=>h1 (by have:=v_lt_le hlt h;omega)
     simp [h1,h3]
   ·simp [hj]
  ·rw [if_neg hlt]
   simp only [sumB]
   have:¬ (verC s.fr x<=0/\verC x s.to_ < 0):=fun h=>hlt (v_le_lt h.1 h.2)
   rw [if_neg this];simp
theorem sum_list (k j:Nat) (l:List Sg) (x:V):sumB (l.flatMap (edS k)) j x=if j=k then cnt l x else 0:=by
 induction l with
 | nil=>simp [sumB,cnt]
 | cons s l ih =>
  rw [List.flatMap_cons,sumB_app,ih,sum_span]
  unfold cnt
  rw [List.countP_cons]
  by_cases hj:j=k
  ·simp only [hj,if_true]
   by_cases h:hasG s x=true <;> simp [h];omega
  ·simp [hj]
theorem sum_lists (x:V):∀(Ls:List (List Sg)) (k j:Nat),sumB (edL k Ls) j x=if k<=j then (match Ls[j - k]? with | some l=>cnt l x | none=>0) else 0
 | [],k,j=>by simp [edL,sumB]
 | l :: Ls,k,j=>by
  rw [edL,sumB_app,sum_list,sum_lists x Ls (k+1) j]
  by_cases hk:k<=j
  ·by_cases hj:j=k
   ·subst hj
    rw [if_pos rfl,if_neg (show ¬ j+1<=j by omega),if_pos hk]
    simp
   ·have h1:k+1<=j:=by omega
    rw [if_neg hj,if_pos h1,if_pos hk,show j - k=(j - (k+1))+1 by omega,List.getElem?_cons_succ]
    omega
  ·have h1:¬ k+1<=j:=by omega
   rw [if_neg (by omega),if_neg h1,if_neg hk];rfl
def having (n:Nat) (b:Nat->Int):Int:=((List.range n).map fun j=>min (b j) 1).sum
theorem sumB_perm {A B:List Ed} (h:A.Perm B) (j:Nat) (x:V):sumB A j x=sumB B j x:=by
 induction h with
 | nil=>rfl
 | cons e _ ih=>simp only [sumB,ih]
 | swap a b l=>simp only [sumB];omega
 | trans _ _ ih1 ih2=>exact ih1.trans ih2
theorem cnt_min (l:List Sg) (x:V):min (cnt l x) 1=if holdsG l x=true then 1 else 0:=by
 unfold cnt holdsG
 by_cases h:(l.any fun s=>hasG s x)=true
 ·rw [if_pos h]
  obtain ⟨s,hs,hh⟩:=List.any_eq_true.1 h
  have:0 < l.countP fun s=>hasG s x:=List.countP_pos_iff.2 ⟨s,hs,hh⟩
  omega
 ·rw [if_neg h]
  have:l.countP (fun s=>hasG s x)=0:=by
   rw [List.countP_eq_zero]
   intro s hs hh
   exact h (List.any_eq_true.2 ⟨s,hs,hh⟩)
  omega
def haveN (Ls:List (List Sg)) (x:V):Int:=(Ls.map fun l=>if holdsG l x=true then (1:Int) else 0).sum
theorem having_lists (Ls:List (List Sg)) (E:List Ed) (hE:E.Perm (edL 0 Ls)) (x:V):having Ls.length (fun j=>sumB E j x)=haveN Ls x:=by
 unfold having haveN
 have:(List.range Ls.length).map (fun j=>min (sumB E j x) 1)=Ls.map fun l=>if holdsG l x=true then (1:Int) else 0:=by
  apply List.ext_getElem
  ·simp
  ·intro i h1 h2
   have hi:i < Ls.length:=by simpa using h2
   rw [List.getElem_map,List.getElem_range,List.getElem_map,sumB_perm hE,sum_lists,if_pos (Nat.zero_le _)]
   simp only [Nat.sub_zero,List.getElem?_eq_getElem hi]
   exact cnt_min _ _
 rw [this]
open Go.RowKit
set_option maxHeartbeats 400000 in
theorem some_any (x y:Int) (w:World):Calls Tryz.prog 50 #[.int .i64 x,.int .i64 y] w fun e w'=>e=.returned (.bool (decide (0 < x)))/\w'=w:=by
 go_enter Tryz.func50,Tryz.ntmps50
 go_wp2
 go_ret
 exact ⟨rfl,rfl⟩
set_option maxHeartbeats 400000 in
theorem every_any (x y:Int) (w:World):Calls Tryz.prog 51 #[.int .i64 x,.int .i64 y] w fun e w'=>e=.returned (.bool (decide (x=y)))/\w'=w:=by
 go_enter Tryz.func51,Tryz.ntmps51
 go_wp2
 go_ret
 exact ⟨ret_bool (by rw [Bool.eq_iff_iff];simp),rfl⟩
set_option maxHeartbeats 400000 in
theorem begin_any (g o:Nat) (x d:Int) (w:World) (h:w.cell? ⟨g,o,none⟩=some (.int .i64 x)) (hf:w.frozen? ⟨g,o,none⟩=false) (h1:-4611686018427387904<=x/\x<=4611686018427387904) (h2:-1<=d/\d<=1) :
  Calls Tryz.prog 83 #[.pointer (some ⟨g,o,none⟩),.int .i64 d] w fun e w'=>e=.returned (.int .i64 (min (x+d) 1 - min x 1))/\w'=w.setCell ⟨g,o,none⟩ (.int .i64 (x+d)):=by
 have r1:IntKind.i64.wrap (x+d)=x+d:=by rw [IntKind.wrap_i64];omega
 have r2:IntKind.i64.wrap (min (x+d) 1 - min x 1)=min (x+d) 1 - min x 1:=by rw [IntKind.wrap_i64];omega
 go_enter Tryz.func83,Tryz.ntmps83
 go_wp2
 go_ret
 exact ⟨rfl,rfl⟩
set_option maxHeartbeats 400000 in
theorem bound_any (a1 a2 a3:Int) (a4 a5:ByteArray) (w:World) (hs:a4.size<=281474976710656) :
  Calls Tryz.prog 84 #[.agg #[.int .i64 a1,.int .i64 a2,.int .i64 a3,.string a4,.string a5]] w fun e w'=>e=.returned (.agg #[.int .i64 a1,.int .i64 a2,.int .i64 a3,.string a4,.string ⟨#[]⟩])/\w.grownBy w' none:=by
 have CC:Hid (∀w,Calls Tryz.prog 105 #[.string a4] w fun e w'=>e=.returned (.string a4)/\w.grownBy w' none):=fun w=>clone_any a4 w hs
 clear hs
 go_enter Tryz.func84,Tryz.ntmps84
 go_wp2_with (first | (go_at_call 105;refine (CC.out _).mono ?_))
 rintro e w1 ⟨rfl,hg⟩
 obtain ⟨A,hA⟩:∃A,w.heap.size=A:=⟨_,rfl⟩
 have HXA:Hid (VX A a1 a2 a3 a4 a5 w1):=by
  show w1.heap[A]?=_
  rw [hg.block A (by rw [<-hA];simp;omega) (by simp),<-hA,Lib.alloc_old _ _ _ (by simp)]
  exact heap_alloc_new w _
 have HXB:Hid (VX (A+1) 0 0 0 ⟨#[]⟩ ⟨#[]⟩ w1):=by
  show w1.heap[A+1]?=_
  rw [hg.block (A+1) (by rw [<-hA];simp) (by simp)]
  have:=heap_alloc_new (w.alloc (.cells #[.int .i64 a1,.int .i64 a2,.int .i64 a3,.string a4,.string a5] 35)) (.cells #[.int .i64 0,.int .i64 0,.int .i64 0,.string ⟨#[]⟩,.string ⟨#[]⟩] 35)
  rw [<-hA]
  simpa using this
 have HG:Hid (w.grownBy w1 none):=gb_trans (gb_alloc (gb_alloc (gb_refl w none) _) _) hg
 have HWA:Hid (w.heap.size<=A):=Nat.le_of_eq hA
 rw [hA]
 clear hA hg
 obtain ⟨v0,v1,v2,v3,v4⟩:=HXA.out.cells
 have vf:=HXA.out.f
 obtain ⟨u0,u1,u2,u3,u4⟩:=HXB.out.cells
 have uf:=HXB.out.f
 go_wp2
 have hB:VX (A+1) 0 0 0 ⟨#[]⟩ ⟨#[]⟩ ((w1.setCell ⟨A,3,none⟩ (.string a4)).setCell ⟨A,4,none⟩ (.string ⟨#[]⟩)):=(HXB.out.other (by omega) _ _).other (by omega) _ _
 refine bodyPost_ret (results_cell_row rfl _ _ (A+1) 35 #[.int .i64 a1,.int .i64 a2,.int .i64 a3,.string a4,.string ⟨#[]⟩] (0,0) _ rfl (put5_row hB a1 a2 a3 a4 ⟨#[]⟩) Tryz.underlying35 rfl (by kernel_rfl)) rfl ⟨rfl,?_⟩
 have h0:=HWA.out
 exact put5_gb0 (gb_new0 (gb_new0 HG.out h0 _ _) h0 _ _) (by omega) a1 a2 a3 a4 ⟨#[]⟩
open Go.RowKit
structure Er where
 a1:Int
 a2:Int
 a3:Int
 a4:ByteArray
 a5:ByteArray
 l:Nat
 d:Int
instance:Inhabited Er:=⟨⟨0,0,0,⟨#[]⟩,⟨#[]⟩,0,0⟩⟩
def erC (e:Er):List Value:=[.int .i64 e.a1,.int .i64 e.a2,.int .i64 e.a3,.string e.a4,.string e.a5,.int .i64 e.l,.int .i64 e.d]
def toEd (e:Er):Ed:=⟨⟨e.a1,e.a2,e.a3,e.a4.data.toList⟩,e.l,e.d⟩
def toSg (s:Sp):Sg:=⟨cFrom s,cTo s,s.o⟩
def fromEr (k:Nat) (s:Sp):Er:=⟨s.f1,s.f2,s.f3,s.f4,s.f5,k,1⟩
def toEr (k:Nat) (s:Sp):Er:=⟨s.t1,s.t2,s.t3,s.t4,s.t5,k,-1⟩
def erS (k:Nat) (s:Sp):List Er:=if s.o=true then [fromEr k s] else if verC (cFrom s) (cTo s) < 0 then [fromEr k s,toEr k s] else []
def erL:Nat->List (List Sp)->List Er
 | _,[]=>[]
 | k,l :: Ls=>l.flatMap (erS k)++erL (k+1) Ls
theorem erS_ed (k:Nat) (s:Sp):(erS k s).map toEd=edS k (toSg s):=by
 unfold erS edS toSg
 simp only
 split
 ·rfl
 ·split <;> rfl
theorem erL_ed:∀(Ls:List (List Sp)) (k:Nat),(erL k Ls).map toEd=edL k (Ls.map (·.map toSg))
 | [],k=>rfl
 | l :: Ls,k=>by
  rw [erL,List.map_append,List.map_cons,edL,erL_ed Ls (k+1)]
  congr 1
  induction l with
  | nil=>rfl
  | cons s l ih=>rw [List.flatMap_cons,List.map_append,List.map_cons,List.flatMap_cons,ih,erS_ed]
theorem erS_len (k:Nat) (s:Sp):(erS k s).length<=2:=by
 unfold erS
 split
 ·simp
 ·split <;> simp
theorem erFlat_len (k:Nat) (l:List Sp):(l.flatMap (erS k)).length<=2 * l.length:=by
 induction l with
 | nil=>simp
 | cons s l ih=>rw [List.flatMap_cons,List.length_append,List.length_cons];have:=erS_len k s;omega
theorem infoEd:(Tryz.prog.info? 135).map (fun i=>(i.zero,i.size,i.bytes))=some (some (.agg #[.int .i64 0,.int .i64 0,.int .i64 0,.string ⟨#[]⟩,.string ⟨#[]⟩,.int .i64 0,.int .i64 0]),7,72):=by kernel_rfl
def Lists (w:World) (a:Addr) (Ls:List (List Sp)):Prop:=∀j (hj:j < Ls.length),∃sl,w.cell? (a.add j)=some sl/\SpS w sl Ls[j]
theorem Lists.grow {w w':World} {a:Addr} {Ls:List (List Sp)} (h:Lists w a Ls) (hg:w.grownBy w' none):Lists w' a Ls:=fun j hj=>by
 obtain ⟨sl,h1,h2⟩:=h j hj
 exact ⟨sl,hg.cell h1 (by simp),h2.grow hg⟩
theorem erL_snoc:∀(A:List (List Sp)) (k:Nat) (l:List Sp),erL k (A++[l])=erL k A++l.flatMap (erS (k+A.length))
 | [],k,l=>by simp [erL]
 | b :: A,k,l=>by
  rw [List.cons_append,erL,erL_snoc A (k+1) l,erL,List.append_assoc,List.length_cons,show k+1+A.length=k+(A.length+1) by omega]
theorem er_one (e:Er):∀u ∈ erC e,u.oneCell'=true:=by
 intro u hu
 simp only [erC,List.mem_cons,List.not_mem_nil,or_false] at hu
 rcases hu with rfl | rfl | rfl | rfl | rfl | rfl | rfl <;> rfl
theorem er_two (e f:Er):∀u ∈ erC e++erC f,u.oneCell'=true:=fun u hu=>by
 rcases List.mem_append.1 hu with h | h
 ·exact er_one e u h
 ·exact er_one f u h
def EdgesRel (w:World) (E:List Er) (ve:Value) (wr:World):Prop:=wr.ownsRow w.heap.size 135 7 ve E.length (E.flatMap erC)/\Below w.heap.size w wr
def EdgesPost (Ls:List (List Sp)) (w:World) (e:Ending) (w':World):Prop:=∃(ve:Value) (E:List Er),e=.returned ve/\E.Perm (erL 0 Ls)/\SortedE (E.map toEd)/\w'.ownsRow w.heap.size 135 7 ve E.length (E.flatMap erC)/\Below w.heap.size w w'
def SortSays:Prop:=∀(ve:Value) (E:List Er) (base:Nat) (w:World),w.ownsRow base 135 7 ve E.length (E.flatMap erC)->E.length<=8388608->(∀e ∈ E,e.a4.size<=1048576) →
 Calls Tryz.prog 103 #[ve,.func (.func 104) #[] #[]] w fun e w'=>e=.returned (.tuple #[])/\∃E':List Er,E'.Perm E/\SortedE (E'.map toEd)/\w'.ownsRow base 135 7 ve E'.length (E'.flatMap erC)/\w.grownBy w' ve.ownBlock
theorem er_small (Ls:List (List Sp)) (h:∀l ∈ Ls,l.length<=1048576/\∀s ∈ l,smallS s):∀(k:Nat),∀e ∈ erL k Ls,e.a4.size<=1048576:=by
 induction Ls with
 | nil=>intro k e he;simp [erL] at he
 | cons l Ls ih =>
  intro k e he
  rw [erL] at he
  rcases List.mem_append.1 he with he | he
  ·obtain ⟨s,hs,he⟩:=List.mem_flatMap.1 he
   have hm:=(h l (by simp)).2 s hs
   unfold erS at he
   split at he
   ·simp at he;rw [he];exact hm.1
   ·split at he
    ·simp at he
     rcases he with rfl | rfl
     ·exact hm.1
     ·exact hm.2.2.1
    ·simp at he
  ·exact ih (fun l' hl'=>h l' (by simp [hl'])) (k+1) e he
theorem spat_below {w w':World} {a:Addr} {L:List Sp} (h:SpAt w a L) (hb:Below w.heap.size w w'):SpAt w' a L:=h.grow ⟨hb.os,hb.tape,hb.output,hb.size,fun k hk _=>hb.block k hk⟩
set_option maxRecDepth 100000 in
set_option maxHeartbeats 3200000 in
theorem edgesOf_by (hsort:SortSays) (a:Addr) (n cap:Nat) (Ls:List (List Sp)) (w:World) (hn:Ls.length=n) (hcap:n<=cap) (hn2:n<=2) (h:Lists w a Ls) (hsz:∀l ∈ Ls,l.length<=1048576/\∀s ∈ l,smallS s) :
  Calls Tryz.prog 82 #[.slice (some a) n cap] w (EdgesPost Ls w):=by
 have hinfo:=infoEd
 obtain ⟨i0,hi0,hii⟩:=Option.map_eq_some_iff.1 hinfo
 simp only [Prod.mk.injEq] at hii
 obtain ⟨hz0,hz1,hzb⟩:=hii
 clear hinfo
 have HA:Hid (Lists w a Ls):=h
 have HS:Hid (∀l ∈ Ls,l.length<=1048576/\∀s ∈ l,smallS s):=hsz
 have HN:Hid (Ls.length=n):=hn
 clear h hsz hn
 go_enter Tryz.func82,Tryz.ntmps82
 go_wp2
 go_loopw [3,10] (fun ve vi wr=>∃j:Nat,vi=.int .i64 j/\j<=n/\(erL 0 (Ls.take j)).length<=2097152 * j/\EdgesRel w (erL 0 (Ls.take j)) ve wr) (fun _ vi _=>n - (intOf vi).toNat)
 case atStart=>exact ⟨0,rfl,Nat.zero_le _,by simp [erL],World.ownsRow_nil _ _ _ _,Below.refl _ _⟩
 case round =>
  obtain ⟨j,rfl,hj,hlen,hown,hb⟩:=hrel
  by_cases hlt:j < n
  ·have hjl:j < Ls.length:=by rw [HN.out];exact hlt
   obtain ⟨sl,hcell,hsp⟩:=HA.out j hjl
   have gW:w.grownBy wr none:=⟨hb.os,hb.tape,hb.output,hb.size,fun k hk _=>hb.block k hk⟩
   have cj:wr.cell? (a.add j)=some sl:=gW.cell hcell (by simp)
   obtain ⟨l,hl⟩:∃l,Ls[j]=l:=⟨_,rfl⟩
   rw [hl] at hsp
   have HSl:Hid (l.length<=1048576/\∀s ∈ l,smallS s):=by rw [<-hl];exact HS.out _ (List.getElem_mem hjl)
   have HNX:Hid (erL 0 (Ls.take (j+1))=erL 0 (Ls.take j)++l.flatMap (erS j)):=by
    show erL 0 _=_
    rw [List.take_succ_eq_append_getElem hjl,erL_snoc,hl,List.length_take,Nat.min_eq_left (Nat.le_of_lt hjl),Nat.zero_add]
   obtain ⟨E0,hE0⟩:∃E0,erL 0 (Ls.take j)=E0:=⟨_,rfl⟩
   rw [hE0] at HNX hlen hown
   have HL0:Hid (E0.length<=2097152 * j):=hlen
   have HO:Hid (EdgesRel w E0 u3 wr):=⟨hown,hb⟩
   have HSP:Hid (SpS w sl l):=hsp
   clear hE0 hl hcell hlen hown hb hsp gW
   have NEXT:Hid (∀ve wk,EdgesRel w (E0++l.flatMap (erS j)) ve wk->j+1<=n/\(erL 0 (Ls.take (j+1))).length<=2097152 * (j+1)/\EdgesRel w (erL 0 (Ls.take (j+1))) ve wk):=by
    intro ve wk h
    rw [HNX.out]
    refine ⟨by omega,?_,h⟩
    have q1:=HL0.out
    have q2:=erFlat_len j l
    have q3:=HSl.out.1
    rw [List.length_append]
    omega
   rcases HSP.out with ⟨rfl,hnil⟩ | ⟨a',cap',rfl,hc',hat⟩
   ·have HNI:Hid (l=[]):=hnil
    clear hnil
    go_wp2
    go_loopw [3,17] (fun ve vi wk=>vi=.int .i64 0/\EdgesRel w E0 ve wk) (fun _ vi _=>0)
    case atStart=>exact ⟨rfl,HO.out⟩
    case round =>
     obtain ⟨rfl,hO⟩:=hrel
     have HOO:Hid (EdgesRel w E0 u3 wr):=hO
     clear hO
     go_wp2
     go_roundw
     case rel =>
      have:=NEXT.out u3 wr (by rw [HNI.out];simpa using HOO.out)
      exact ⟨j+1,by go_num,this.1,this.2.1,this.2.2⟩
     case measure=>simp [intOf];omega
   ·have HAT:Hid (SpAt w a' l):=hat
    clear hat
    go_wp2
    go_loopw [3,17] (fun ve vi wk=>∃k:Nat,vi=.int .i64 k/\k<=l.length/\EdgesRel w (E0++(l.take k).flatMap (erS j)) ve wk) (fun _ vi _=>l.length - (intOf vi).toNat)
    case atStart=>exact ⟨0,rfl,Nat.zero_le _,by simpa using HO.out⟩
    case round =>
     obtain ⟨k,rfl,hk,hown,hb⟩:=hrel
     by_cases hkl:k < l.length
     ·obtain ⟨s,hs⟩:∃s,l[k]=s:=⟨_,rfl⟩
      have hk62:l.length<=1048576:=HSl.out.1
      have HE:Hid (EltAt wr (a'.add (k * 11)) s):=by show EltAt wr _ s;rw [<-hs];exact (spat_below HAT.out hb) k hkl
      have hm:smallS s:=by rw [<-hs];exact HSl.out.2 _ (List.getElem_mem hkl)
      have HTK:Hid ((l.take (k+1)).flatMap (erS j)=(l.take k).flatMap (erS j)++erS j s):=by
       show _=_
       rw [List.take_succ_eq_append_getElem hkl,List.flatMap_append,hs];simp
      have HLEN:Hid ((E0++(l.take k).flatMap (erS j)).length+2<=8388608):=by
       show _<=_
       have q1:=HL0.out
       have q2:=erFlat_len j (l.take k)
       have q3:=HSl.out.1
       rw [List.length_append]
       rw [List.length_take] at q2
       omega
      obtain ⟨x,hx⟩:∃x,verC (cFrom s) (cTo s)=x:=⟨_,rfl⟩
      have CF:Hid (∀w,Calls Tryz.prog 44 #[.agg #[.int .i64 s.f1,.int .i64 s.f2,.int .i64 s.f3,.string s.f4,.string s.f5],.agg #[.int .i64 s.t1,.int .i64 s.t2,.int .i64 s.t3,.string s.t4,.string s.t5]] w fun e w'=>e=.returned (.int .i64 x)/\w.grownBy w' none):=fun w=>by
       rw [<-hx];exact compare_any s.f1 s.f2 s.f3 s.t1 s.t2 s.t3 s.f4 s.f5 s.t4 s.t5 w (by have:=hm.1;omega) (by have:=hm.2.2.1;omega)
      have HX:Hid (verC (cFrom s) (cTo s)=x):=hx
      obtain ⟨e0,e1,e2,e3,e4,e5,e6,e7,e8,e9,e10⟩:=HE.out
      obtain ⟨N,hN⟩:∃N,wr.heap.size=N:=⟨_,rfl⟩
      obtain ⟨W2,hW2⟩:∃W2,wr.alloc (.cells #[.int .i64 s.f1,.int .i64 s.f2,.int .i64 s.f3,.string s.f4,.string s.f5,.int .i64 s.t1,.int .i64 s.t2,.int .i64 s.t3,.string s.t4,.string s.t5,.bool s.o] 37)=W2:=⟨_,rfl⟩
      have HE2:Hid (EltAt W2 ⟨N,0,none⟩ s):=by
       show EltAt W2 _ s
       rw [<-hN,<-hW2]
       exact elt_row (t:=37) (heap_alloc_new wr _)
      have HO2:Hid (W2.ownsRow w.heap.size 135 7 u3 (E0++(l.take k).flatMap (erS j)).length ((E0++(l.take k).flatMap (erS j)).flatMap erC)):=by show World.ownsRow _ _ _ _ _ _ _;rw [<-hW2];exact hown.alloc _
      have HB2:Hid (Below w.heap.size w W2):=by show Below _ _ _;rw [<-hW2];exact hb.alloc hb.size _
      clear hx hm hs hown hb
      obtain ⟨d0,d1,d2,d3,d4,d5,d6,d7,d8,d9,d10⟩:=HE2.out
      simp only [Nat.zero_add] at d1 d2 d3 d4 d5 d6 d7 d8 d9 d10
      cases ho:s.o with
      | true =>
       have HES:Hid (erS j s=[fromEr j s]):=by show erS j s=_;unfold erS;rw [if_pos ho]
       rw [ho] at d10
       clear ho
       go_wp2_with (first | (at_builtin;refine wpList_append_own _ rfl _ _ 132 rfl w.heap.size 135 i0 (.agg #[.int .i64 0,.int .i64 0,.int .i64 0,.string ⟨#[]⟩,.string ⟨#[]⟩,.int .i64 0,.int .i64 0]) 7 72 Tryz.underlying132 hi0 hz0 hz1 hzb rfl (by decide) _ _ _ rfl (HO2.out.alloc _) _ 1 1 (erC (fromEr j s)) rfl rfl (World.news_of_block (heap_alloc_new _ _)) (er_one _) (by unfold maxLen;have:=HLEN.out;omega) (by have:=HLEN.out;omega) (by have:=HB2.out.size;simp;omega) ?_;intro v' w3 hown3 hgrow _))
       have hb3:Below w.heap.size w w3:=(HB2.out.alloc (HB2.out.size) _).grown hgrow (by have:=HB2.out.size;simp;omega) (fun q hq=>(HO2.out.lt q hq).1)
       have hl3:(E0++(l.take (k+1)).flatMap (erS j))=(E0++(l.take k).flatMap (erS j))++erS j s:=by rw [HTK.out,List.append_assoc]
       refine ⟨⟨k+1,by go_num,by omega,?_,hb3⟩,by simp [intOf];omega⟩
       rw [hl3,HES.out,List.length_append,List.flatMap_append]
       simpa using hown3
      | false =>
       rw [ho] at d10
       have HOB:Hid (s.o=false):=ho
       clear ho
       go_wp2_with (first | (go_at_call 44;refine (CF.out _).mono ?_))
       rintro e w1 ⟨rfl,hg⟩
       have HE3:Hid (EltAt w1 ⟨N,0,none⟩ s):=HE2.out.grow hg
       have HO3:Hid (w1.ownsRow w.heap.size 135 7 u3 (E0++(l.take k).flatMap (erS j)).length ((E0++(l.take k).flatMap (erS j)).flatMap erC)):=own_keep HO2.out hg
       have HB3:Hid (Below w.heap.size w w1):=below_gbn HB2.out HB2.out.size hg
       try rw [hN]
       clear hN hW2 hg e0 e1 e2 e3 e4 e5 e6 e7 e8 e9 e10 d0 d1 d2 d3 d4 d5 d6 d7 d8 d9 d10
       obtain ⟨d0,d1,d2,d3,d4,d5,d6,d7,d8,d9,d10⟩:=HE3.out
       simp only [Nat.zero_add] at d1 d2 d3 d4 d5 d6 d7 d8 d9 d10
       by_cases hx0:x < 0
       ·have HES:Hid (erS j s=[fromEr j s,toEr j s]):=by
         show erS j s=_
         unfold erS;rw [if_neg (by rw [HOB.out];decide),if_pos (by rw [HX.out];exact hx0)]
        go_wp2_with (first | (at_builtin;refine wpList_append_own _ rfl _ _ 132 rfl w.heap.size 135 i0 (.agg #[.int .i64 0,.int .i64 0,.int .i64 0,.string ⟨#[]⟩,.string ⟨#[]⟩,.int .i64 0,.int .i64 0]) 7 72 Tryz.underlying132 hi0 hz0 hz1 hzb rfl (by decide) _ _ _ rfl (HO3.out.alloc _) _ 2 2 (erC (fromEr j s)++erC (toEr j s)) rfl rfl (World.news_of_block (heap_alloc_new _ _)) (er_two _ _) (by unfold maxLen;have:=HLEN.out;omega) (by have:=HLEN.out;omega) (by have:=HB3.out.size;simp;omega) ?_;intro v' w3 hown3 hgrow _))
        have hb3:Below w.heap.size w w3:=(HB3.out.alloc (HB3.out.size) _).grown hgrow (by have:=HB3.out.size;simp;omega) (fun q hq=>(HO3.out.lt q hq).1)
        have hl3:(E0++(l.take (k+1)).flatMap (erS j))=(E0++(l.take k).flatMap (erS j))++erS j s:=by rw [HTK.out,List.append_assoc]
        refine ⟨⟨k+1,by go_num,by omega,?_,hb3⟩,by simp [intOf];omega⟩
        rw [hl3,HES.out,List.length_append,List.flatMap_append]
        simpa using hown3
       ·have HES:Hid (erS j s=[]):=by
         show erS j s=_
         unfold erS;rw [if_neg (by rw [HOB.out];decide),if_neg (by rw [HX.out];exact hx0)]
        go_wp2
        go_roundw
        case rel =>
         have hl3:(E0++(l.take (k+1)).flatMap (erS j))=(E0++(l.take k).flatMap (erS j))++erS j s:=by rw [HTK.out,List.append_assoc]
         refine ⟨k+1,by go_num,by omega,?_⟩
         rw [hl3,HES.out,List.append_nil]
         exact ⟨HO3.out,HB3.out⟩
        case measure=>simp [intOf];omega
     ·have hkl2:k=l.length:=by omega
      have HOO:Hid (EdgesRel w (E0++l.flatMap (erS j)) u3 wr):=by
       have:=hown
       rw [hkl2,List.take_length] at this
       exact ⟨this,hb⟩
      clear hkl2 hown hb hk
      go_wp2
      go_roundw
      case rel =>
       have:=NEXT.out u3 wr HOO.out
       exact ⟨j+1,by go_num,this.1,this.2.1,this.2.2⟩
      case measure=>simp [intOf];omega
  ·have hjn:j=n:=by omega
   have hto:Ls.take j=Ls:=List.take_of_length_le (by rw [HN.out];omega)
   rw [hto] at hown hlen
   have CS:=hsort u3 (erL 0 Ls) w.heap.size wr hown (by omega) (er_small Ls HS.out 0)
   have CSH:Hid (Calls Tryz.prog 103 #[u3,.func (.func 104) #[] #[]] wr fun e w'=>e=.returned (.tuple #[])/\∃E':List Er,E'.Perm (erL 0 Ls)/\SortedE (E'.map toEd)/\w'.ownsRow w.heap.size 135 7 u3 E'.length (E'.flatMap erC)/\wr.grownBy w' u3.ownBlock):=CS
   have HB:Hid (Below w.heap.size w wr):=hb
   have HLO:Hid (∀q,u3.ownBlock=some q->w.heap.size<=q):=fun q hq=>(hown.lt q hq).1
   clear CS hown hb hlen hto hjn hj
   go_wp2_with (first | (go_at_call 103;refine CSH.out.mono ?_))
   rintro e w3 ⟨rfl,E',hp,hso,ho3,hg3⟩
   have HF:Hid (EdgesPost Ls w (.returned u3) w3):=⟨u3,E',rfl,hp,hso,ho3,HB.out.grown hg3 HB.out.size HLO.out⟩
   clear hp hso ho3 hg3
   go_wp2
   exact bodyPost_ret (results_tmp (t:=2) rfl _ _ _) rfl HF.out
end Go.Proofs.YtonfldbigenfhaaGreatDoor
