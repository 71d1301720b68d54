import Derived.Test.YticgahdffjnabaaGreatDoorM42
import Derived.Lib.SmallJoins
import Derived.Deep.Cut
import Derived.Deep.CutRange
set_option linter.unusedVariables false
set_option maxHeartbeats 6400000
namespace Go.Proofs.YticgahdffjnabaaGreatDoor
open Go.RowKit Go.Maps
def nC (L:List Re) (C:List Int) (i:Nat):ByteArray:=match C[i]? with | some c=>nmK L c.toNat | none=>⟨#[]⟩
theorem nC_at (L:List Re) (C:List Int) (i:Nat) (h:i < C.length):nC L C i=nmK L (C[i]).toNat:=by simp [nC,List.getElem?_eq_getElem h]
def ndK (L:List Re) (k:Nat):List Nd:=match L[k]? with | some x=>x.nd | none=>[]
theorem ndK_at (L:List Re) (k:Nat) (h:k < L.length):ndK L k=L[k].nd:=by simp [ndK,List.getElem?_eq_getElem h]
def ndQ (L:List Re) (C:List Int) (i:Nat):List Nd:=match C[i]? with | some c=>ndK L c.toNat | none=>[]
theorem ndQ_at (L:List Re) (C:List Int) (i:Nat) (h:i < C.length):ndQ L C i=ndK L (C[i]).toNat:=by simp [ndQ,List.getElem?_eq_getElem h]
def aI (N:List Nd) (L:List Re) (C:List Int) (i:Nat):Bool:=askB N (nC L C i)
def qI (L:List Re) (C:List Int) (k i:Nat):Bool:=askB (ndQ L C k) (nC L C i)
def bA (b:List Bool) (i:Nat):Bool:=b.getD i false
theorem bA_at (b:List Bool) (i:Nat) (h:i < b.length):bA b i=b[i]:=by simp [bA,List.getElem?_eq_getElem h]
theorem bA_set (b:List Bool) (i j:Nat) (v:Bool) (hi:i < b.length):bA (b.set i v) j=if j=i then v else bA b j:=by
 unfold bA
 by_cases h:j=i
 ·subst h;simp [hi]
 ·rw [if_neg h];have:¬ i=j:=fun e=>h e.symm
  simp [List.getElem?_set_ne this]
def vK (N:List Nd) (L:List Re) (C:List Int) (b:List Bool) (i k:Nat):Bool:=bA b i || aI N L C i || (List.range k).any fun j=>bA b j && qI L C j i
theorem vK_zero (N:List Nd) (L:List Re) (C:List Int) (b:List Bool) (i:Nat):vK N L C b i 0=(bA b i || aI N L C i):=by simp [vK]
theorem vK_step (N:List Nd) (L:List Re) (C:List Int) (b:List Bool) (i k:Nat) (hi:i < b.length):vK N L C b i (k+1)=(vK N L C b i k || (bA (b.set i (vK N L C b i k)) k && qI L C k i)):=by
 have h1:vK N L C b i (k+1)=(vK N L C b i k || (bA b k && qI L C k i)):=by
  unfold vK;rw [List.range_succ,List.any_append];simp [Bool.or_assoc]
 rw [h1,bA_set b i k _ hi]
 by_cases h:k=i
 ·subst h;rw [if_pos rfl]
  cases hv:vK N L C b k k with
  | true=>rfl
  | false =>
   have:bA b k=false:=by
    unfold vK at hv
    cases hb:bA b k with
    | false=>rfl
    | true=>rw [hb] at hv;simp at hv
   rw [this]
   try simp
 ·rw [if_neg h]
def rn (N:List Nd) (L:List Re) (C:List Int) (b:List Bool):Nat->List Bool
 | 0=>b
 | i+1=>(rn N L C b i).set i (vK N L C (rn N L C b i) i C.length)
def wD (N:List Nd) (L:List Re) (C:List Int):Nat->List Bool
 | 0=>List.replicate C.length false
 | r+1=>rn N L C (wD N L C r) C.length
section
variable {N:List Nd} {L:List Re} {C:List Int}
theorem rn_len (b:List Bool):∀i,(rn N L C b i).length=b.length
 | 0=>rfl
 | i+1=>by rw [rn,List.length_set];exact rn_len b i
theorem wD_len:∀r,(wD N L C r).length=C.length
 | 0=>by simp [wD]
 | r+1=>by rw [wD,rn_len];exact wD_len r
theorem rn_up (b:List Bool) (hl:b.length=C.length) (j:Nat):∀i,i<=C.length->bA (rn N L C b i) j=true->∀t,i+t<=C.length->bA (rn N L C b (i+t)) j=true:=by
 intro i _ h t
 induction t with
 | zero=>intro _;exact h
 | succ t ih =>
  intro ht;have h1:=ih (by omega);rw [<-Nat.add_assoc,rn,bA_set _ _ _ _ (by rw [rn_len,hl];omega)];split
  ·rename_i he;unfold vK;rw [he] at h1;rw [h1];simp
  ·exact h1
def Snd (N:List Nd) (L:List Re) (C:List Int) (b:List Bool):Prop:=∀i (hi:i < C.length),bA b i=true->Wt N L C (C[i]).toNat
theorem chs_at (i:Nat) (hi:i < C.length):chs C (C[i]).toNat=true:=by
 unfold chs;rw [List.any_eq_true];exact ⟨C[i],List.getElem_mem _,by simp⟩
theorem vK_snd (hin:∀z ∈ C,0<=z/\z < (L.length:Int)) (b:List Bool) (hb:Snd N L C b) (i:Nat) (hi:i < C.length) (h:vK N L C b i C.length=true):Wt N L C (C[i]).toNat:=by
 have hl:(C[i]).toNat < L.length:=by have:=hin _ (List.getElem_mem hi);omega
 unfold vK at h;rw [Bool.or_eq_true,Bool.or_eq_true] at h
 rcases h with (h | h) | h
 ·exact hb i hi h
 ·refine .base _ (chs_at i hi) ?_;unfold aI at h;rw [nC_at L C i hi] at h;unfold namB;rw [decide_eq_true hl];exact h
 ·rw [List.any_eq_true] at h;obtain ⟨j,hj,h2⟩:=h;have hjl:j < C.length:=List.mem_range.1 hj;rw [Bool.and_eq_true] at h2;have hjL:(C[j]).toNat < L.length:=by have:=hin _ (List.getElem_mem hjl);omega
  refine .step _ (C[j]).toNat hjL (hb j hjl h2.1) (chs_at i hi) ?_;have h3:=h2.2;unfold qI at h3;rw [nC_at L C i hi,ndQ_at L C j hjl,ndK_at L _ hjL] at h3;unfold namB;rw [decide_eq_true hl];exact h3
theorem rn_snd (hin:∀z ∈ C,0<=z/\z < (L.length:Int)) (b:List Bool) (hl:b.length=C.length) (hb:Snd N L C b):∀i,i<=C.length->Snd N L C (rn N L C b i)
 | 0,_=>hb
 | i+1,h=>fun j hj hjb=>by
  have ih:=rn_snd hin b hl hb i (by omega);rw [rn,bA_set _ _ _ _ (by rw [rn_len,hl];omega)] at hjb;split at hjb
  ·rename_i he;subst he;exact vK_snd hin _ ih j hj hjb
  ·exact ih j hj hjb
theorem wD_snd (hin:∀z ∈ C,0<=z/\z < (L.length:Int)):∀r,Snd N L C (wD N L C r)
 | 0=>fun i hi h=>by
  rw [wD,bA_at _ _ (by simpa using hi),List.getElem_replicate] at h
  cases h
 | r+1=>rn_snd hin _ (wD_len r) (wD_snd hin r) C.length (Nat.le_refl _)
def Cl (N:List Nd) (L:List Re) (C:List Int) (b:List Bool):Prop:=∀i,i < C.length->vK N L C b i C.length=bA b i
theorem bA_ext {b b':List Bool} (hl:b.length=b'.length) (h:∀j,bA b j=bA b' j):b=b':=by
 apply List.ext_getElem hl;intro i h1 h2;have:=h i;rw [bA_at b i h1,bA_at b' i h2] at this;exact this
theorem rn_fix (b:List Bool) (hl:b.length=C.length) (h:rn N L C b C.length=b):Cl N L C b:=by
 have key:∀i,i<=C.length->rn N L C b i=b:=fun i hi=>by
  refine bA_ext (rn_len b i) fun j=>?_
  cases h1:bA b j with
  | true =>
   have:=rn_up (N:=N) (L:=L) (C:=C) b hl j 0 (Nat.zero_le _) h1 i (by omega);rw [Nat.zero_add] at this;exact this
  | false =>
   cases h2:bA (rn N L C b i) j with
   | false=>rfl
   | true =>
    have:=rn_up (N:=N) (L:=L) (C:=C) b hl j i hi h2 (C.length - i) (by omega);rw [show i+(C.length - i)=C.length by omega,h,h1] at this
    cases this
 intro i hi;have h1:=key (i+1) (by omega);rw [rn,key i (by omega)] at h1;have h2:=bA_set b i i (vK N L C b i C.length) (by omega);rw [h1,if_pos rfl] at h2;exact h2.symm
theorem cl_fix (b:List Bool) (hl:b.length=C.length) (h:Cl N L C b):∀i,i<=C.length->rn N L C b i=b
 | 0,_=>rfl
 | i+1,hi=>by
  rw [rn,cl_fix b hl h i (by omega),h i (by omega)];refine bA_ext (by simp) fun j=>?_
  rw [bA_set b i j _ (by omega)];split
  ·rename_i he;rw [he]
  ·rfl
theorem count_lt:∀(b b':List Bool),b.length=b'.length->(∀j,bA b j=true->bA b' j=true)->¬ b=b'->b.countP id < b'.countP id
 | [],[],_,_,hn=>absurd rfl hn
 | [],_ :: _,hl,_,_=>by simp at hl
 | _ :: _,[],hl,_,_=>by simp at hl
 | x :: b,y :: b',hl,h,hn=>by
  have hl':b.length=b'.length:=by simpa using hl
  have h':∀j,bA b j=true->bA b' j=true:=fun j hj=>by
   have:=h (j+1);unfold bA at this hj ⊢;simpa using this (by simpa using hj)
  have h0:x=true->y=true:=fun hx=>by
   have:=h 0;unfold bA at this;simpa using this (by simpa using hx)
  have hle:b.countP id<=b'.countP id:=by
   by_cases he:b=b'
   ·rw [he];exact Nat.le_refl _
   ·exact Nat.le_of_lt (count_lt b b' hl' h' he)
  cases x with
  | true =>
   have hy:=h0 rfl;subst hy;have he:¬ b=b':=fun e=>hn (by rw [e])
   have:=count_lt b b' hl' h' he;simp;omega
  | false =>
   cases y with
   | true=>simp;omega
   | false =>
    have he:¬ b=b':=fun e=>hn (by rw [e])
    have:=count_lt b b' hl' h' he;simpa using this
theorem wD_cl:∀r,Cl N L C (wD N L C r)\/r<=(wD N L C r).countP id
 | 0=>Or.inr (Nat.zero_le _)
 | r+1=>by
  have hl:=wD_len (N:=N) (L:=L) (C:=C) r
  rcases wD_cl r with h | h
  ·left;rw [wD,cl_fix _ hl h C.length (Nat.le_refl _)];exact h
  ·by_cases he:rn N L C (wD N L C r) C.length=wD N L C r
   ·left;rw [wD,he];exact rn_fix _ hl he
   ·right;rw [wD];have:=count_lt (wD N L C r) (rn N L C (wD N L C r) C.length) (by rw [rn_len]) (fun j hj=>by
     have:=rn_up (N:=N) (L:=L) (C:=C) _ hl j 0 (Nat.zero_le _) hj C.length (by omega);rw [Nat.zero_add] at this;exact this) (fun e=>he e.symm)
    omega
theorem wD_end:Cl N L C (wD N L C (C.length+1)):=by
 rcases wD_cl (N:=N) (L:=L) (C:=C) (C.length+1) with h | h
 ·exact h
 ·have h1:=List.countP_le_length (p:=id) (l:=wD N L C (C.length+1));rw [wD_len] at h1;omega
theorem cl_all (hin:∀z ∈ C,0<=z/\z < (L.length:Int)) (b:List Bool) (h:Cl N L C b) {k:Nat} (hw:Wt N L C k):∀i (hi:i < C.length),(C[i]).toNat=k->bA b i=true:=by
 induction hw with
 | base k h1 h2 =>
  intro i hi he;rw [<-h i hi];unfold vK;have:aI N L C i=true:=by
   unfold aI;rw [nC_at L C i hi,he];unfold namB at h2;rw [Bool.and_eq_true] at h2;exact h2.2
  rw [this];simp
 | step k j hj hwj h1 h2 ih =>
  intro i hi he;have hc:=wt_chs hwj;unfold chs at hc;rw [List.any_eq_true] at hc;obtain ⟨c,hcm,hcj⟩:=hc;obtain ⟨i',hi',rfl⟩:=List.getElem_of_mem hcm;have hcj':(C[i']).toNat=j:=of_decide_eq_true hcj;have hb:=ih i' hi' hcj';rw [<-h i hi];unfold vK;have hq:qI L C i' i=true:=by
   unfold qI;rw [nC_at L C i hi,he,ndQ_at L C i' hi',hcj',ndK_at L j hj];unfold namB at h2;rw [Bool.and_eq_true] at h2;exact h2.2
  have:((List.range C.length).any fun j=>bA b j && qI L C j i)=true:=by
   rw [List.any_eq_true];exact ⟨i',List.mem_range.2 hi',by rw [hb,hq];rfl⟩
  rw [this];simp
theorem wD_iff (hin:∀z ∈ C,0<=z/\z < (L.length:Int)):(wD N L C (C.length+1)).all id=true ↔ ∀k,chs C k=true->Wt N L C k:=by
 have hl:=wD_len (N:=N) (L:=L) (C:=C) (C.length+1);constructor
 ·intro h k hk;unfold chs at hk;rw [List.any_eq_true] at hk;obtain ⟨c,hcm,hck⟩:=hk;obtain ⟨i,hi,rfl⟩:=List.getElem_of_mem hcm;have e:(C[i]).toNat=k:=of_decide_eq_true hck;rw [<-e];refine wD_snd hin (C.length+1) i hi ?_;rw [bA_at _ i (by omega)];exact List.all_eq_true.1 h _ (List.getElem_mem _)
 ·intro h;rw [List.all_eq_true];intro x hx;obtain ⟨i,hi,rfl⟩:=List.getElem_of_mem hx;have hi':i < C.length:=by omega
  have:=cl_all hin _ wD_end (h _ (chs_at i hi')) i hi' rfl;rw [bA_at _ i hi] at this;exact this
end
open Go.RowKit Go.Maps
def ok2 (N:List Nd) (L:List Re) (C:List Int):Nat->Bool
 | 0=>metD N L C
 | i+1=>ok2 N L C i && metD (ndQ L C i) L C && decide (chI L (C.take i) (nC L C i) < 0)
section
variable {N:List Nd} {L:List Re} {C:List Int}
theorem ok2_iff:∀i,ok2 N L C i=true ↔ metD N L C=true/\∀j,j < i->metD (ndQ L C j) L C=true/\chI L (C.take j) (nC L C j) < 0
 | 0=>⟨fun h=>⟨h,fun j hj=>by omega⟩,fun h=>h.1⟩
 | i+1=>by
  rw [ok2,Bool.and_eq_true,Bool.and_eq_true,ok2_iff i,decide_eq_true_eq];constructor
  ·rintro ⟨⟨⟨h1,h2⟩,h3⟩,h4⟩;refine ⟨h1,fun j hj=>?_⟩
   by_cases he:j=i
   ·subst he;exact ⟨h3,h4⟩
   ·exact h2 j (by omega)
  ·rintro ⟨h1,h2⟩;exact ⟨⟨⟨h1,fun j hj=>h2 j (by omega)⟩,(h2 i (by omega)).1⟩,(h2 i (by omega)).2⟩
theorem chD_len:(chD L C).length=C.length:=by unfold chD;simp
theorem same_iff (i:Nat) (hi:i < C.length) (hi':i < (chD L C).length):sameN ((chD L C).take i) (chD L C)[i]=(C.take i).any fun c=>decide (nmK L c.toNat=nC L C i):=by
 unfold sameN;rw [chD_at L C i hi hi',nC_at L C i hi];have e:(chD L C).take i=(C.take i).map fun c=>(⟨nmK L c.toNat,⟨#[]⟩⟩:Nd):=by unfold chD;rw [List.map_take]
 rw [e,List.any_map];rfl
theorem chI_neg (hin:∀z ∈ C,0<=z/\z < (L.length:Int)) (i:Nat) (n:ByteArray):chI L (C.take i) n < 0 ↔ (C.take i).any (fun c=>decide (nmK L c.toNat=n))=false:=by
 constructor
 ·intro h
  rcases chI_cases L (C.take i) n with ⟨c,hc,he,-⟩ | ⟨-,h2⟩
  ·have:=hin c (List.mem_of_mem_take hc);omega
  ·rw [List.any_eq_false];intro c hc e;exact h2 c hc (by simpa using e)
 ·intro h;rw [chI_miss L (C.take i) n h];decide
theorem tw_iff (hin:∀z ∈ C,0<=z/\z < (L.length:Int)):∀i,i<=C.length->(twTo (chD L C) i=false ↔ ∀j,j < i->chI L (C.take j) (nC L C j) < 0)
 | 0,_=>⟨fun _ j hj=>by omega,fun _=>rfl⟩
 | i+1,h=>by
  have hi:i < (chD L C).length:=by rw [chD_len];omega
  rw [tw_step _ i hi,Bool.or_eq_false_iff,tw_iff hin i (by omega),same_iff i (by omega) hi,<-chI_neg hin];constructor
  ·rintro ⟨h1,h2⟩ j hj
   by_cases he:j=i
   ·subst he;exact h2
   ·exact h1 j (by omega)
  ·intro h1;exact ⟨fun j hj=>h1 j (by omega),h1 i (by omega)⟩
theorem inR_all (hin:∀z ∈ C,0<=z/\z < (L.length:Int)):inR L C C.length=true:=by
 unfold inR;rw [List.take_length,List.all_eq_true];intro z hz;exact decide_eq_true (hin z hz)
theorem okC_iff (hin:∀z ∈ C,0<=z/\z < (L.length:Int)):okC L C C.length=true ↔ ∀j,j < C.length->chI L (C.take j) (nC L C j) < 0:=by
 unfold okC;rw [inR_all hin,Bool.true_and,<-tw_iff hin C.length (Nat.le_refl _)]
 cases twTo (chD L C) C.length <;> simp
theorem name_uniq (hin:∀z ∈ C,0<=z/\z < (L.length:Int)) (hok:okC L C C.length=true) {c d:Int} (hc:c ∈ C) (hd:d ∈ C) (he:nmK L c.toNat=nmK L d.toNat):c=d:=by
 rw [okC_iff hin] at hok;obtain ⟨i,hi,rfl⟩:=List.getElem_of_mem hc;obtain ⟨j,hj,rfl⟩:=List.getElem_of_mem hd;have key:∀(i j:Nat) (hi:i < C.length) (hj:j < C.length),i < j->nmK L (C[i]).toNat=nmK L (C[j]).toNat->False:=fun i j hi hj hij e=>by
  have h1:=(chI_neg hin j _).1 (hok j hj);rw [List.any_eq_false] at h1;refine h1 C[i] (List.mem_take_iff_getElem.2 ⟨i,by omega,rfl⟩) ?_;rw [nC_at L C j hj];simpa using e
 by_cases h1:i < j
 ·exact (key i j hi hj h1 he).elim
 ·by_cases h2:j < i
  ·exact (key j i hj hi h2 he.symm).elim
  ·have:i=j:=by omega
   subst this;rfl
theorem metD_iff (hin:∀z ∈ C,0<=z/\z < (L.length:Int)) (hok:okC L C C.length=true) (M:List Nd):metD M L C=true ↔ ∀j,j < M.length->∃q,chs C q=true/\meetJ M L j q=true:=by
 unfold metD;rw [List.all_eq_true];constructor
 ·intro h j hj;have h1:=h M[j] (List.getElem_mem _);unfold metY at h1;rw [Bool.and_eq_true,decide_eq_true_eq] at h1
  rcases chI_cases L C M[j].n with ⟨c,hc,he,hn⟩ | ⟨he,-⟩
  ·have hz:=hin c hc;refine ⟨c.toNat,?_,?_⟩
   ·unfold chs;rw [List.any_eq_true];exact ⟨c,hc,by simp⟩
   ·rw [meetJ_at M L j c.toNat hj (by omega),decide_eq_true hn.symm,Bool.true_and];rw [he] at h1;exact h1.2
  ·rw [he] at h1;exact absurd h1.1 (by decide)
 ·intro h y hy;obtain ⟨j,hj,rfl⟩:=List.getElem_of_mem hy;obtain ⟨q,h1,h2⟩:=h j hj;have hql:=meetJ_lt h2;rw [meetJ_at M L j q hj hql,Bool.and_eq_true,decide_eq_true_eq] at h2;unfold chs at h1;rw [List.any_eq_true] at h1;obtain ⟨c,hc,hcq⟩:=h1;have hcq':c.toNat=q:=of_decide_eq_true hcq
  rcases chI_cases L C M[j].n with ⟨d,hd,he,hn⟩ | ⟨-,h3⟩
  ·have hcd:c=d:=name_uniq hin hok hc hd (by rw [hcq',hn];exact h2.1.symm);subst hcd;have hz:=hin c hc;unfold metY;rw [he,hcq',decide_eq_true hz.1,h2.2];rfl
  ·exact absurd (by rw [hcq'];exact h2.1.symm) (h3 c hc)
theorem good_doc (hf:faultB N L=0) (hin:∀z ∈ C,0<=z/\z < (L.length:Int)):GoodP N L C ↔ ok2 N L C C.length=true/\(wD N L C (C.length+1)).all id=true:=by
 rw [ok2_iff,wD_iff hin];constructor
 ·intro h;have hok:=h.ok;refine ⟨⟨(metD_iff hin hok N).2 h.m0,fun j hj=>⟨?_,(okC_iff hin).1 hok j hj⟩⟩,h.wt⟩;have hjl:(C[j]).toNat < L.length:=by have:=hin _ (List.getElem_mem hj);omega
  rw [ndQ_at L C j hj,ndK_at L _ hjl];exact (metD_iff hin hok _).2 (h.m1 _ hjl (chs_at j hj))
 ·rintro ⟨⟨h1,h2⟩,h3⟩;have hok:okC L C C.length=true:=(okC_iff hin).2 fun j hj=>(h2 j hj).2
  refine ⟨hf,hok,(metD_iff hin hok N).1 h1,fun k hk hc=>?_,h3⟩;unfold chs at hc;rw [List.any_eq_true] at hc;obtain ⟨c,hcm,hck⟩:=hc;obtain ⟨j,hj,rfl⟩:=List.getElem_of_mem hcm;have e:(C[j]).toNat=k:=of_decide_eq_true hck;have h4:=(h2 j hj).1;rw [ndQ_at L C j hj,e,ndK_at L k hk] at h4;exact (metD_iff hin hok _).1 h4
theorem good_in (h:GoodP N L C):∀z ∈ C,0<=z/\z < (L.length:Int):=fun z hz=>by
 have:=h.ok;unfold okC inR at this;rw [Bool.and_eq_true,List.take_length,List.all_eq_true] at this;exact of_decide_eq_true (this.1 z hz)
end
open Go.RowKit Go.Maps Go.Joins
def bV (b:List Bool):Array Value:=(b.map Value.bool).toArray
theorem infoBool:(Tryz.prog.info? 4).map (fun i=>(i.zero,i.size,i.bytes))=some (some (.bool false),1,1):=by kernel_rfl
theorem made_bool (n:Nat):madeCells #[Value.bool false] n=bV (List.replicate n false):=by
 unfold madeCells bV;apply Array.ext';simp;apply List.ext_getElem?;intro i;simp
 by_cases h:i < n
 ·simp [h,Nat.mod_one]
 ·simp [h]
theorem make_bool (n:Nat) (hn:n<=1048576) (W:World):(Instr.makeSlice 58 (.int .i64 (n:Int)) (.int .i64 (n:Int))).run Tryz.prog W=.ok (.slice (some ⟨W.heap.size,0,none⟩) n n) (W.alloc (.cells (bV (List.replicate n false)) 4)):=by
 obtain ⟨i0,hi0,hii⟩:=Option.map_eq_some_iff.1 infoBool;simp only [Prod.mk.injEq] at hii;obtain ⟨hz0,hz1,hzb⟩:=hii;have:=run_make W 58 4 i0 (.bool false) Tryz.underlying58 hi0 hz0 .i64 .i64 (n:Int) (n:Int) (by omega) (Int.le_refl _) (by rw [hzb];omega) (by omega);rw [this,hz1];have e:((n:Int)).toNat=n:=by omega
 rw [e,Nat.mul_one];have e2:(Value.bool false).cells=#[.bool false]:=rfl;rw [e2,made_bool]
def BB (w:World) (B:Nat) (b:List Bool):Prop:=w.heap[B]?=some (.cells (bV b) 4 (0,0))
theorem BB.grow {w w':World} {B:Nat} {b:List Bool} (h:BB w B b) (hg:w.grownBy w' none):BB w' B b:=(hg.block B (hqL h) (by simp)).trans h
theorem BB.cell {w:World} {B:Nat} {b:List Bool} (h:BB w B b) (i:Nat) (hi:i < b.length):w.cell? ⟨B,i,none⟩=some (.bool (bA b i))/\w.frozen? ⟨B,i,none⟩=false:=by
 refine ⟨?_,Lib.frozen_of_heap h i⟩;rw [cOH h,bA_at b i hi];unfold bV;simp [hi]
theorem BB.set {w:World} {B:Nat} {b:List Bool} (h:BB w B b) (i:Nat) (v:Bool):BB (w.setCell ⟨B,i,none⟩ (.bool v)) B (b.set i v):=by
 have:=block_setCell (i:=i) h (.bool v);unfold BB;rw [this];congr 2;unfold bV;rw [List.map_set];simp
theorem gb_setB {w W:World} {q:Nat} (h:w.grownBy W none) (hq:w.heap.size<=q) (o:Nat) (v:Value):w.grownBy (W.setCell ⟨q,o,none⟩ v) none :=
 ⟨h.os,h.tape,h.output,by simpa [World.setCell] using h.size,fun k hk hn=>(heap_setCell_other W _ k _ (by show ¬ k=q;omega)).trans (h.block k hk hn)⟩
set_option maxRecDepth 100000 in
theorem rWanted_any (v:Value) (o oc:Option Addr) (c cc:Nat) (N:List Nd) (L:List Re) (C:List Int) (w:World) (hn:NdS w v N) (h:ReS w (.slice o L.length c) L) (hc:IS w (.slice oc C.length cc) C) (hN:N.length<=1048576) (hL:L.length<=1048576) (hC:C.length<=1048576) (hin:∀z ∈ C,0<=z/\z < (L.length:Int)) (hLN:∀x ∈ L,x.nd.length<=1048576) :
  Calls Tryz.prog 18 #[v,.slice o L.length c,.slice oc C.length cc] w fun e w'=>∃B,e=.returned (.slice (some ⟨B,0,none⟩) C.length C.length)/\BB w' B (wD N L C (C.length+1))/\w.grownBy w' none:=by
 have CN:Hd (∀n w',w.grownBy w' none->Calls Tryz.prog 31 #[v,.string n] w' fun e w''=>e=.returned (.bool (askB N n))/\w'.grownBy w'' none):=fun n w' hg=>asks_any v N n w' (hn.grow hg) hN
 have CL:Hd (∀v (M:List Nd) n w',NdS w' v M->M.length<=1048576->Calls Tryz.prog 31 #[v,.string n] w' fun e w''=>e=.returned (.bool (askB M n))/\w'.grownBy w'' none):=fun v M n w' h1 h2=>asks_any v M n w' h1 h2
 obtain ⟨on,nn,cn,rfl⟩:∃o n c,v=.slice o n c:=by
  rcases hn with ⟨rfl,-⟩ | ⟨_,_,rfl,-⟩ <;> exact ⟨_,_,_,rfl⟩
 have HEL:Hd (∀w',w.grownBy w' none->∀i,i < L.length->∃a,o=some a/\L.length<=c/\∀j (hj:j < L.length),ReAt w' (a.add (j * 4)) L[j]):=fun w' hg i hi=>reS_at (h.grow hg) hi
 have HEI:Hd (∀w',w.grownBy w' none->∀i,i < C.length->∃a,oc=some a/\C.length<=cc/\∀j (hj:j < C.length),w'.cell? (a.add j)=some (.int .i64 C[j])):=fun w' hg i hi=>is_at (hc.grow hg) hi
 have HIN:Hd (∀i (hi:i < C.length),∃k:Nat,C[i]=(k:Int)/\k < L.length):=fun i hi=>by
  have:=hin _ (List.getElem_mem hi);exact ⟨(C[i]).toNat,by omega,by omega⟩
 have HLN:Hd (∀x ∈ L,x.nd.length<=1048576):=hLN;have HNC:Hd (∀i (hi:i < C.length) (k:Nat) (hk:k < L.length),C[i]=(k:Int)->nC L C i=L[k].nm/\ndQ L C i=L[k].nd):=fun i hi k hk he=>by
  have e1:(C[i]).toNat=k:=by omega
  exact ⟨by rw [nC_at L C i hi,e1,nmK_at L k hk],by rw [ndQ_at L C i hi,e1,ndK_at L k hk]⟩
 obtain ⟨B,hB⟩:=nm (w.heap.size);have HB:Hd (w.heap.size=B):=hB;have hmk:=make_bool C.length hC w;rw [hB] at hmk;have HI0:Hd (BB (w.alloc (.cells (bV (List.replicate C.length false)) 4)) B (wD N L C 0)/\w.grownBy (w.alloc (.cells (bV (List.replicate C.length false)) 4)) none):=by
  refine ⟨?_,gb_alloc (gb_refl w none) _⟩;have:=heap_alloc_new w (.cells (bV (List.replicate C.length false)) 4);rw [hB] at this;exact this
 clear hn h hc hin hLN;go_enter Tryz.func18,Tryz.ntmps18;go_wp2
 try rw [hB]
 clear hB hmk;go_loopw [8] (fun vr wr=>∃r:Nat,vr=.int .i64 r/\r<=C.length+1/\BB wr B (wD N L C r)/\w.grownBy wr none) (fun vr _=>C.length+1 - (intOf vr).toNat)
 case atStart=>exact ⟨0,rfl,Nat.zero_le _,HI0.o⟩
 case round =>
  obtain ⟨r,rfl,hr,hbb,hg⟩:=hrel;have HBB:Hd (BB wr B (wD N L C r)):=hbb;have HG:Hd (w.grownBy wr none):=hg;have HWL:Hd ((wD N L C r).length=C.length):=wD_len r;have HWN:Hd (wD N L C (r+1)=rn N L C (wD N L C r) C.length):=rfl;obtain ⟨b0,hb0⟩:∃b,wD N L C r=b:=⟨_,rfl⟩;rw [hb0] at HBB HWL HWN;have HR0:Hd (rn N L C b0 0=b0):=rfl;have HRL:Hd (∀i,(rn N L C b0 i).length=C.length):=fun i=>(rn_len b0 i).trans HWL.o
  have HRS:Hd (∀i,rn N L C b0 (i+1)=(rn N L C b0 i).set i (vK N L C (rn N L C b0 i) i C.length)):=fun i=>rfl
  obtain ⟨wo,hwo⟩:∃wo,wo=wr:=⟨_,rfl⟩;subst hwo
  by_cases hlt:r<=C.length
  ·have hrI:((r:Int)<=(C.length:Int)):=by omega
   clear hbb hg hb0;go_wp2;go_loopw [9] (fun vi wr=>∃i:Nat,vi=.int .i64 i/\i<=C.length/\BB wr B (rn N L C b0 i)/\w.grownBy wr none) (fun vi _=>C.length - (intOf vi).toNat)
   case atStart=>exact ⟨0,rfl,Nat.zero_le _,HBB.o,HG.o⟩
   case round =>
    obtain ⟨i,rfl,hi,hbb,hg⟩:=hrel;have HBI:Hd (BB wr B (rn N L C b0 i)):=hbb;have HGI:Hd (w.grownBy wr none):=hg;have hlen:=HRL.o i;have HSN:Hd (rn N L C b0 (i+1)=(rn N L C b0 i).set i (vK N L C (rn N L C b0 i) i C.length)):=HRS.o i;obtain ⟨b,hb⟩:=nm (rn N L C b0 i);rw [hb] at HBI hlen HSN;obtain ⟨wp,hwp⟩:∃wp,wp=wr:=⟨_,rfl⟩;subst hwp
    by_cases hil:i < C.length
    ·obtain ⟨k0,hk0,hk0L⟩:=HIN.o i hil;obtain ⟨a1,ho1,hcp1,hat1⟩:=HEI.o wp hg i hil;have f0:=hat1 i hil;obtain ⟨a2,ho2,hcp2,hat2⟩:=HEL.o wp hg k0 hk0L;obtain ⟨e0,-⟩:=hat2 k0 hk0L;have hnc:=(HNC.o i hil k0 hk0L hk0).1;rw [hk0] at f0;obtain ⟨nz,hnm⟩:∃x,L[k0].nm=x:=⟨_,rfl⟩;rw [hnm] at e0 hnc;have HNM:Hd (nC L C i=nz):=hnc;have CN1:Hd (Calls Tryz.prog 31 #[.slice on nn cn,.string nz] wp fun e w''=>e=.returned (.bool (aI N L C i))/\wp.grownBy w'' none):=by
      have:=CN.o nz wp hg;unfold aI;rw [hnc];exact this
     have hiB:i < b.length:=by omega
     have HV0:Hd (vK N L C b i 0=(bA b i || aI N L C i)):=vK_zero N L C b i;have HVS:Hd (∀k,vK N L C b i (k+1)=(vK N L C b i k || (bA (b.set i (vK N L C b i k)) k && qI L C k i))):=fun k=>vK_step N L C b i k hiB
     obtain ⟨q0,hq0⟩:∃q,aI N L C i=q:=⟨_,rfl⟩;rw [hq0] at CN1 HV0;have hic:i < cc:=by omega
     have hkc:k0 < c:=by omega
     have hwB:w.heap.size<=B:=Nat.le_of_eq HB.o;have HWB:Hd (w.heap.size<=B):=hwB;subst ho1 ho2;clear hbb hg hat1 hat2 hk0 hnm hnc hq0 hcp1 hcp2 hb hwB;go_wp2_with (first | (go_at_call 31;refine CN1.o.mono ?_));rintro e w2 ⟨rfl,hg2⟩;have hb2:=HBI.o.grow hg2;obtain ⟨c0,c1⟩:=hb2.cell i hiB;have HG2:Hd (w.grownBy w2 none):=gb_trans HGI.o hg2;have HB2:Hd (BB w2 B b):=hb2;obtain ⟨u,hu⟩:=nm (bA b i);rw [hu] at c0 HV0;have HS2:Hd (∀x:Bool,vK N L C b i 0=x->BB (w2.setCell ⟨B,i,none⟩ (.bool x)) B (b.set i (vK N L C b i 0))/\w.grownBy (w2.setCell ⟨B,i,none⟩ (.bool x)) none):=fun x hx=>⟨by rw [hx];exact HB2.o.set i x,gb_setB HG2.o HWB.o _ _⟩
     clear hb2 hg2 hu f0 e0;have key:∀x:Bool,(u || q0)=x->∃W3,w2.setCell ⟨B,i,none⟩ (.bool x)=W3/\BB W3 B (b.set i (vK N L C b i 0))/\w.grownBy W3 none:=fun x hx=>⟨_,rfl,HS2.o x (HV0.o.trans hx)⟩
     have KEY:Hd (∀x:Bool,(u || q0)=x->∃W3,w2.setCell ⟨B,i,none⟩ (.bool x)=W3/\BB W3 B (b.set i (vK N L C b i 0))/\w.grownBy W3 none):=key;clear key;go_upto_region 10 with fail
     go_cut [7] from 40 to 49 (fun v7 wx=>v7=.slice (some ⟨B,0,none⟩) C.length C.length/\BB wx B (b.set i (vK N L C b i 0))/\w.grownBy wx none)
     case first =>
      cases u with
      | true =>
       obtain ⟨W3,hW3,h3⟩:=KEY.o true rfl;have H3:Hd (BB W3 B (b.set i (vK N L C b i 0))/\w.grownBy W3 none):=h3;clear h3;go_wp2;go_meet
       case rel=>exact ⟨rfl,H3.o⟩
      | false =>
       obtain ⟨W3,hW3,h3⟩:=KEY.o q0 (by simp);have H3:Hd (BB W3 B (b.set i (vK N L C b i 0))/\w.grownBy W3 none):=h3;clear h3;go_wp2;go_meet
       case rel=>exact ⟨rfl,H3.o⟩
     case rest =>
      obtain ⟨rfl,hb3,hg3⟩:=hcut;have HB3:Hd (BB wc B (b.set i (vK N L C b i 0))/\w.grownBy wc none):=⟨hb3,hg3⟩;clear hb3 hg3 KEY HS2 c0 c1;go_wp2;go_loopw [12] (fun vk wr=>∃k:Nat,vk=.int .i64 k/\k<=C.length/\BB wr B (b.set i (vK N L C b i k))/\w.grownBy wr none) (fun vk _=>C.length - (intOf vk).toNat)
      case atStart=>exact ⟨0,rfl,Nat.zero_le _,HB3.o⟩
      case round =>
       obtain ⟨k,rfl,hk,hbb,hg⟩:=hrel;have HBK:Hd (BB wr B (b.set i (vK N L C b i k))):=hbb;have HGK:Hd (w.grownBy wr none):=hg
       by_cases hkl:k < C.length
       ·obtain ⟨k1,hk1,hk1L⟩:=HIN.o k hkl;obtain ⟨a3,ho3,hcp3,hat3⟩:=HEI.o wr hg k hkl;have f0:=hat3 k hkl;obtain ⟨a4,ho4,hcp4,hat4⟩:=HEL.o wr hg k1 hk1L;obtain ⟨-,-,⟨sv,e2,e3⟩,-⟩:=hat4 k1 hk1L;have hnq:=(HNC.o k hkl k1 hk1L hk1).2;have hlnx:=HLN.o _ (List.getElem_mem hk1L);rw [hk1] at f0;have C5:Hd (Calls Tryz.prog 31 #[sv,.string nz] wr fun e w''=>e=.returned (.bool (qI L C k i))/\wr.grownBy w'' none):=by
         have:=CL.o sv L[k1].nd nz wr e3 hlnx;unfold qI;rw [hnq,HNM.o];exact this
        obtain ⟨so,sn,sc,rfl⟩:∃o n c,sv=.slice o n c:=by
         rcases e3 with ⟨rfl,-⟩ | ⟨_,_,rfl,-⟩ <;> exact ⟨_,_,_,rfl⟩
        have HVK:Hd (vK N L C b i (k+1)=(vK N L C b i k || (bA (b.set i (vK N L C b i k)) k && qI L C k i))):=HVS.o k;obtain ⟨q,hq⟩:=nm (qI L C k i);rw [hq] at C5 HVK;have hkcc:k < cc:=by omega
        have hk1c:k1 < c:=by omega
        cases ho3
        cases ho4
        clear hbb hg hat3 hat4 hk1 hnq hlnx hq hcp3 hcp4 e3;go_wp2_with (first | (go_at_call 31;refine C5.o.mono ?_));rintro e w5 ⟨rfl,hg5⟩;have hb5:=HBK.o.grow hg5;obtain ⟨s0,s1⟩:=hb5.cell i (by rw [List.length_set];exact hiB);obtain ⟨s2,-⟩:=hb5.cell k (by rw [List.length_set];omega);have HG5:Hd (w.grownBy w5 none):=gb_trans HGK.o hg5;have e5:bA (b.set i (vK N L C b i k)) i=vK N L C b i k:=by rw [bA_set _ _ _ _ hiB,if_pos rfl]
        rw [e5] at s0;have HS5:Hd (∀x:Bool,vK N L C b i (k+1)=x->BB (w5.setCell ⟨B,i,none⟩ (.bool x)) B (b.set i (vK N L C b i (k+1)))/\w.grownBy (w5.setCell ⟨B,i,none⟩ (.bool x)) none):=fun x hx=>by
         refine ⟨?_,gb_setB HG5.o HWB.o _ _⟩;have:=hb5.set i x;rw [List.set_set] at this;rw [hx];exact this
        obtain ⟨v,hv⟩:=nm (vK N L C b i k);rw [hv] at s0 s2 HVK;obtain ⟨u,hu⟩:=nm (bA (b.set i v) k);rw [hu] at s2 HVK;clear hb5 hg5 hv hu f0 e2 e5
        cases v with
        | true =>
         have H5:Hd (BB (w5.setCell ⟨B,i,none⟩ (.bool true)) B (b.set i (vK N L C b i (k+1)))/\w.grownBy (w5.setCell ⟨B,i,none⟩ (.bool true)) none):=HS5.o true (by rw [HVK.o];rfl);go_wp2;go_roundw
         case rel=>exact ⟨k+1,by go_num,by omega,H5.o⟩
         case measure=>simp [intOf];omega
        | false =>
         cases u with
         | true =>
          have H5:Hd (BB (w5.setCell ⟨B,i,none⟩ (.bool q)) B (b.set i (vK N L C b i (k+1)))/\w.grownBy (w5.setCell ⟨B,i,none⟩ (.bool q)) none):=HS5.o q (by rw [HVK.o];simp);go_wp2;go_roundw
          case rel=>exact ⟨k+1,by go_num,by omega,H5.o⟩
          case measure=>simp [intOf];omega
         | false =>
          have H5:Hd (BB (w5.setCell ⟨B,i,none⟩ (.bool false)) B (b.set i (vK N L C b i (k+1)))/\w.grownBy (w5.setCell ⟨B,i,none⟩ (.bool false)) none):=HS5.o false (by rw [HVK.o];rfl);go_wp2;go_roundw
          case rel=>exact ⟨k+1,by go_num,by omega,H5.o⟩
          case measure=>simp [intOf];omega
       ·have hke:k=C.length:=by omega
        have HBN:Hd (BB wr B (rn N L C b0 (i+1))):=by
         rw [hke] at hbb;rw [HSN.o];exact hbb
        clear hbb hg hke hk;go_wp2;go_roundw
        case rel=>exact ⟨i+1,by go_num,by omega,HBN.o,HGK.o⟩
        case measure=>simp [intOf];omega
    ·have hie:i=C.length:=by omega
     have HBN:Hd (BB wp B (wD N L C (r+1))):=by
      rw [hie] at hbb;rw [HWN.o];exact hbb
     clear hbb hg hie hi hb;go_wp2;go_roundw
     case rel=>exact ⟨r+1,by go_num,by omega,HBN.o,HGI.o⟩
     case measure=>simp [intOf];omega
  ·have hre:r=C.length+1:=by omega
   have HBN:Hd (BB wo B (wD N L C (C.length+1))):=by rw [hre] at hbb;exact hbb
   have hrI:¬ ((r:Int)<=(C.length:Int)):=by omega
   clear hbb hg hre hr hb0;go_wp2;refine bodyPost_ret (results_tmp (t:=6) rfl _ _ _) rfl ⟨B,rfl,HBN.o,HG.o⟩
end Go.Proofs.YticgahdffjnabaaGreatDoor
