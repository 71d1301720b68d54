import Derived.Test.YtonfldbigenfhaaGreatDoorB01
import Derived.Lib.ItoaNum
import Derived.Test.YtonfldbigenfhaaGreatDoorProg
import Derived.WalkKit
import Derived.WalkSpells
import Derived.WalkLawsBesides
import Derived.Deep.QuietTactic
import Derived.BigQuiet
import Derived.Below
import Derived.Lib.ConvBytes
import Derived.Shelf.Strconv.Clone
namespace Go.Proofs.YtonfldbigenfhaaGreatDoor
set_option linter.unusedVariables false
theorem isP_dot {c:UInt8} (h:isP c=true):c ≠ 46:=by
 intro e;subst e;exact absurd h (by decide)
theorem splitD_other (c:UInt8) (hc:c ≠ 46) (r:List UInt8):∀(q:List UInt8),(∀x ∈ q,x ≠ 46)->∃t ps,splitD (q++c :: r)=(q++c :: t) :: ps
 | [],_=>by
  rw [List.nil_append,splitD_cons,if_neg hc]
  cases h:splitD r with
  | nil=>exact absurd h (splitD_ne r)
  | cons p ps=>exact ⟨p,ps,rfl⟩
 | x :: q,h=>by
  obtain ⟨t,ps,e⟩:=splitD_other c hc r q (fun y hy=>h y (List.mem_cons_of_mem _ hy))
  rw [List.cons_append,splitD_cons,if_neg (h x (List.mem_cons_self ..)),e]
  exact ⟨t,ps,rfl⟩
theorem drop_run (l:List UInt8) (i:Nat) (p:UInt8->Bool):l.drop i=subT l i (runN p l i)++l.drop (i+runN p l i):=by
 unfold subT;rw [<-List.drop_drop,List.take_append_drop]
theorem sub_all (p:UInt8->Bool) (l:List UInt8) (i:Nat):(subT l i (runN p l i)).all p=true:=by
 rw [subT_run];exact List.all_takeWhile
theorem sub_len (l:List UInt8) (i k:Nat) (h:i+k<=l.length):(subT l i k).length=k:=by
 unfold subT;simp;omega
theorem parts_iff (s:Bool) (l:List UInt8):∀(n i:Nat),l.length - i=n->i<=l.length->(rdParts s l i=(0,l.length) ↔ (splitD (l.drop i)).all (okPart s)=true):=by
 intro n
 induction n using Nat.strongRecOn with
 | ind n ih =>
  intro i hn hi
  have hle:=runN_le isP l i hi
  have hd:=drop_run l i isP
  have hall:=sub_all isP l i
  have hlen:=sub_len l i _ hle
  have hnd:∀x ∈ subT l i (runN isP l i),x ≠ 46:=fun x hx=>isP_dot (List.all_eq_true.1 hall x hx)
  rw [rdParts_eq]
  -- what stands behind the run
  rcases Nat.lt_or_ge (i+runN isP l i) l.length with hlt | hge
  ·have hst:=runN_stop isP l i hlt
   rw [List.drop_eq_getElem_cons hlt] at hd
   by_cases h46:l[i+runN isP l i]=46
   ·rw [h46] at hd
    have hsp:splitD (l.drop i)=subT l i (runN isP l i) :: splitD (l.drop (i+runN isP l i+1)):=by
     rw [hd];exact splitD_dot _ _ hnd
    have hg:l[i+runN isP l i]?=some 46:=by rw [List.getElem?_eq_getElem hlt,h46]
    rw [hsp,List.all_cons,Bool.and_eq_true]
    by_cases h0:runN isP l i=0
    ·rw [if_pos h0]
     have:subT l i (runN isP l i)=[]:=List.length_eq_zero_iff.1 (by omega)
     rw [this]
     constructor
     ·intro h;simp at h
     ·rintro ⟨h,_⟩;simp [okPart] at h
    ·rw [if_neg h0]
     by_cases hb:badZ s (subT l i (runN isP l i))=true
     ·rw [if_pos hb]
      constructor
      ·intro h;simp at h
      ·rintro ⟨h,_⟩;simp [okPart,hb] at h
     ·rw [if_neg hb,if_pos hg]
      have hok:okPart s (subT l i (runN isP l i))=true:=by
       have h1:(subT l i (runN isP l i)).isEmpty=false:=by
        cases h:subT l i (runN isP l i) with
        | nil=>rw [h] at hlen;simp at hlen;omega
        | cons c r=>rfl
       have h2:badZ s (subT l i (runN isP l i))=false:=by simpa using hb
       simp [okPart,h1,hall,h2]
      rw [ih (l.length - (i+runN isP l i+1)) (by omega) (i+runN isP l i+1) rfl (by omega)]
      simp [hok]
   ·obtain ⟨t,ps,e⟩:=splitD_other _ h46 (l.drop (i+runN isP l i+1)) _ hnd
    rw [<-hd] at e
    have hbad:okPart s (subT l i (runN isP l i)++l[i+runN isP l i] :: t)=false:=by
     unfold okPart
     rw [List.all_append,List.all_cons,hst];simp
    have hg:¬ l[i+runN isP l i]?=some 46:=by
     rw [List.getElem?_eq_getElem hlt];simpa using h46
    rw [e,List.all_cons,hbad,if_neg hg]
    have hne:¬ i+runN isP l i=l.length:=by omega
    by_cases h0:runN isP l i=0
    ·rw [if_pos h0];simp
    ·rw [if_neg h0]
     split <;> simp [hne]
  ·have hn0:l.drop (i+runN isP l i)=[]:=List.drop_of_length_le hge
   rw [hn0,List.append_nil] at hd
   have hsp:splitD (l.drop i)=[subT l i (runN isP l i)]:=by
    rw [hd];exact splitD_free _ hnd
   have hg:¬ l[i+runN isP l i]?=some 46:=by
    rw [List.getElem?_eq_none hge];simp
   rw [hsp,List.all_cons,List.all_nil,Bool.and_true,if_neg hg]
   have heq:i+runN isP l i=l.length:=by omega
   by_cases h0:runN isP l i=0
   ·rw [if_pos h0]
    have:subT l i (runN isP l i)=[]:=List.length_eq_zero_iff.1 (by omega)
    rw [this]
    simp [okPart]
   ·rw [if_neg h0]
    have h1:(subT l i (runN isP l i)).isEmpty=false:=by
     cases h:subT l i (runN isP l i) with
     | nil=>rw [h] at hlen;simp at hlen;omega
     | cons c r=>rfl
    by_cases hb:badZ s (subT l i (runN isP l i))=true
    ·rw [if_pos hb];simp [okPart,hb]
    ·rw [if_neg hb]
     have h2:badZ s (subT l i (runN isP l i))=false:=by simpa using hb
     simp [okPart,h1,hall,h2,heq]
theorem parts_ok (s:Bool) (l:List UInt8) (h:l ≠ []):decide (rdParts s l 0=(0,l.length))=okParts s l:=by
 have e:=parts_iff s l _ 0 rfl (Nat.zero_le _)
 rw [List.drop_zero] at e
 have h1:l.isEmpty=false:=by simpa using h
 unfold okParts
 rw [h1,Bool.false_or,Bool.eq_iff_iff]
 simp only [decide_eq_true_eq]
 exact e
set_option linter.unusedVariables false
theorem tw_app (f:UInt8->Bool):∀(p r:List UInt8),p.all f=true->(∀c t,r=c :: t->f c=false)->(p++r).takeWhile f=p
 | [],r,_,h=>by
  cases r with
  | nil=>rfl
  | cons c t=>simp [h c t rfl]
 | c :: p,r,hp,h=>by
  simp only [List.all_cons,Bool.and_eq_true] at hp
  rw [List.cons_append,List.takeWhile_cons,if_pos hp.1,tw_app f p r hp.2 h]
theorem run_of (f:UInt8->Bool) (l p r:List UInt8) (i:Nat) (hd:l.drop i=p++r) (hp:p.all f=true) (hr:∀c t,r=c :: t->f c=false) :
  runN f l i=p.length/\subT l i p.length=p/\l[i+p.length]?=r.head?/\l.drop (i+p.length)=r:=by
 refine ⟨?_,?_,?_,?_⟩
 ·unfold runN;rw [hd,tw_app f p r hp hr]
 ·unfold subT;rw [hd];simp
 ·rw [<-List.getElem?_drop,hd]
  rw [List.getElem?_append_right (Nat.le_refl _)]
  simp [List.head?_eq_getElem?]
 ·rw [<-List.drop_drop,hd];simp
theorem dig_val (u:Nat) (h:u < 10):(UInt8.ofNat (48+u)).toNat=48+u:=by
 show (48+u) % 256=48+u;omega
theorem dig_isD (u:Nat) (h:u < 10):isD (UInt8.ofNat (48+u))=true:=by
 unfold isD;rw [dig_val u h];simp;omega
theorem dec_val (u:Nat):valN (Lib.decDigits u)=u:=by
 induction u using Nat.strongRecOn with
 | ind u ih =>
  rw [Lib.decDigits]
  split
  ·rename_i h
   show valF 0 _=_
   unfold valF;rw [dig_val u h];omega
  ·rename_i h
   rw [valN_snoc,ih (u / 10) (by omega)]
   unfold valF;rw [dig_val _ (Nat.mod_lt _ (by decide))];omega
theorem dec_all (u:Nat):(Lib.decDigits u).all isD=true:=by
 induction u using Nat.strongRecOn with
 | ind u ih =>
  rw [Lib.decDigits]
  split
  ·rename_i h;rw [List.all_cons,dig_isD u h];rfl
  ·rename_i h
   rw [List.all_append,ih (u / 10) (by omega),List.all_cons,dig_isD _ (Nat.mod_lt u (by decide:0 < 10))];rfl
theorem dec_ne (u:Nat):Lib.decDigits u ≠ []:=by
 rw [Lib.decDigits];split <;> simp
theorem dec_head (u:Nat) (h:0 < u):(Lib.decDigits u)[0]? ≠ some 48:=by
 induction u using Nat.strongRecOn with
 | ind u ih =>
  rw [Lib.decDigits]
  split
  ·rename_i h'
   intro e
   simp only [List.getElem?_cons_zero,Option.some.injEq] at e
   have:=dig_val u h'
   rw [e] at this
   have e48:(48:UInt8).toNat=48:=rfl
   omega
  ·rename_i h'
   have:=ih (u / 10) (by omega) (by omega)
   have hne:=dec_ne (u / 10)
   rw [List.getElem?_append_left]
   ·exact this
   ·exact List.length_pos_iff.2 hne
theorem dec_zeros (u:Nat):¬ (1 < (Lib.decDigits u).length/\(Lib.decDigits u)[0]?=some 48):=by
 rintro ⟨h1,h2⟩
 rcases Nat.eq_zero_or_pos u with rfl | h
 ·rw [Lib.decDigits_one (by decide)] at h1;simp at h1
 ·exact dec_head u h h2
theorem rdNum_dec (l r:List UInt8) (i u:Nat) (hu:u<=999999999) (hd:l.drop i=Lib.decDigits u++r) (hr:∀c t,r=c :: t->isD c=false) :
  rdNum l i=(0,(u:Int),i+(Lib.decDigits u).length):=by
 obtain ⟨h1,h2,h3,h4⟩:=run_of isD l _ r i hd (dec_all u) hr
 have hl:0 < (Lib.decDigits u).length:=List.length_pos_iff.2 (dec_ne u)
 have hz:=dec_zeros u
 have h0:l[i]?=(Lib.decDigits u)[0]?:=by
  have:l[i]?=(l.drop i)[0]?:=by rw [List.getElem?_drop];rfl
  rw [this,hd,List.getElem?_append_left hl]
 unfold rdNum
 rw [h1,h2,dec_val,h0,if_neg (by omega),if_neg hz,if_neg (by omega)]
theorem parts_give (s:Bool) (l:List UInt8):∀(n:Nat) (q r:List UInt8) (i:Nat),q.length=n->l.drop i=q++r->(splitD q).all (okPart s)=true->(∀c t,r=c :: t->isP c=false/\c ≠ 46)->rdParts s l i=(0,i+q.length):=by
 intro n
 induction n using Nat.strongRecOn with
 | ind n ih =>
  intro q r i hn hd hq hr
  cases h3:cut3 q with
  | false =>
   have e:=cut_no h3
   rw [e] at hq
   have hc:cut1 q=q:=by
    have h':Lib.indexByte q 46=-1:=by simpa [cut3] using h3
    unfold cut1;rw [if_pos h']
   rw [hc] at hq
   have hq':q.isEmpty=false/\q.all isP=true/\badZ s q=false:=by
    rw [List.all_cons] at hq;simp only [okPart,List.all_nil,Bool.and_true,Bool.and_eq_true,Bool.not_eq_true'] at hq;exact ⟨hq.1.1,hq.1.2,hq.2⟩
   obtain ⟨h1,h2,h4,h5⟩:=run_of isP l q r i hd hq'.2.1 (fun c t e=>(hr c t e).1)
   have hql:0 < q.length:=by
    cases q with
    | nil=>simp at hq'
    | cons c t=>simp
   rw [rdParts_eq,h1,h2,h4,if_neg (by omega),if_neg (by simp [hq'.2.2]),if_neg]
   cases r with
   | nil=>simp
   | cons c t=>simpa using (hr c t rfl).2
  | true =>
   have e:=cut_yes h3
   rw [e.1] at hq
   simp only [List.all_cons,Bool.and_eq_true] at hq
   have hq':(cut1 q).isEmpty=false/\(cut1 q).all isP=true/\badZ s (cut1 q)=false:=by
    have:=hq.1
    simp only [okPart,Bool.and_eq_true,Bool.not_eq_true'] at this;exact ⟨this.1.1,this.1.2,this.2⟩
   have hsplit:q=cut1 q++46 :: cut2 q:=by
    have h':¬ Lib.indexByte q 46=-1:=by simpa [cut3] using h3
    rcases ix_cases q with ⟨g1,g2⟩ | ⟨k,g1,g2,g3,g4⟩
    ·exact absurd g1 h'
    ·unfold cut1 cut2
     rw [if_neg h',if_neg h',g1,Int.toNat_natCast]
     exact g4
   have hd2:l.drop i=cut1 q++46 :: (cut2 q++r):=by
    rw [hd];conv=>lhs;rw [hsplit]
    simp
   obtain ⟨h1,h2,h4,h5⟩:=run_of isP l (cut1 q) _ i hd2 hq'.2.1 (fun c t e=>by
    have:c=46:=by simp at e;exact e.1.symm
    rw [this];decide)
   have hql:0 < (cut1 q).length:=by
    cases h:cut1 q with
    | nil=>rw [h] at hq';simp at hq'
    | cons c t=>simp
   rw [rdParts_eq,h1,h2,h4,if_neg (by omega),if_neg (by simp [hq'.2.2]),if_pos (by simp)]
   have hd3:l.drop (i+(cut1 q).length+1)=cut2 q++r:=by
    rw [<-List.drop_drop,h5];simp
   rw [ih (cut2 q).length (by omega) (cut2 q) r _ rfl hd3 hq.2 hr]
   have hl:q.length=(cut1 q).length+((cut2 q).length+1):=by
    conv=>lhs;rw [hsplit]
    simp
   rw [hl];congr 1;omega
theorem sub_split (l:List UInt8) (i k j:Nat) (hk:i+k < j) (hj:j<=l.length) (h46:l[i+k]?=some 46) :
  subT l i (j - i)=subT l i k++46 :: subT l (i+k+1) (j - (i+k+1)):=by
 unfold subT
 obtain ⟨hlt,e⟩:=List.getElem?_eq_some_iff.1 h46
 have h1:j - i=k+((j - (i+k+1))+1):=by omega
 rw [h1,List.take_add,List.drop_drop,List.drop_eq_getElem_cons hlt,List.take_succ_cons,e]
theorem parts_take (s:Bool) (l:List UInt8):∀(n i:Nat),l.length - i=n->i<=l.length->(rdParts s l i).1=0 →
  i < (rdParts s l i).2/\(rdParts s l i).2<=l.length/\(splitD (subT l i ((rdParts s l i).2 - i))).all (okPart s)=true:=by
 intro n
 induction n using Nat.strongRecOn with
 | ind n ih =>
  intro i hn hi h
  have hle:=runN_le isP l i hi
  have hall:=sub_all isP l i
  have hlen:=sub_len l i _ hle
  have hnd:∀x ∈ subT l i (runN isP l i),x ≠ 46:=fun x hx=>isP_dot (List.all_eq_true.1 hall x hx)
  rw [rdParts_eq] at h ⊢
  by_cases h0:runN isP l i=0
  ·rw [if_pos h0] at h;simp at h
  ·rw [if_neg h0] at h ⊢
   by_cases hb:badZ s (subT l i (runN isP l i))=true
   ·rw [if_pos hb] at h;simp at h
   ·rw [if_neg hb] at h ⊢
    have hok:okPart s (subT l i (runN isP l i))=true:=by
     have h1:(subT l i (runN isP l i)).isEmpty=false:=by
      cases h:subT l i (runN isP l i) with
      | nil=>rw [h] at hlen;simp at hlen;omega
      | cons c r=>rfl
     have h2:badZ s (subT l i (runN isP l i))=false:=by simpa using hb
     simp [okPart,h1,hall,h2]
    by_cases hg:l[i+runN isP l i]?=some 46
    ·rw [if_pos hg] at h ⊢
     have hlt:=(List.getElem?_eq_some_iff.1 hg).1
     obtain ⟨g1,g2,g3⟩:=ih (l.length - (i+runN isP l i+1)) (by omega) (i+runN isP l i+1) rfl (by omega) h
     refine ⟨by omega,g2,?_⟩
     rw [sub_split l i (runN isP l i) _ (by omega) g2 hg,splitD_dot _ _ hnd,List.all_cons,hok,g3];rfl
    ·rw [if_neg hg]
     refine ⟨by simp only;omega,hle,?_⟩
     simp only
     rw [show i+runN isP l i - i=runN isP l i by omega,splitD_free _ hnd]
     simp [hok]
set_option linter.unusedVariables false
structure Vv where
 major:Int
 minor:Int
 patch:Int
 pre:List UInt8
 build:List UInt8
def optP (c:UInt8) (s:Bool) (l:List UInt8) (i:Nat):Int × Nat × List UInt8 :=
 if l[i]?=some c then
  (if (rdParts s l (i+1)).1=0 then (0,(rdParts s l (i+1)).2,subT l (i+1) ((rdParts s l (i+1)).2 - (i+1))) else ((rdParts s l (i+1)).1,(rdParts s l (i+1)).2,[]))
 else (0,i,[])
def optT (c:UInt8) (p:List UInt8):List UInt8:=if p=[] then [] else c :: p
def textV (v:Vv):List UInt8:=Lib.itoa v.major++(46 :: (Lib.itoa v.minor++(46 :: (Lib.itoa v.patch++(optT 45 v.pre++optT 43 v.build)))))
def bound (n:Int):Bool:=decide (0<=n) && decide (n<=1000000000)
theorem bound_iff {n:Int}:bound n=true ↔ 0<=n/\n<=1000000000:=by unfold bound;simp
def soundV (v:Vv):Bool:=bound v.major && (bound v.minor && (bound v.patch && (okParts true v.pre && okParts false v.build)))
theorem itoa_dec {n:Int} (h:0<=n):Lib.itoa n=Lib.decDigits n.toNat:=by unfold Lib.itoa;rw [if_neg (by omega)]
theorem okParts_split {s:Bool} {l:List UInt8} (h:okParts s l=true) (hne:l ≠ []):(splitD l).all (okPart s)=true:=by
 have:l.isEmpty=false:=by simpa using hne
 unfold okParts at h;rw [this,Bool.false_or] at h;exact h
theorem opt_give (c:UInt8) (s:Bool) (l p r:List UInt8) (i:Nat) (hd:l.drop i=optT c p++r) (hp:okParts s p=true) (hr:∀x t,r=x :: t->isP x=false/\x ≠ 46/\x ≠ c) :
  optP c s l i=(0,i+(optT c p).length,p)/\l.drop (i+(optT c p).length)=r:=by
 have h0:l[i]?=(optT c p++r)[0]?:=by rw [<-hd,List.getElem?_drop];rfl
 unfold optT at hd h0 ⊢
 unfold optP
 by_cases hne:p=[]
 ·subst hne
  simp only [if_true,List.nil_append] at hd h0
  rw [if_neg]
  ·simpa using hd
  ·rw [h0]
   cases r with
   | nil=>simp
   | cons x t=>simpa using (hr x t rfl).2.2
 ·rw [if_neg hne] at hd h0
  rw [if_neg hne,if_pos (by rw [h0];simp)]
  have hd2:l.drop (i+1)=p++r:=by rw [<-List.drop_drop,hd];simp
  have e:=parts_give s l _ p r (i+1) rfl hd2 (okParts_split hp hne) (fun x t h=>⟨(hr x t h).1,(hr x t h).2.1⟩)
  rw [e]
  simp only [if_true]
  refine ⟨?_,?_⟩
  ·have hs:subT l (i+1) (i+1+p.length - (i+1))=p:=by
    unfold subT;rw [show i+1+p.length - (i+1)=p.length by omega,hd2];simp
   rw [hs,List.length_cons];congr 2;omega
  ·rw [List.length_cons,show i+(p.length+1)=i+1+p.length by omega,<-List.drop_drop,hd2];simp
theorem drop_one {l:List UInt8} {i:Nat} {c:UInt8} {r:List UInt8} (h:l.drop i=c :: r):l.drop (i+1)=r/\l[i]?=some c:=by
 refine ⟨by rw [<-List.drop_drop,h];rfl,?_⟩
 have:l[i]?=(l.drop i)[0]?:=by rw [List.getElem?_drop];rfl
 rw [this,h];rfl
open Go.RowKit
set_option linter.unusedVariables false
def Hid (p:Prop):Prop:=p
theorem Hid.out {p:Prop} (h:Hid p):p:=h
theorem ret_int {k:IntKind} {a b:Int} (h:a=b):Ending.returned (.int k a)=.returned (.int k b):=by rw [h]
theorem ret_bool {a b:Bool} (h:a=b):Ending.returned (.bool a)=.returned (.bool b):=by rw [h]
set_option maxHeartbeats 400000 in
theorem isDigit_any (c:UInt8) (w:World):Calls Tryz.prog 138 #[.int .u8 (c.toNat:Int)] w fun e w'=>e=.returned (.bool (isD c))/\w'=w:=by
 go_enter Tryz.func138,Tryz.ntmps138
 go_wp2
 all_goals go_ret
 all_goals (refine ⟨ret_bool ?_,rfl⟩;rw [Bool.eq_iff_iff];unfold isD;simp;omega)
theorem gb_refl (w:World) (r:Option Nat):w.grownBy w r:=⟨rfl,rfl,rfl,Nat.le_refl _,fun _ _ _=>rfl⟩
theorem gb_drew {w w':World} {r:Option Nat} (h:w.grownBy w' r) (n:Nat):w.grownBy (w'.drewN n) r:=⟨h.os,h.tape,h.output,h.size,h.block⟩
theorem gb_set {w w':World} {b:Nat} (h:w.grownBy w' (some b)) (o:Nat) (v:Value):w.grownBy (w'.setCell ⟨b,o,none⟩ v) (some b):=by
 refine ⟨h.os,h.tape,h.output,by simpa [World.setCell] using h.size,fun k hk hne=>?_⟩
 rw [<-h.block k hk hne]
 exact heap_setCell_other w' _ k v (fun e=>hne (by rw [e]))
theorem gb_trans {w w1 w2:World} {r:Option Nat} (h:w.grownBy w1 r) (h':w1.grownBy w2 r):w.grownBy w2 r :=
 ⟨h'.os.trans h.os,h'.tape.trans h.tape,h'.output.trans h.output,Nat.le_trans h.size h'.size,fun k hk hne=>(h'.block k (Nat.lt_of_lt_of_le hk h.size) hne).trans (h.block k hk hne)⟩
theorem get_data (s:ByteArray) (i:Nat) (h:i < s.size):s.data.toList[i]?=some s[i]:=by rw [List.getElem?_eq_getElem (by simpa using h)];rfl
theorem run_sub (s:ByteArray) (i j:Nat) (hi:i<=j) (hj:j<=s.size) (w:World) :
  (Instr.slice 9 (.string s) (some (.int .i64 (i:Int))) (some (.int .i64 (j:Int))) none).run Tryz.prog w=.ok (.string ⟨(subT s.data.toList i (j - i)).toArray⟩) w:=by
 have h1:(0:Int)<=(i:Int):=by omega
 have h4:(i:Int)<=(j:Int):=by omega
 have h5:(j:Int)<=(s.size:Int):=by omega
 have e:s.extract i j=⟨(subT s.data.toList i (j - i)).toArray⟩:=by
  apply ByteArray.ext
  rw [ByteArray.data_extract]
  apply Array.ext'
  unfold subT
  simp
 rw [<-e]
 simp [go_sem,Tryz.underlying9,h1,h4,h5]
open Go.RowKit
set_option linter.unusedVariables false
theorem gb_below {w w':World} (h:w.grownBy w' none):Below w.heap.size w w':=⟨h.os,h.tape,h.output,h.size,fun k hk=>h.block k hk (by simp)⟩
theorem gb_undrew {w w':World} {r:Option Nat} (h:w.drew.grownBy w' r):w.grownBy w' r:=⟨h.os,h.tape,h.output,h.size,h.block⟩
theorem gb_alloc {w w':World} (h:w.grownBy w' none) (o:Obj):w.grownBy (w'.alloc o) none :=
 ⟨h.os,h.tape,h.output,by have:=h.size;simp;omega,fun k hk hn=>by rw [Lib.alloc_old _ _ _ (Nat.lt_of_lt_of_le hk h.size)];exact h.block k hk hn⟩
theorem gb_bytes (w:World) (e:TypeId) (s:ByteArray):w.grownBy (Lib.bytesWorld w e s) none :=
 ⟨rfl,rfl,rfl,by rw [Lib.bytesWorld_size];omega,fun k hk _=>Lib.bytesWorld_at_old w e s k hk⟩
theorem gb_weak {w w':World} (h:w.grownBy w' none) (r:Option Nat):w.grownBy w' r:=⟨h.os,h.tape,h.output,h.size,fun k hk _=>h.block k hk (by simp)⟩
set_option maxHeartbeats 400000 in
theorem isDigits_any (s:ByteArray) (w:World) (hs:s.size < 2 ^ 62) :
  Calls Tryz.prog 112 #[.string s] w fun e w'=>e=.returned (.bool (numT s.data.toList))/\w.grownBy w' none:=by
 have kc:=fun (w:World)=>Lib.run_convert_string_bytes (P:=Tryz.prog) w 9 120 5 s Tryz.underlying9 Tryz.underlying120 Tryz.underlying5
 obtain ⟨W,hW⟩:∃W,Lib.bytesWorld w 5 s=W:=⟨_,rfl⟩
 have HC:Hid (∀j,(hj:j < s.size)->W.cell? ⟨w.heap.size,j,none⟩=some (.int .u8 (s[j].toNat:Int))):=by
  show ∀j,(hj:j < s.size)->W.cell? ⟨w.heap.size,j,none⟩=some (.int .u8 (s[j].toNat:Int))
  intro j hj
  rw [<-hW,Lib.bytesWorld_cell w _ s j hj]
  have:s.data.toList.getD j 0=s[j]:=by
   rw [List.getD_eq_getElem?_getD,get_data s j hj];rfl
  rw [this]
 have HG:Hid (w.grownBy W none):=by show w.grownBy W none;rw [<-hW];exact gb_bytes w _ s
 have kw:=kc w
 rw [hW] at kw
 clear kc hW
 go_enter Tryz.func112,Tryz.ntmps112
 go_wp2
 go_loop [8] (fun i=>∃k:Nat,k<=s.size/\i=.int .i64 k/\∀j,(hj:j < s.size)->j < k->isD s[j]=true) (fun i=>s.size - (intOf i).toNat)
 case atStart=>exact ⟨0,Nat.zero_le _,rfl,fun j hj h=>absurd h (by omega)⟩
 case round =>
  obtain ⟨k,hk,rfl,hp⟩:=hrel
  have HP:Hid (∀j,(hj:j < s.size)->j < k->isD s[j]=true):=hp
  clear hp
  by_cases hlt:k < s.size
  ·have ck:=HC.out k hlt
   cases hd:isD s[k] with
   | true =>
    go_wp2_with (go_at_call 138;refine (isDigit_any _ _).mono ?_;rintro e w' ⟨rfl,rfl⟩)
    go_round
    case rel =>
     refine ⟨k+1,by omega,by go_num,fun j hj hjk=>?_⟩
     by_cases hjk':j < k
     ·exact HP.out j hj hjk'
     ·have e:j=k:=by omega
      subst e
      exact hd
    case measure=>simp [intOf];omega
   | false =>
    have HN:Hid (numT s.data.toList=false):=by
     show numT s.data.toList=false
     unfold numT
     have:s.data.toList.all isD=false:=by
      rw [List.all_eq_false]
      exact ⟨s[k],List.mem_of_getElem? (get_data s k hlt),by simp [hd]⟩
     rw [this,Bool.and_false]
    go_wp2_with (go_at_call 138;refine (isDigit_any _ _).mono ?_;rintro e w' ⟨rfl,rfl⟩)
    go_ret
    exact ⟨ret_bool HN.out.symm,HG.out⟩
  ·have hks:k=s.size:=by omega
   have HA:Hid (s.data.toList.all isD=true):=by
    show s.data.toList.all isD=true
    rw [List.all_eq_true]
    intro c hc
    obtain ⟨j,hj,rfl⟩:=List.getElem_of_mem hc
    exact HP.out j (by simpa using hj) (by simp at hj;have:s.size=s.data.size:=rfl;omega)
   clear hks hk
   go_wp2
   go_ret
   refine ⟨ret_bool ?_,HG.out⟩
   unfold numT
   rw [Lib.toList_data,HA.out,Bool.and_true]
theorem run_pre (s:ByteArray) (k:Nat) (hk:k<=s.size) (w:World) :
  (Instr.slice 9 (.string s) none (some (.int .i64 (k:Int))) none).run Tryz.prog w=.ok (.string ⟨(s.data.toList.take k).toArray⟩) w:=by
 have h5:(k:Int)<=(s.size:Int):=by omega
 have e:s.extract 0 k=⟨(s.data.toList.take k).toArray⟩:=by
  apply ByteArray.ext
  rw [ByteArray.data_extract]
  apply Array.ext'
  simp
 rw [<-e]
 simp [go_sem,Tryz.underlying9,h5]
theorem run_suf (s:ByteArray) (k:Nat) (hk:k<=s.size) (w:World) :
  (Instr.slice 9 (.string s) (some (.int .i64 (k:Int))) none none).run Tryz.prog w=.ok (.string ⟨(s.data.toList.drop k).toArray⟩) w:=by
 have h1:(0:Int)<=(k:Int):=by omega
 have h5:(k:Int)<=(s.size:Int):=by omega
 have e:s.extract k s.size=⟨(s.data.toList.drop k).toArray⟩:=by
  apply ByteArray.ext
  rw [ByteArray.data_extract]
  apply Array.ext'
  simp
  exact List.take_of_length_le (by simp)
 rw [<-e]
 simp [go_sem,Tryz.underlying9,h1,h5]
end Go.Proofs.YtonfldbigenfhaaGreatDoor
namespace Go.Proofs
open Go.Shelf
def Tryz.lays316_ren:Go.Shelf.Ren:=⟨fun | 316=>121 | n=>n,fun | 22=>54 | 23=>170 | 27=>118 | 28=>131 | 31=>93 | 37=>120 | 40=>236 | 41=>113 | 42=>140 | 43=>117 | 46=>178 | 47=>177 | 51=>210 | 52=>209 | 53=>196 | 54=>197 | 55=>213 | 59=>154 | 60=>155 | 63=>217 | 64=>228 | 67=>95 | 68=>112 | 69=>163 | 70=>119 | 71=>121 | 72=>122 | 73=>123 | 74=>124 | 75=>125 | 76=>126 | 77=>127 | 80=>128 | 81=>99 | 83=>98 | 84=>172 | 104=>38 | 105=>215 | 106=>216 | 111=>55 | 112=>97 | 114=>214 | 115=>189 | 116=>190 | 117=>191 | 118=>192 | 119=>232 | 122=>188 | 123=>193 | 124=>194 | 127=>160 | 131=>207 | 137=>233 | 138=>234 | 139=>235 | 146=>226 | 151=>227 | 164=>173 | 165=>174 | 166=>175 | 171=>195 | 172=>198 | 173=>199 | 174=>200 | 182=>202 | 183=>203 | 211=>218 | 212=>219 | 213=>220 | 218=>221 | 219=>222 | 220=>223 | 222=>137 | 228=>229 | 229=>230 | 232=>237 | 233=>238 | 238=>239 | 239=>240 | 240=>241 | 241=>242 | 242=>243 | 243=>244 | 244=>245 | 245=>246 | 246=>247 | 247=>248 | 248=>249 | 249=>250 | n=>n,fun | 1=>0 | 3=>2 | 4=>3 | 17=>1 | 18=>4 | 19=>5 | n=>n⟩
set_option maxRecDepth 100000 in
theorem Tryz.lays316:Go.Proofs.LaysM.n316 Tryz.prog Tryz.lays316_ren:={
 mixed:=by kernel_rfl
 f316:=Tryz.func121.trans (congrArg some (by kernel_rfl))
 t0:=Tryz.underlying0
 a0:=Tryz.isAgg0
 z0:=Tryz.sizeOf0
 v0:=Tryz.zeroValue0
 t3:=Tryz.underlying3
 a3:=Tryz.isAgg3
 z3:=Tryz.sizeOf3
 v3:=Tryz.zeroValue3
 t4:=Tryz.underlying4
 a4:=Tryz.isAgg4
 z4:=Tryz.sizeOf4
 v4:=Tryz.zeroValue4
 t9:=Tryz.underlying9
 a9:=Tryz.isAgg9
 z9:=Tryz.sizeOf9
 v9:=Tryz.zeroValue9
 t37:=Tryz.underlying120
 a37:=Tryz.isAgg120
 z37:=Tryz.sizeOf120
 v37:=Tryz.zeroValue120
 t127:=Tryz.underlying160
 a127:=Tryz.isAgg160
 z127:=Tryz.sizeOf160
 v127:=Tryz.zeroValue160
 t5:=Tryz.underlying5
 a5:=Tryz.isAgg5
 z5:=Tryz.sizeOf5
 v5:=Tryz.zeroValue5
 i0:=by kernel_rfl
 i3:=by kernel_rfl
 i4:=by kernel_rfl
 i5:=by kernel_rfl
 i9:=by kernel_rfl
 i37:=by kernel_rfl
 i127:=by kernel_rfl }
end Go.Proofs
namespace Go.Proofs.YtonfldbigenfhaaGreatDoor
open Go.RowKit Go.Shelf
set_option linter.unusedVariables false
theorem cloneL_any (s:ByteArray) (w:World) (hlim:s.size<=281474976710656) :
  Calls Tryz.prog 121 #[.string s] w fun e w'=>e=.returned (.string s)/\Below w.heap.size w w':=Any.stringslite_Clone Tryz.lays316 s w hlim
set_option maxHeartbeats 400000 in
theorem clone_any (s:ByteArray) (w:World) (hlim:s.size<=281474976710656) :
  Calls Tryz.prog 105 #[.string s] w fun e w'=>e=.returned (.string s)/\w.grownBy w' none:=by
 have C:Hid (∀w,Calls Tryz.prog 121 #[.string s] w fun e w'=>e=.returned (.string s)/\Below w.heap.size w w'):=fun w=>cloneL_any s w hlim
 clear hlim
 go_enter Tryz.func105,Tryz.ntmps105
 go_wp2_with (first | (go_at_call 121;refine (C.out _).mono ?_;rintro e w1 ⟨rfl,hb⟩))
 go_ret
 exact ⟨rfl,⟨hb.os,hb.tape,hb.output,hb.size,fun k hk _=>hb.block k hk⟩⟩
open Go.RowKit
set_option linter.unusedVariables false
def St (A:Nat) (a1 a2 a3:Int) (a4 a5:ByteArray) (w:World):Prop:=w.cell? ⟨A,0,none⟩=some (.int .i64 a1)/\w.cell? ⟨A,1,none⟩=some (.int .i64 a2)/\w.cell? ⟨A,2,none⟩=some (.int .i64 a3)/\w.cell? ⟨A,3,none⟩=some (.string a4)/\w.cell? ⟨A,4,none⟩=some (.string a5)
theorem St.grow {A:Nat} {a1 a2 a3:Int} {a4 a5:ByteArray} {w w':World} (h:St A a1 a2 a3 a4 a5 w) (hg:w.grownBy w' none):St A a1 a2 a3 a4 a5 w' :=
 ⟨hg.cell h.1 (by simp),hg.cell h.2.1 (by simp),hg.cell h.2.2.1 (by simp),hg.cell h.2.2.2.1 (by simp),hg.cell h.2.2.2.2 (by simp)⟩
theorem st_row {A t:Nat} {a1 a2 a3:Int} {a4 a5:ByteArray} {w:World} (h:w.heap[A]?=some (.cells #[.int .i64 a1,.int .i64 a2,.int .i64 a3,.string a4,.string a5] t (0,0))):St A a1 a2 a3 a4 a5 w :=
 ⟨by rw [Lib.cell_of_heap h];rfl,by rw [Lib.cell_of_heap h];rfl,by rw [Lib.cell_of_heap h];rfl,by rw [Lib.cell_of_heap h];rfl,by rw [Lib.cell_of_heap h];rfl⟩
open Go.RowKit
set_option linter.unusedVariables false
def VX (v:Nat) (y1 y2 y3:Int) (x4 x5:ByteArray) (w:World):Prop:=w.heap[v]?=some (.cells #[.int .i64 y1,.int .i64 y2,.int .i64 y3,.string x4,.string x5] 35 (0,0))
theorem VX.cells {v:Nat} {y1 y2 y3:Int} {x4 x5:ByteArray} {w:World} (h:VX v y1 y2 y3 x4 x5 w):w.cell? ⟨v,0,none⟩=some (.int .i64 y1)/\w.cell? ⟨v,1,none⟩=some (.int .i64 y2)/\w.cell? ⟨v,2,none⟩=some (.int .i64 y3)/\w.cell? ⟨v,3,none⟩=some (.string x4)/\w.cell? ⟨v,4,none⟩=some (.string x5) :=
 ⟨by rw [Lib.cell_of_heap h];rfl,by rw [Lib.cell_of_heap h];rfl,by rw [Lib.cell_of_heap h];rfl,by rw [Lib.cell_of_heap h];rfl,by rw [Lib.cell_of_heap h];rfl⟩
theorem VX.f {v:Nat} {y1 y2 y3:Int} {x4 x5:ByteArray} {w:World} (h:VX v y1 y2 y3 x4 x5 w) (o:Nat):w.frozen? ⟨v,o,none⟩=false:=Lib.frozen_of_heap h o
theorem VX.grow {b v:Nat} {y1 y2 y3:Int} {x4 x5:ByteArray} {w w':World} (h:VX v y1 y2 y3 x4 x5 w) (hg:w.grownBy w' (some b)) (hn:v ≠ b):VX v y1 y2 y3 x4 x5 w':=by
 unfold VX at h ⊢
 rw [hg.block v ((Array.getElem?_eq_some_iff.1 h).1) (by simpa using hn)];exact h
theorem VX.set3 {v:Nat} {y1 y2 y3:Int} {x4 x5:ByteArray} {w:World} (h:VX v y1 y2 y3 x4 x5 w) (z:ByteArray):VX v y1 y2 y3 z x5 (w.setCell ⟨v,3,none⟩ (.string z)):=by
 unfold VX at h ⊢;simp [World.setCell,Array.getElem?_modify,h]
theorem VX.set4 {v:Nat} {y1 y2 y3:Int} {x4 x5:ByteArray} {w:World} (h:VX v y1 y2 y3 x4 x5 w) (z:ByteArray):VX v y1 y2 y3 x4 z (w.setCell ⟨v,4,none⟩ (.string z)):=by
 unfold VX at h ⊢;simp [World.setCell,Array.getElem?_modify,h]
theorem VX.other {v u:Nat} {y1 y2 y3:Int} {x4 x5:ByteArray} {w:World} (h:VX v y1 y2 y3 x4 x5 w) (hn:v ≠ u) (o:Nat) (x:Value):VX v y1 y2 y3 x4 x5 (w.setCell ⟨u,o,none⟩ x):=by
 unfold VX at h ⊢;rw [<-h];exact heap_setCell_other w _ v x hn
def put5 (w:World) (A:Nat) (y1 y2 y3:Int) (x4 x5:ByteArray):World:=((((w.setCell ⟨A,0,none⟩ (.int .i64 y1)).setCell ⟨A,1,none⟩ (.int .i64 y2)).setCell ⟨A,2,none⟩ (.int .i64 y3)).setCell ⟨A,3,none⟩ (.string x4)).setCell ⟨A,4,none⟩ (.string x5)
theorem put5_row {w:World} {A:Nat} {z1 z2 z3:Int} {z4 z5:ByteArray} (h:VX A z1 z2 z3 z4 z5 w) (y1 y2 y3:Int) (x4 x5:ByteArray):VX A y1 y2 y3 x4 x5 (put5 w A y1 y2 y3 x4 x5):=by
 unfold VX at h ⊢;unfold put5;simp [World.setCell,Array.getElem?_modify,h]
theorem gb_new {b A:Nat} {w W:World} (h:w.grownBy W (some b)) (hA:w.heap.size<=A) (o:Nat) (x:Value):w.grownBy (W.setCell ⟨A,o,none⟩ x) (some b) :=
 ⟨h.os,h.tape,h.output,by simpa [World.setCell] using h.size,fun k hk hn=>by rw [<-h.block k hk hn];exact heap_setCell_other W _ k x (by simp;omega)⟩
theorem res_row_tmp {P:Program} {fn:Func} {p u:Tmp} {ty:TypeId} (h:fn.results=#[.cell p ty,.tmp u]) (tmps:Array Value) (w:World) (g:Nat) (t:TypeId) (cs:Array Value) (fr:Nat × Nat) (d:TypeDesc)
  (hp:tmps.getD p undef=.pointer (some ⟨g,0,none⟩)) (hg:w.heap[g]?=some (.cells cs t fr)) (hu:P.underlying ty=some d) (hd:(match d with | .struct _ | .array _ _=>true | _=>false)=true) (hi:(P.info? ty).map (·.size)=some cs.size) :
  (results fn tmps).run P w=.ok (.tuple #[.agg cs,tmps.getD u undef]) w:=by
 rw [results_cell_tmp h,hp]
 simp [asAddr,run_loadVar_row w g t ty cs fr d hg hu hd hi,Result.andThen]
set_option linter.unusedVariables false
theorem gb_new0 {A:Nat} {w W:World} (h:w.grownBy W none) (hA:w.heap.size<=A) (o:Nat) (x:Value):w.grownBy (W.setCell ⟨A,o,none⟩ x) none :=
 ⟨h.os,h.tape,h.output,by simpa [World.setCell] using h.size,fun k hk hn=>by rw [<-h.block k hk hn];exact heap_setCell_other W _ k x (by simp;omega)⟩
theorem put5_gb0 {A:Nat} {w W:World} (h:w.grownBy W none) (hA:w.heap.size<=A) (y1 y2 y3:Int) (x4 x5:ByteArray):w.grownBy (put5 W A y1 y2 y3 x4 x5) none:=gb_new0 (gb_new0 (gb_new0 (gb_new0 (gb_new0 h hA _ _) hA _ _) hA _ _) hA _ _) hA _ _
end Go.Proofs.YtonfldbigenfhaaGreatDoor
