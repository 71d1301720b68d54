import Derived.Test.YtbgnflcebafjjaaGreatDoorR40
import Derived.Test.YtbgnflcebafjjaaGreatDoorR34
import Derived.Test.YtbgnflcebafjjaaGreatDoorR39
namespace Go.Proofs.YtbgnflcebafjjaaGreatDoor
set_option linter.unusedVariables false
section
variable (l t:List UInt8)
theorem nx_ex (i:Nat) (h:i < l.length):nx (l++10 :: t) i=nx l i:=by
 unfold nx
 rw [List.getElem?_append_left h]
theorem nx_at_ex:nx (l++10 :: t) l.length=10:=by
 unfold nx
 rw [List.getElem?_append_right (Nat.le_refl _),Nat.sub_self]
 rfl
theorem nx_no (i:Nat) (h:¬ nx l i=-1):nx (l++10 :: t) i=nx l i:=by
 refine nx_ex l t i ?_
 apply Classical.byContradiction
 intro hn
 exact h (nx_end l i (by omega))
theorem nx_p (i:Nat) (hi:i<=l.length) (p:Int->Prop) (h1:¬ p (-1)) (h2:¬ p 10):p (nx (l++10 :: t) i) ↔ p (nx l i):=by
 by_cases h:i < l.length
 ·rw [nx_ex l t i h]
 ·have e:i=l.length:=by omega
  rw [e,nx_at_ex,nx_end l l.length (Nat.le_refl _)]
  exact ⟨fun h=>absurd h h2,fun h=>absurd h h1⟩
theorem toR_ex (p:Int->Bool) (hp:p 10=false) (i:Nat) (hi:i<=l.length):toR p (l++10 :: t) i=toR p l i:=by
 unfold toR runN
 rw [List.drop_append_of_le_length hi,List.takeWhile_append]
 have e:List.takeWhile (fun c:UInt8=>p (c.toNat:Int)) (10 :: t)=[]:=by
  rw [List.takeWhile_cons]
  have:p ((10:UInt8).toNat:Int)=false:=hp
  rw [this];rfl
 split
 ·rw [e,List.append_nil]
  rename_i h
  rw [h]
 ·rfl
theorem subT_ex (i k:Nat) (h:i+k<=l.length):subT (l++10 :: t) i k=subT l i k:=by
 unfold subT
 rw [List.drop_append_of_le_length (by omega),List.take_append_of_le_length (by rw [List.length_drop];omega)]
theorem bl_ex (i:Nat) (hi:i<=l.length):bl (l++10 :: t) i=bl l i:=toR_ex l t isBl (by decide) i hi
theorem cmt_ex (i:Nat) (hi:i<=l.length):cmt (l++10 :: t) i=cmt l i:=by
 unfold cmt
 rw [toR_ex l t inC (by decide) i hi]
 have hr:=toR_le inC l i hi
 by_cases h:nx l i=35
 ·rw [if_pos h,if_pos ((nx_p l t i hi (fun x=>x=35) (by decide) (by decide)).2 h)]
  by_cases h2:toR inC l i < l.length
  ·rw [nx_ex l t _ h2]
  ·have e:toR inC l i=l.length:=by omega
   rw [e,nx_at_ex,nx_end l l.length (Nat.le_refl _)]
   rfl
 ·rw [if_neg h,if_neg (fun hh=>h ((nx_p l t i hi (fun x=>x=35) (by decide) (by decide)).1 hh))]
theorem hexV_no (c:Int) (h:¬ hexV c < 0):¬ c=-1:=by
 rintro rfl
 exact h (by decide)
theorem four_ex:∀(k i n m j:Nat),four l k i n=.ok (m,j)->four (l++10 :: t) k i n=.ok (m,j)
 | 0,i,n,m,j,h=>h
 | k+1,i,n,m,j,h=>by
  rw [four_step] at h ⊢
  split at h
  ·cases h
  ·rename_i hx
   rw [nx_no l t i (hexV_no _ hx),if_neg hx]
   exact four_ex k _ _ _ _ h
theorem esc_ex (i j:Nat) (b:List UInt8) (h:esc l i=.ok (b,j)):esc (l++10 :: t) i=.ok (b,j):=by
 have hne:¬ nx l (i+1)=-1:=fun e=>by
  unfold esc at h
  rw [e] at h
  simp at h
 unfold esc at h ⊢
 rw [nx_no l t (i+1) hne]
 split
 ·rename_i hx
  rw [if_pos hx] at h
  cases hf:four l 4 (i+2) 0 with
  | error e=>rw [hf] at h;cases h
  | ok q =>
   obtain ⟨n,j'⟩:=q
   rw [hf] at h
   rw [four_ex l t 4 _ _ _ _ hf]
   exact h
 ·rename_i hx
  rw [if_neg hx] at h
  exact h
theorem goes_ex (j:Nat) (lo hi:Int) (hj:j<=l.length) (hlo:128<=lo):goesB (l++10 :: t) j lo hi=goesB l j lo hi:=by
 unfold goesB
 rw [decide_eq_decide]
 exact nx_p l t j hj (fun x=>lo<=x/\x<=hi) (by omega) (by omega)
theorem goes_lt (l:List UInt8) (j:Nat) (lo hi:Int) (hlo:128<=lo) (h:¬ goesB l j lo hi=false):j < l.length:=by
 have h':goesB l j lo hi=true:=by simpa using h
 have:=of_decide_eq_true h'
 exact nx_lt (l:=l) (i:=j) (by omega)
theorem seqN_ex (i:Nat) (hi:i < l.length):seqN (l++10 :: t) i=seqN l i:=by
 unfold seqN
 simp only [nx_ex l t i hi]
 obtain ⟨c,hc⟩:∃c,nx l i=c:=⟨_,rfl⟩
 rw [hc]
 have hlo:(128:Int)<=(if c=224 then 160 else if c=240 then 144 else 128):=by split;decide;split <;> decide
 obtain ⟨lo,hlo'⟩:∃lo,(if c=224 then 160 else if c=240 then 144 else 128:Int)=lo:=⟨_,rfl⟩
 obtain ⟨up,hup⟩:∃up,(if c=237 then 159 else if c=244 then 143 else 191:Int)=up:=⟨_,rfl⟩
 rw [hlo'] at hlo
 rw [hlo',hup,goes_ex l t (i+1) lo up (by omega) hlo]
 split
 ·rfl
 split
 ·rfl
 split
 ·rfl
 split
 ·rfl
 rename_i h1
 have l1:=goes_lt l (i+1) lo up hlo h1
 split
 ·rfl
 rw [goes_ex l t (i+2) 128 191 (by omega) (by decide)]
 split
 ·rfl
 rename_i h2
 have l2:=goes_lt l (i+2) 128 191 (by decide) h2
 split
 ·rfl
 rw [goes_ex l t (i+3) 128 191 (by omega) (by decide)]
theorem str_ex:∀(f f' i:Nat) (acc:List UInt8) (r:List UInt8 × Nat),f<=f'->i<=l.length->str l f i acc=.ok r->str (l++10 :: t) f' i acc=.ok r:=by
 intro f
 induction f with
 | zero=>intro f' i acc r _ _ h;cases h
 | succ f ih =>
  intro f' i acc r hf hi h
  obtain ⟨f',rfl⟩:∃g,f'=g+1:=⟨f' - 1,by omega⟩
  have hlt:i < l.length:=by
   apply Classical.byContradiction
   intro hn
   rw [str_out l _ i acc (by omega)] at h
   cases h
  rw [str_step] at h ⊢
  rw [nx_ex l t i hlt,seqN_ex l t i hlt]
  split
  ·rename_i hx;rw [if_pos hx] at h;exact h
  rename_i h1
  rw [if_neg h1] at h
  split
  ·rename_i hx
   rw [if_pos hx] at h
   cases he:esc l i with
   | error e=>rw [he] at h;cases h
   | ok q =>
    obtain ⟨b,j⟩:=q
    rw [he] at h
    rw [esc_ex l t i j b he]
    by_cases hj:j<=l.length
    ·exact ih f' j _ r (by omega) hj h
    ·have h:str l f j (acc++b)=.ok r:=h
     rw [str_out l _ j _ (by omega)] at h
     cases h
  rename_i h2
  rw [if_neg h2] at h
  split
  ·rename_i hx;rw [if_pos hx] at h;cases h
  rename_i h3
  rw [if_neg h3] at h
  split
  ·rename_i hx;rw [if_pos hx] at h;cases h
  rename_i h4
  rw [if_neg h4] at h
  have hs:=seqN_ok l i hi
  rw [subT_ex l t i _ hs]
  exact ih f' _ _ r (by omega) hs h
theorem rdKey_ex (i:Nat) (hi:i<=l.length) (r:List UInt8 × Nat) (h:rdKey l i=.ok r):rdKey (l++10 :: t) i=.ok r:=by
 unfold rdKey at h ⊢
 have hr:=toR_le isBa l i hi
 rw [toR_ex l t isBa (by decide) i hi,subT_ex l t i _ (by omega)]
 by_cases hq:nx l i=34
 ·rw [if_pos hq] at h
  have hlt:=nx_lt (l:=l) (i:=i) (by rw [hq];decide)
  rw [if_pos ((nx_ex l t i hlt).trans hq)]
  exact str_ex l t _ _ _ _ _ (by rw [List.length_append];omega) (by omega) h
 ·rw [if_neg hq] at h
  rw [if_neg (fun hh=>hq ((nx_p l t i hi (fun x=>x=34) (by decide) (by decide)).1 hh))]
  exact h
theorem rdInt_ex (i:Nat) (hi:i < l.length) (r:Int × Nat) (h:rdInt l i=.ok r):rdInt (l++10 :: t) i=.ok r:=by
 unfold rdInt at h ⊢
 simp only [nx_ex l t i hi] at h ⊢
 obtain ⟨b,hb⟩:∃b,(if isDg (nx l i)=true then i else i+1)=b:=⟨_,rfl⟩
 rw [hb] at h ⊢
 have hbl:b<=l.length:=by rw [<-hb];split <;> omega
 have hr:=toR_le isDg l b hbl
 rw [toR_ex l t isDg (by decide) b hbl,subT_ex l t b _ (by omega)]
 by_cases h1:toR isDg l b=b\/(1 < toR isDg l b - b/\nx l b=48)
 ·rw [if_pos h1] at h;cases h
 ·rw [if_neg h1] at h
  rw [if_neg (by
   rintro (h' | ⟨h',h''⟩)
   ·exact h1 (Or.inl h')
   ·exact h1 (Or.inr ⟨h',(nx_p l t b hbl (fun x=>x=48) (by decide) (by decide)).1 h''⟩))]
  exact h
theorem rdTru_ex (i:Nat) (hi:i<=l.length) (r:Int × Nat) (h:rdTru l i=.ok r):rdTru (l++10 :: t) i=.ok r:=by
 unfold rdTru at h ⊢
 have hr:=toR_le isSm l i hi
 simp only [toR_ex l t isSm (by decide) i hi,subT_ex l t i (toR isSm l i - i) (by omega)]
 exact h
theorem gap_ex:∀(f f' i j:Nat),f<=f'->i<=l.length->gap l f i=.ok j->j < l.length->gap (l++10 :: t) f' i=.ok j:=by
 intro f
 induction f with
 | zero=>intro f' i j _ _ h;cases h
 | succ f ih =>
  intro f' i j hf hi h hj
  obtain ⟨f',rfl⟩:∃g,f'=g+1:=⟨f' - 1,by omega⟩
  rw [gap_step] at h ⊢
  have h1:=bl_le l i hi
  have h2:=cmt_le l (bl l i) h1.2
  rw [bl_ex l t i hi,cmt_ex l t (bl l i) h1.2]
  split
  ·rename_i hx;rw [if_pos hx] at h;cases h
  rename_i hx
  rw [if_neg hx] at h
  split at h
  ·rename_i hn
   have h3:=nx_lt (l:=l) (i:=(cmt l (bl l i)).2) (by rw [hn];decide)
   rw [if_pos ((nx_ex l t _ h3).trans hn)]
   exact ih f' _ j (by omega) (by omega) h hj
  ·rename_i hn
   cases h
   rw [if_neg (fun hh=>hn ((nx_ex l t _ hj).symm.trans hh))]
theorem val_lt (l:List UInt8) (f i up:Nat) (k:List UInt8) (p d:Nat) (ns:List Tn) (r:Nat × List Tn) (h:val l f i up k p d ns=.ok r):i < l.length:=by
 cases f with
 | zero=>simp [val] at h
 | succ f =>
  apply Classical.byContradiction
  intro hn
  rw [val_step,nx_end l i (by omega),if_neg (by decide),if_neg (by decide),if_neg (by decide),if_neg (by decide)] at h
  cases h
theorem val_ex:∀f f':Nat,f<=f'->(∀i up k p d ns r,val l f i up k p d ns=.ok r->val (l++10 :: t) f' i up k p d ns=.ok r) ∧
  (∀i up d ns r,i<=l.length->lst l f i up d ns=.ok r->lst (l++10 :: t) f' i up d ns=.ok r):=by
 intro f
 induction f with
 | zero=>exact fun f' _=>⟨fun i up k p d ns r h=>by simp [val] at h,fun i up d ns r _ h=>by simp [lst] at h⟩
 | succ f ih =>
  intro f' hf
  obtain ⟨f',rfl⟩:∃g,f'=g+1:=⟨f' - 1,by omega⟩
  have ih':=ih f' (by omega)
  refine ⟨fun i up k p d ns r h=>?_,fun i up d ns r hi h=>?_⟩
  ·have hlt:=val_lt l _ _ _ _ _ _ _ _ h
   rw [val_step] at h ⊢
   rw [nx_ex l t i hlt]
   split
   ·rename_i hx
    rw [if_pos hx] at h
    cases hs:str l (l.length+1) (i+1) [] with
    | error e=>rw [hs] at h;cases h
    | ok q =>
     rw [hs] at h
     rw [str_ex l t _ _ _ _ _ (by rw [List.length_append];omega) (by omega) hs]
     exact h
   rename_i h1
   rw [if_neg h1] at h
   split
   ·rename_i hx
    rw [if_pos hx] at h
    cases hs:rdInt l i with
    | error e=>rw [hs] at h;cases h
    | ok q =>
     rw [hs] at h
     rw [rdInt_ex l t i hlt _ hs]
     exact h
   rename_i h2
   rw [if_neg h2] at h
   split
   ·rename_i hx
    rw [if_pos hx] at h
    cases hs:rdTru l i with
    | error e=>rw [hs] at h;cases h
    | ok q =>
     rw [hs] at h
     rw [rdTru_ex l t i (by omega) _ hs]
     exact h
   rename_i h3
   rw [if_neg h3] at h
   split
   ·rename_i hx
    rw [if_pos hx] at h
    split
    ·rename_i hd;rw [if_pos hd] at h;cases h
    ·rename_i hd
     rw [if_neg hd] at h
     exact ih'.2 _ _ _ _ _ (by omega) h
   ·rename_i hx
    rw [if_neg hx] at h
    cases h
  ·rw [lst_step] at h ⊢
   cases hg:gap l (l.length+1) i with
   | error e=>rw [hg] at h;cases h
   | ok j0 =>
    rw [hg] at h
    simp only [] at h
    have g0:=gap_ok l _ _ _ hi hg
    by_cases hx:nx l j0=93
    ·have hlt:=nx_lt (l:=l) (i:=j0) (by rw [hx];decide)
     rw [if_pos hx] at h
     rw [gap_ex l t _ _ _ _ (by rw [List.length_append];omega) hi hg hlt]
     simp only []
     rw [if_pos ((nx_ex l t _ hlt).trans hx)]
     exact h
    ·rw [if_neg hx] at h
     cases hv:val l f j0 up [] j0 d ns with
     | error e=>rw [hv] at h;cases h
     | ok q =>
      obtain ⟨j1,n1⟩:=q
      rw [hv] at h
      simp only [] at h
      have hlt:=val_lt l _ _ _ _ _ _ _ _ hv
      have v1:=(vl_le l f).1 _ _ _ _ _ _ _ _ g0.2 hv
      rw [gap_ex l t _ _ _ _ (by rw [List.length_append];omega) hi hg hlt]
      simp only []
      rw [if_neg (fun hh=>hx ((nx_ex l t _ hlt).symm.trans hh)),ih'.1 _ _ _ _ _ _ _ hv]
      simp only []
      cases hg2:gap l (l.length+1) j1 with
      | error e=>rw [hg2] at h;cases h
      | ok j2 =>
       rw [hg2] at h
       simp only [] at h
       have hlt2:j2 < l.length:=by
        by_cases h44:nx l j2=44
        ·exact nx_lt (l:=l) (i:=j2) (by rw [h44];decide)
        ·rw [if_neg h44] at h
         by_cases h93:nx l j2=93
         ·exact nx_lt (l:=l) (i:=j2) (by rw [h93];decide)
         ·rw [if_neg h93] at h;cases h
       rw [gap_ex l t _ _ _ _ (by rw [List.length_append];omega) v1.2 hg2 hlt2]
       simp only [nx_ex l t _ hlt2]
       split
       ·rename_i h44
        rw [if_pos h44] at h
        exact ih'.2 _ _ _ _ _ (by omega) h
       ·rename_i h44
        rw [if_neg h44] at h
        exact h
theorem hdK_ex:∀(f f' i:Nat) (acc:List (List UInt8 × Nat)) (r:List (List UInt8 × Nat) × Nat),f<=f'->i<=l.length->hdK l f i acc=.ok r->hdK (l++10 :: t) f' i acc=.ok r:=by
 intro f
 induction f with
 | zero=>intro f' i acc r _ _ h;cases h
 | succ f ih =>
  intro f' i acc r hf hi h
  obtain ⟨f',rfl⟩:∃g,f'=g+1:=⟨f' - 1,by omega⟩
  rw [hdK_step] at h ⊢
  have b1:=bl_le l i hi
  rw [bl_ex l t i hi]
  cases hk:rdKey l (bl l i) with
  | error e=>rw [hk] at h;cases h
  | ok q =>
   obtain ⟨k,j⟩:=q
   rw [hk] at h
   rw [rdKey_ex l t _ b1.2 _ hk]
   simp only [] at h ⊢
   have k1:=rdKey_ok l (bl l i) k j b1.2 hk
   have b2:=bl_le l j k1.2.1
   rw [bl_ex l t j k1.2.1]
   by_cases hx:nx l (bl l j)=46
   ·have hlt:=nx_lt (l:=l) (i:=bl l j) (by rw [hx];decide)
    rw [if_pos hx] at h
    rw [if_pos ((nx_ex l t _ hlt).trans hx)]
    exact ih f' _ _ r (by omega) (by omega) h
   ·rw [if_neg hx] at h
    rw [if_neg (fun hh=>hx ((nx_p l t _ b2.2 (fun x=>x=46) (by decide) (by decide)).1 hh))]
    exact h
theorem must_ex (i j:Nat) (c:Int) (hc:¬ c=-1) (h:must l i c=.ok j):must (l++10 :: t) i c=.ok j:=by
 unfold must at h ⊢
 split at h
 ·rename_i hx
  rw [if_pos ((nx_no l t i (by rw [hx];exact hc)).trans hx)]
  exact h
 ·cases h
theorem head_ex (d d':Sd) (hi:d.i < l.length) (h:rdHead l d=.ok d'):rdHead (l++10 :: t) d=.ok d':=by
 obtain ⟨i,ns,own,now⟩:=d
 simp only [] at hi
 obtain ⟨many,hm⟩:∃b,decide (nx l (i+1)=91)=b:=⟨_,rfl⟩
 have hm':decide (nx (l++10 :: t) (i+1)=91)=many:=by
  rw [<-hm,decide_eq_decide]
  exact nx_p l t (i+1) (by omega) (fun x=>x=91) (by decide) (by decide)
 have hi2:(if many=true then i+2 else i+1)<=l.length:=by
  cases many with
  | true =>
   have:=nx_lt (l:=l) (i:=i+1) (by rw [of_decide_eq_true hm];decide)
   simp only [if_true];omega
  | false=>simp only [Bool.false_eq_true,if_false];omega
 rw [rdHead_eq l i ns own now many hm] at h
 rw [rdHead_eq _ i ns own now many hm']
 cases hk:hdK l (l.length+1) (if many=true then i+2 else i+1) [] with
 | error e=>rw [hk] at h;cases h
 | ok q =>
  obtain ⟨ks,j⟩:=q
  rw [hk] at h
  rw [hdK_ex l t _ _ _ _ _ (by rw [List.length_append];omega) hi2 hk]
  simp only [] at h ⊢
  cases h1:must l j 93 with
  | error e=>rw [h1] at h;cases h
  | ok j1 =>
   rw [h1] at h
   rw [must_ex l t _ _ _ (by decide) h1]
   simp only [] at h ⊢
   cases h2:(if many=true then must l j1 93 else .ok j1:Rs Nat) with
   | error e=>rw [h2] at h;cases h
   | ok j2 =>
    rw [h2] at h
    have h3:(if many=true then must (l++10 :: t) j1 93 else .ok j1:Rs Nat)=.ok j2:=by
     cases many with
     | true=>exact must_ex l t _ _ _ (by decide) h2
     | false=>exact h2
    rw [h3]
    exact h
theorem pair_ex (d d':Sd) (hi:d.i<=l.length) (h:rdPair l d=.ok d'):rdPair (l++10 :: t) d=.ok d':=by
 unfold rdPair at h ⊢
 cases hk:rdKey l d.i with
 | error e=>rw [hk] at h;cases h
 | ok q =>
  obtain ⟨k,j⟩:=q
  rw [hk] at h
  rw [rdKey_ex l t _ hi _ hk]
  simp only [] at h ⊢
  have k1:=rdKey_ok l d.i k j hi hk
  rw [bl_ex l t j k1.2.1]
  cases h1:must l (bl l j) 61 with
  | error e=>rw [h1] at h;cases h
  | ok j1 =>
   rw [h1] at h
   have m1:=must_ok l _ _ _ (by decide) h1
   rw [must_ex l t _ _ _ (by decide) h1]
   simp only [] at h ⊢
   rw [bl_ex l t j1 (by omega)]
   cases h2:kidO d.ns d.now k with
   | some q=>rw [h2] at h;cases h
   | none =>
    rw [h2] at h
    simp only [] at h ⊢
    cases hv:val l (2 * l.length+2) (bl l j1) d.now k d.i 0 d.ns with
    | error e=>rw [hv] at h;cases h
    | ok q =>
     rw [hv] at h
     rw [(val_ex l t (2 * l.length+2) (2 * (l++10 :: t).length+2) (by rw [List.length_append];omega)).1 _ _ _ _ _ _ _ hv]
     exact h
theorem line_ex (d d':Sd) (L:Li l d) (hi:d.i < l.length) (h:rdLine l d=.ok d'):∃j,rdLine (l++10 :: t) d=.ok ⟨j,d'.ns,d'.own,d'.now⟩/\((j=d'.i/\d'.i < l.length)\/(d'.i=l.length/\(j=l.length\/j=l.length+1))):=by
 have b0:=bl_le l d.i (by omega)
 rw [rdLine_lend] at h
 have e0:∀s1:Sd,s1.i<=l.length->(if nx l (bl l d.i)=91 then rdHead l ⟨bl l d.i,d.ns,d.own,d.now⟩ else if nx l (bl l d.i)=34\/isBa (nx l (bl l d.i))=true then rdPair l ⟨bl l d.i,d.ns,d.own,d.now⟩ else .ok ⟨bl l d.i,d.ns,d.own,d.now⟩)=.ok s1->(if nx (l++10 :: t) (bl (l++10 :: t) d.i)=91 then rdHead (l++10 :: t) ⟨bl (l++10 :: t) d.i,d.ns,d.own,d.now⟩ else if nx (l++10 :: t) (bl (l++10 :: t) d.i)=34\/isBa (nx (l++10 :: t) (bl (l++10 :: t) d.i))=true then rdPair (l++10 :: t) ⟨bl (l++10 :: t) d.i,d.ns,d.own,d.now⟩ else .ok ⟨bl (l++10 :: t) d.i,d.ns,d.own,d.now⟩)=.ok s1:=fun s1 _ hs=>by
  rw [bl_ex l t d.i (by omega)]
  by_cases h91:nx l (bl l d.i)=91
  ·have hlt:=nx_lt (l:=l) (i:=bl l d.i) (by rw [h91];decide)
   rw [if_pos h91] at hs
   rw [if_pos ((nx_ex l t _ hlt).trans h91)]
   exact head_ex l t _ _ hlt hs
  ·rw [if_neg h91] at hs
   rw [if_neg (fun hh=>h91 ((nx_p l t _ b0.2 (fun x=>x=91) (by decide) (by decide)).1 hh))]
   have hp:=nx_p l t _ b0.2 (fun x=>x=34\/isBa x=true) (by decide) (by decide)
   by_cases hq:nx l (bl l d.i)=34\/isBa (nx l (bl l d.i))=true
   ·rw [if_pos hq] at hs
    rw [if_pos (hp.2 hq)]
    exact pair_ex l t _ _ b0.2 hs
   ·rw [if_neg hq] at hs
    rw [if_neg (fun hh=>hq (hp.1 hh))]
    exact hs
 rw [rdLine_lend]
 obtain ⟨Q,hQ⟩:∃Q,(if nx l (bl l d.i)=91 then rdHead l ⟨bl l d.i,d.ns,d.own,d.now⟩ else if nx l (bl l d.i)=34\/isBa (nx l (bl l d.i))=true then rdPair l ⟨bl l d.i,d.ns,d.own,d.now⟩ else .ok ⟨bl l d.i,d.ns,d.own,d.now⟩)=Q:=⟨_,rfl⟩
 rw [hQ] at h e0
 cases Q with
 | error e=>cases h
 | ok s1 =>
  have LB:=li_to L (bl l d.i) b0.1 b0.2
  have hs1:s1.i<=l.length:=by
   split at hQ
   ·rename_i h91
    have hlt:=nx_lt (l:=l) (i:=bl l d.i) (by rw [h91];decide)
    exact (head_ok l _ _ LB hlt hQ).1.le
   ·split at hQ
    ·exact (pair_ok l _ _ LB hQ).1.le
    ·cases hQ;exact b0.2
  rw [e0 s1 hs1 rfl]
  have b1:=bl_le l s1.i hs1
  have c1:=cmt_le l (bl l s1.i) b1.2
  rw [<-lend_ok] at h ⊢
  rw [bl_ex l t s1.i hs1,cmt_ex l t _ b1.2]
  split
  ·rename_i hx;rw [if_pos hx] at h;cases h
  rename_i hx
  rw [if_neg hx] at h
  by_cases hend:nx l (cmt l (bl l s1.i)).2=-1
  ·rw [if_pos hend] at h
   cases h
   have he:(cmt l (bl l s1.i)).2=l.length:=by
    apply Classical.byContradiction
    intro hn
    rw [nx_at l _ (by omega)] at hend
    omega
   simp only [he]
   rw [nx_at_ex,if_neg (by decide)]
   unfold must
   rw [nx_at_ex,if_pos rfl]
   exact ⟨l.length+1,rfl,Or.inr ⟨trivial,Or.inr rfl⟩⟩
  ·rw [if_neg hend] at h
   rw [nx_no l t _ hend,if_neg hend]
   cases hm:must l (cmt l (bl l s1.i)).2 10 with
   | error e=>rw [hm] at h;cases h
   | ok j =>
    rw [hm] at h
    have m1:=must_ok l _ _ _ (by decide) hm
    rw [must_ex l t _ _ _ (by decide) hm]
    cases h
    refine ⟨j,rfl,?_⟩
    simp only []
    by_cases hj:j < l.length
    ·exact Or.inl ⟨trivial,hj⟩
    ·exact Or.inr ⟨by omega,Or.inl (by omega)⟩
end
set_option linter.unusedVariables false
theorem all_ex (l t:List UInt8) (d':Sd):∀(f f':Nat) (d:Sd),Li l d->rdAll l f d=.ok d'->l.length < f+d.i->f<=f'->∃g j,rdAll (l++10 :: t) f' d=rdAll (l++10 :: t) g ⟨j,d'.ns,d'.own,d'.now⟩/\(j=l.length\/j=l.length+1)/\f'<=g+f:=by
 intro f
 induction f with
 | zero=>intro f' d L h hf;have:=L.le;omega
 | succ f ih =>
  intro f' d L h hf hff
  have hle:=L.le
  rw [rdAll_step] at h
  by_cases hi:l.length<=d.i
  ·rw [if_pos hi] at h
   injection h with h
   subst h
   exact ⟨f',d.i,rfl,Or.inl (by omega),by omega⟩
  ·rw [if_neg hi] at h
   obtain ⟨f',rfl⟩:∃g,f'=g+1:=⟨f' - 1,by omega⟩
   cases hr:rdLine l d with
   | error e=>rw [hr] at h;cases h
   | ok d1 =>
    rw [hr] at h
    have h:rdAll l f d1=.ok d':=h
    obtain ⟨L1,hlt⟩:=line_ok l d d1 L (by omega) hr
    obtain ⟨j,e1,e2⟩:=line_ex l t d d1 L (by omega) hr
    rw [rdAll_step,if_neg (by rw [List.length_append];omega),e1]
    simp only []
    rcases e2 with ⟨rfl,h2⟩ | ⟨h2,h3⟩
    ·obtain ⟨g,j',e3,e4,e5⟩:=ih f' d1 L1 h (by omega) (by omega)
     exact ⟨g,j',e3,e4,by omega⟩
    ·have hd:d1=d':=by
      cases f with
      | zero=>cases h;rfl
      | succ f =>
       rw [rdAll_step,if_pos (by omega)] at h
       cases h;rfl
     subst hd
     exact ⟨f',j,rfl,h3,by omega⟩
def RmB (c:UInt8):Prop:=¬ c.toNat < 32/\¬ c.toNat=127
theorem inC_rm {c:UInt8} (h:RmB c):inC (c.toNat:Int)=true:=by
 unfold inC isBr isCt
 have h1:=h.1
 have h2:=h.2
 have e1:decide ((c.toNat:Int) ≠ 10)=true:=decide_eq_true (by omega)
 have e2:decide ((0<=(c.toNat:Int)/\(c.toNat:Int) < 32)\/(c.toNat:Int)=127)=false:=decide_eq_false (by omega)
 rw [e1,e2];rfl
theorem run_rm (r:List UInt8) (h:∀c ∈ r,RmB c) (b:List UInt8):List.takeWhile (fun c:UInt8=>inC (c.toNat:Int)) (35 :: r++b)=35 :: r++List.takeWhile (fun c:UInt8=>inC (c.toNat:Int)) b:=by
 refine List.takeWhile_append_of_pos fun c hc=>?_
 rcases List.mem_cons.1 hc with rfl | hc
 ·decide
 ·exact inC_rm (h c hc)
theorem toR_rm (a r b:List UInt8) (h:∀c ∈ r,RmB c) (hb:List.takeWhile (fun c:UInt8=>inC (c.toNat:Int)) b=[]):toR inC (a++(35 :: r++b)) a.length=a.length+(r.length+1):=by
 have:=toR_sh a (35 :: r++b) inC 0
 rw [Nat.add_zero] at this
 rw [this]
 unfold toR runN
 rw [List.drop_zero,run_rm r h b,hb,List.append_nil,List.length_cons]
 omega
theorem nx_in (a b:List UInt8) (k:Nat):nx (a++b) (a.length+k)=nx b k:=nx_sh a b k
theorem line_rm (a r b:List UInt8) (ns:List Tn) (own:List Nat) (now:Nat) (h:∀c ∈ r,RmB c) (c0:Nat) (hc0:toR isBl (a++(35 :: r++b)) c0=a.length) (hb:b=[]\/∃b',b=10 :: b') :
  rdLine (a++(35 :: r++b)) ⟨c0,ns,own,now⟩=.ok ⟨a.length+(r.length+1)+(if b=[] then 0 else 1),ns,own,now⟩:=by
 have hb0:List.takeWhile (fun c:UInt8=>inC (c.toNat:Int)) b=[]:=by
  rcases hb with rfl | ⟨b',rfl⟩
  ·rfl
  ·rw [List.takeWhile_cons];rfl
 have n0:nx (a++(35 :: r++b)) a.length=35:=by
  have:=nx_in a (35 :: r++b) 0
  rw [Nat.add_zero] at this
  rw [this];rfl
 have blz:∀k,k=a.length->bl (a++(35 :: r++b)) k=a.length:=fun k hk=>by
  rw [hk]
  exact toR_stop isBl _ _ (by rw [n0];decide)
 have n1:nx (a++(35 :: r++b)) (a.length+(r.length+1))=(if b=[] then -1 else 10):=by
  rw [nx_in]
  have e:(35 :: r++b:List UInt8)=(35 :: r)++b:=rfl
  have:=nx_in (35 :: r) b 0
  rw [Nat.add_zero] at this
  rw [e,show r.length+1=(35 :: r:List UInt8).length from rfl,this]
  rcases hb with rfl | ⟨b',rfl⟩
  ·rfl
  ·rfl
 have hc:cmt (a++(35 :: r++b)) a.length=(true,a.length+(r.length+1)):=by
  unfold cmt
  rw [if_pos n0,toR_rm a r b h hb0,n1]
  rcases hb with rfl | ⟨b',rfl⟩
  ·simp
  ·simp
 unfold rdLine
 have e0:bl (a++(35 :: r++b)) c0=a.length:=hc0
 simp only [e0,n0]
 rw [if_neg (by decide),if_neg (by decide)]
 simp only [blz a.length rfl,hc,n1]
 rcases hb with rfl | ⟨b',rfl⟩
 ·simp
 ·simp only [List.cons_ne_nil,if_false]
  rw [if_neg (by simp),if_neg (by decide)]
  unfold must
  rw [n1]
  simp
theorem line_bl (l:List UInt8) (i j:Nat) (ns:List Tn) (own:List Nat) (now:Nat) (hb:bl l i=j) (hn:nx l j=10):rdLine l ⟨i,ns,own,now⟩=.ok ⟨j+1,ns,own,now⟩:=by
 have hbb:bl l j=j:=toR_stop isBl l j (by rw [hn];decide)
 have hc:cmt l j=(true,j):=cmt_no l j (by rw [hn];decide)
 unfold rdLine
 simp only [hb,hn]
 rw [if_neg (by decide),if_neg (by decide)]
 simp only [hbb,hc,hn]
 rw [if_neg (by simp),if_neg (by decide)]
 unfold must
 rw [hn]
 simp
def TR (x y:Rs (List Tn)):Prop:=(∃c d,x=.error c/\y=.error d/\c.1=d.1)\/(∃a b,x=.ok a/\y=.ok b/\Sm a b)
theorem rem_ahead (s r:List UInt8) (h:∀c ∈ r,RmB c) (hl:s.length+r.length+8<=100000):TR (rdToml (35 :: r++[10,32,10]++s)) (rdToml s):=by
 have e:(35 :: r++[10,32,10]++s:List UInt8)=[]++(35 :: r++(10 :: ([32,10]++s))):=by simp
 have len:(35 :: r++[10,32,10]:List UInt8).length=r.length+4:=by simp
 rw [rdToml_eq,rdToml_eq,if_neg (by simp;omega),if_neg (by omega)]
 obtain ⟨X,hX⟩:∃X,(35 :: r++[10,32,10]++s:List UInt8)=X:=⟨_,rfl⟩
 have hXl:X.length=r.length+4+s.length:=by rw [<-hX,List.length_append,len]
 have s1:rdLine X ⟨0,[⟨0,[],[],0,[],0⟩],[],0⟩=.ok ⟨r.length+2,[⟨0,[],[],0,[],0⟩],[],0⟩:=by
  rw [<-hX,e,line_rm [] r _ _ _ _ h 0 (toR_stop isBl _ _ (show isBl 35=false by decide)) (Or.inr ⟨_,rfl⟩)]
  simp
 have n2:nx X (r.length+2)=32:=by
  have:=nx_in (35 :: r++[10]) (32 :: 10 :: s) 0
  rw [Nat.add_zero] at this
  have e2:(35 :: r++[10])++(32 :: 10 :: s)=X:=by rw [<-hX];simp
  rw [e2] at this
  rw [show r.length+2=(35 :: r++[10]:List UInt8).length by simp,this];rfl
 have n3:nx X (r.length+3)=10:=by
  have:=nx_in (35 :: r++[10]) (32 :: 10 :: s) 1
  have e2:(35 :: r++[10])++(32 :: 10 :: s)=X:=by rw [<-hX];simp
  rw [e2] at this
  rw [show r.length+3=(35 :: r++[10]:List UInt8).length+1 by simp,this];rfl
 have s2:rdLine X ⟨r.length+2,[⟨0,[],[],0,[],0⟩],[],0⟩=.ok ⟨r.length+4,[⟨0,[],[],0,[],0⟩],[],0⟩:=by
  refine line_bl X (r.length+2) (r.length+3) _ _ _ ?_ n3
  unfold bl
  rw [toR_step isBl X _ (by omega) (by rw [n2];decide)]
  exact toR_stop isBl X _ (by rw [n3];decide)
 have hgo:rdAll X (X.length+1) ⟨0,[⟨0,[],[],0,[],0⟩],[],0⟩=rdAll X (X.length - 1) ⟨r.length+4,[⟨0,[],[],0,[],0⟩],[],0⟩:=by
  obtain ⟨n,hn⟩:∃n,X.length=n+1:=⟨X.length - 1,by omega⟩
  have q1:¬ X.length<=0:=by omega
  have q2:¬ X.length<=r.length+2:=by omega
  rw [rdAll_step]
  simp only []
  rw [if_neg q1,s1]
  simp only []
  rw [hn,rdAll_step]
  simp only []
  rw [<-hn,if_neg q2,s2,hn]
  rfl
 rw [hX,hgo]
 have sr:SR (35 :: r++[10,32,10]:List UInt8).length ⟨r.length+4,[⟨0,[],[],0,[],0⟩],[],0⟩ ⟨0,[⟨0,[],[],0,[],0⟩],[],0⟩:=⟨by rw [len];rfl,rfl,rfl,rfl⟩
 have:=all_sh (35 :: r++[10,32,10]) s (s.length+1) (X.length - 1) _ _ sr (li_start s) (by simp only [];omega) (by simp only [];omega)
 rw [hX] at this
 rcases this with ⟨c,d,e1,e2,e3⟩ | ⟨x,y,e1,e2,e3⟩
 ·rw [e1,e2];exact Or.inl ⟨c,d,rfl,rfl,e3⟩
 ·rw [e1,e2];exact Or.inr ⟨_,_,rfl,rfl,e3.ns⟩
theorem rem_behind (s r:List UInt8) (ns:List Tn) (h:∀c ∈ r,RmB c) (hl:s.length+r.length+8<=100000) (hs:rdToml s=.ok ns):rdToml (s++[10,9,35]++r)=.ok ns:=by
 rw [rdToml_eq,if_neg (by omega)] at hs
 cases ha:rdAll s (s.length+1) ⟨0,[⟨0,[],[],0,[],0⟩],[],0⟩ with
 | error e=>rw [ha] at hs;cases hs
 | ok d =>
  rw [ha] at hs
  have hs:(Except.ok d.ns:Rs (List Tn))=.ok ns:=hs
  injection hs with hs
  have eX:(s++[10,9,35]++r:List UInt8)=s++10 :: (9 :: 35 :: r):=by simp
  rw [eX,rdToml_eq,if_neg (by simp;omega)]
  have hXl:(s++10 :: (9 :: 35 :: r):List UInt8).length=s.length+r.length+3:=by simp;omega
  obtain ⟨g,j,e1,e2,e3⟩:=all_ex s (9 :: 35 :: r) d (s.length+1) ((s++10 :: (9 :: 35 :: r):List UInt8).length+1) _ (li_start s) ha (by simp only [];omega) (by omega)
  rw [e1]
  have fin:∀g',rdAll (s++10 :: (9 :: 35 :: r)) (g'+1) ⟨s.length+1,d.ns,d.own,d.now⟩=.ok ⟨s.length+r.length+3,d.ns,d.own,d.now⟩:=fun g'=>by
   have eY:(s++10 :: (9 :: 35 :: r):List UInt8)=(s++[10,9])++(35 :: r++[]):=by simp
   have n1:nx (s++10 :: (9 :: 35 :: r)) (s.length+1)=9:=by
    have:=nx_in s (10 :: 9 :: 35 :: r) 1
    rw [this];rfl
   have n2:nx (s++10 :: (9 :: 35 :: r)) (s.length+2)=35:=by
    have:=nx_in s (10 :: 9 :: 35 :: r) 2
    rw [this];rfl
   have hb:toR isBl (s++10 :: (9 :: 35 :: r)) (s.length+1)=(s++[10,9]:List UInt8).length:=by
    rw [toR_step isBl _ _ (by omega) (by rw [n1];decide),toR_stop isBl _ _ (by rw [n2];decide)]
    simp
   rw [rdAll_step]
   simp only []
   rw [if_neg (by omega)]
   have:=line_rm (s++[10,9]) r [] d.ns d.own d.now h (s.length+1) (by rw [<-eY];exact hb) (Or.inl rfl)
   rw [<-eY] at this
   rw [this]
   simp only [if_true,Nat.add_zero]
   have hlen:(s++[10,9]:List UInt8).length+(r.length+1)=s.length+r.length+3:=by simp;omega
   rw [hlen]
   cases g' with
   | zero=>rfl
   | succ g' =>
    rw [rdAll_step]
    simp only []
    rw [if_pos (by omega)]
  rcases e2 with rfl | rfl
  ·obtain ⟨g,rfl⟩:∃g',g=g'+2:=⟨g - 2,by omega⟩
   have n0:nx (s++10 :: (9 :: 35 :: r)) s.length=10:=nx_at_ex s (9 :: 35 :: r)
   rw [rdAll_step]
   simp only []
   rw [if_neg (by omega),line_bl _ s.length s.length _ _ _ (toR_stop isBl _ _ (by rw [n0];decide)) n0]
   simp only []
   rw [fin g]
   rw [<-hs];rfl
  ·obtain ⟨g,rfl⟩:∃g',g=g'+1:=⟨g - 1,by omega⟩
   rw [fin g]
   rw [<-hs];rfl
end Go.Proofs.YtbgnflcebafjjaaGreatDoor
namespace Go.Proofs.YtbgnflcebafjjaaGreatDoor
open Go.RowKit Go.Joins
set_option linter.unusedVariables false
theorem kyAt_np (ns:List Tn) (t:Nat):kyAt (ns.map np) t=kyAt ns t:=by
 unfold kyAt
 rw [List.getElem?_map]
 cases ns[t]? <;> rfl
theorem ksAt_np' (ns:List Tn) (t:Nat):ksAt (ns.map np) t=ksAt ns t:=by
 unfold ksAt
 rw [List.getElem?_map]
 cases ns[t]? <;> rfl
theorem srt_np (ns:List Tn) (t:Nat):srt (ns.map np) t=srt ns t:=by
 unfold srt
 rw [ksAt_np']
 simp only [kyAt_np]
theorem vT_np (ns:List Tn):∀f t,vT (ns.map np) f t=vT ns f t
 | 0,t=>rfl
 | f+1,t=>by
  rw [vT,vT,List.getElem?_map]
  cases ns[t]? with
  | none=>rfl
  | some x =>
   have e:vT (ns.map np) f=vT ns f:=funext fun q=>vT_np ns f q
   simp only [Option.map_some,np,e]
theorem pr1_np (ns:List Tn):pr1 (ns.map np)=pr1 ns:=funext fun q=>by
 unfold pr1
 rw [kdAt_np,kyAt_np,List.length_map,vT_np]
theorem prT_np (ns:List Tn) (t:Nat):prT (ns.map np) t=prT ns t:=by
 unfold prT
 rw [srt_np,pr1_np]
theorem vs1_np (ns:List Tn) (pl:Nat):vs1 (ns.map np) pl=vs1 ns pl:=funext fun q=>by
 unfold vs1
 simp only [kdAt_np,kyAt_np,ksAt_np']
theorem belT_np (ns:List Tn) (t pl:Nat):belT (ns.map np) t pl=belT ns t pl:=by
 unfold belT
 rw [srt_np,vs1_np]
theorem fmO_np (ns:List Tn):∀(f:Nat) (out path:List UInt8) (td:List Vt),fmO (ns.map np) f out path td=fmO ns f out path td
 | 0,_,_,_=>rfl
 | f+1,out,path,td=>by
  rcases snoc_cases td with rfl | ⟨r,x,rfl⟩
  ·rw [fmO_nil,fmO_nil]
  ·rw [fmO_snoc,fmO_snoc,prT_np,belT_np,fmO_np ns f]
theorem fmT_np (ns:List Tn):fmT (ns.map np)=fmT ns:=by
 unfold fmT
 rw [prT_np,belT_np,fmO_np,List.length_map]
theorem fmT_sm {a b:List Tn} (h:Sm a b):fmT a=fmT b:=by
 rw [<-fmT_np a,<-fmT_np b]
 exact congrArg fmT h
end Go.Proofs.YtbgnflcebafjjaaGreatDoor
namespace Go.Proofs.YtbgnflcebafjjaaGreatDoor
open Go.RowKit Go.Maps Go.WideMaps Go.Joins Go.Shelf
set_option linter.unusedVariables false
def ft:Rs (List Tn)->List UInt8
 | .ok ns=>fmT ns
 | .error _=>[]
def fe:Rs (List Tn)->Int
 | .ok _=>0
 | .error (c,_)=>c
def fp:Rs (List Tn)->Nat
 | .ok _=>0
 | .error (_,p)=>p
theorem pn_val {X:Rs (List Tn)} {w w':World} {e:Ending} (h:PnPost X w e w'):e=.returned (.tuple #[.string ⟨(ft X).toArray⟩,.int .i64 (fe X),.int .i64 (fp X:Nat)])/\w.grownBy w' none:=by
 obtain ⟨h1,h2,h3⟩:=h
 match X,h1,h2 with
 | .ok ns,h1,_=>exact ⟨h1 ns rfl,h3⟩
 | .error (c,p),_,h2=>exact ⟨h2 c p rfl,h3⟩
theorem fe_ok (l:List UInt8):(fe (rdToml l)=0/\∃ns,rdToml l=.ok ns)\/(¬ fe (rdToml l)=0/\ft (rdToml l)=[]/\∃e,rdToml l=.error e):=by
 cases h:rdToml l with
 | ok ns=>exact Or.inl ⟨rfl,ns,rfl⟩
 | error e =>
  obtain ⟨c,p⟩:=e
  right
  refine ⟨?_,rfl,_,rfl⟩
  rcases er_toml l c p h with ⟨h1,-⟩ | ⟨h1,-⟩
  ·show ¬ c=0;omega
  ·show ¬ c=0;omega
theorem ahead_eq (s r:List UInt8) (h:∀c ∈ r,RmB c) (hl:s.length+r.length+8<=100000):fe (rdToml (35 :: r++[10,32,10]++s))=fe (rdToml s)/\ft (rdToml (35 :: r++[10,32,10]++s))=ft (rdToml s):=by
 rcases rem_ahead s r h hl with ⟨c,d,h1,h2,h3⟩ | ⟨a,b,h1,h2,h3⟩
 ·rw [h1,h2]
  exact ⟨h3,rfl⟩
 ·rw [h1,h2]
  exact ⟨rfl,fmT_sm h3⟩
theorem behind_eq (s r:List UInt8) (h:∀c ∈ r,RmB c) (hl:s.length+r.length+8<=100000) (h0:fe (rdToml s)=0):fe (rdToml (s++[10,9,35]++r))=0/\ft (rdToml (s++[10,9,35]++r))=ft (rdToml s):=by
 rcases fe_ok s with ⟨-,ns,hs⟩ | ⟨h1,-⟩
 ·rw [rem_behind s r ns h hl hs,hs]
  exact ⟨rfl,rfl⟩
 ·exact absurd h0 h1
set_option maxRecDepth 100000 in
set_option maxHeartbeats 6400000 in
theorem tomlRemarksLaw (s r:ByteArray) (E:Int->TypeId × Value) (b:Int->Addr) (w:World) (G:Gl w w.heap.size E) (S:Sn w E b) (TB:Tab w) (h0:0 < w.heap.size) (hs:s.size<=140737488351232) (hr:r.size<=140737488351232) :
  Calls Tryz.prog 6 #[.string s,.string r] w fun e w'=>e=.returned (.bool true)/\w.grownBy w' none:=by
 have CP:Hid (∀(x:ByteArray) w',x.size < 2 ^ 62->w.grownBy w' none->Calls Tryz.prog 11 #[.string x] w' fun e w''=>e=.returned (.tuple #[.string ⟨(ft (rdToml x.data.toList)).toArray⟩,.int .i64 (fe (rdToml x.data.toList)),.int .i64 (fp (rdToml x.data.toList):Nat)])/\w'.grownBy w'' none):=fun x w' hx hg=>(tPrint_any x E b w' ((G.bel (gb_below hg)).up hg.size) (S.grow hg) (tab_grow TB hg) hx).mono fun e w'' h=>pn_val h
 have CR:Hid (∀w',w.grownBy w' none->Calls Tryz.prog 8 #[.string s] w' fun e w''=>∃v q,e=.returned (.tuple #[v,.int .i64 (fe (rdToml s.data.toList)),q])/\w'.grownBy w'' none):=fun w' hg=>(dRead_any dHeader_any s w' (Nat.lt_of_lt_of_le h0 hg.size) (by omega)).mono fun e w'' h=>by
  obtain ⟨h1,h2,h3⟩:=h
  cases hX:rdToml s.data.toList with
  | ok ns =>
   obtain ⟨N2,c2,OV,xs2,ks2,own2,m2,rfl,hD2⟩:=h1 ns hX
   exact ⟨_,_,rfl,h3⟩
  | error e =>
   obtain ⟨c,p⟩:=e
   obtain rfl:=h2 c p hX
   exact ⟨_,_,rfl,h3⟩
 have CU:Hid (∀(w:World) (n:Int),Calls Tryz.prog 10 #[.int .i64 n] w fun e w'=>e=.returned (.int .i64 n)/\w'=w):=lNum_any
 have HL:Hid (r.data.toList.length=r.size):=by show _=_;simp
 have HLs:Hid (s.data.toList.length=s.size):=by show _=_;simp
 clear G S TB
 go_enter Tryz.func6,Tryz.ntmps6
 go_wp2
 go_loopw [5] (fun v5 wr=>∃i:Nat,v5=.int .i64 (i:Nat)/\i<=r.size/\wr=w/\∀c ∈ r.data.toList.take i,RmB c) (fun v5 _=>r.size - (intOf v5).toNat)
 case atStart=>exact ⟨0,rfl,Nat.zero_le _,rfl,fun c hc=>absurd hc (by simp)⟩
 case round =>
  obtain ⟨i,rfl,hi,rfl,hall⟩:=hrel
  have HAL:Hid (∀c ∈ r.data.toList.take i,RmB c):=hall
  clear hall
  by_cases hlt:i < r.size
  ·have hI:(i:Int) < (r.size:Int):=by omega
   obtain ⟨c,hc⟩:∃c,r[i]=c:=⟨_,rfl⟩
   have hil:i < r.data.toList.length:=by rw [HL.out];exact hlt
   have HCM:Hid (r.data.toList[i]=c):=by show _=c;rw [<-hc];rfl
   by_cases h1:c.toNat < 32
   ·have h1I:(c.toNat:Int) < 32:=by omega
    go_wp2
    go_ret
    exact ⟨rfl,gb_refl _ _⟩
   ·have h1I:¬ (c.toNat:Int) < 32:=by omega
    by_cases h2:c.toNat=127
    ·have h2I:((c.toNat:Int) == 127)=true:=by simp [h2]
     go_wp2
     go_ret
     exact ⟨rfl,gb_refl _ _⟩
    ·have h2I:((c.toNat:Int) == 127)=false:=by simp;omega
     have HAN:Hid (∀c ∈ r.data.toList.take (i+1),RmB c):=by
      intro x hx
      rw [List.take_succ_eq_append_getElem hil] at hx
      rcases List.mem_append.1 hx with hx | hx
      ·exact HAL.out x hx
      ·rw [List.mem_singleton.1 hx,HCM.out];exact ⟨h1,h2⟩
     go_wp2
     go_roundw
     case rel=>exact ⟨i+1,by go_num,by omega,trivial,HAN.out⟩
     case measure=>simp [intOf];omega
  ·have hI:¬ (i:Int) < (r.size:Int):=by omega
   have HALL:Hid (∀c ∈ r.data.toList,RmB c):=by
    intro x hx
    refine HAL.out x ?_
    rw [List.take_of_length_le (by rw [HL.out];omega)]
    exact hx
   obtain ⟨T,hT⟩:∃T:ByteArray,⟨(ft (rdToml s.data.toList)).toArray⟩=T:=⟨_,rfl⟩
   obtain ⟨n,hn⟩:∃n,fe (rdToml s.data.toList)=n:=⟨_,rfl⟩
   obtain ⟨pl,hpl⟩:∃n,fp (rdToml s.data.toList)=n:=⟨_,rfl⟩
   have CX:Hid (Calls Tryz.prog 11 #[.string s] wr fun e w''=>e=.returned (.tuple #[.string T,.int .i64 n,.int .i64 (pl:Nat)])/\wr.grownBy w'' none):=by
    have:=CP.out s wr (by omega) (gb_refl _ _)
    rw [hT,hn,hpl] at this
    exact this
   rw [hn] at CR
   have eY:(⟨#[35]⟩++r++⟨#[10,32,10]⟩++s:ByteArray).data.toList=35 :: r.data.toList++[10,32,10]++s.data.toList:=by simp [ByteArray.data_append]
   have eZ:(s++⟨#[10,9,35]⟩++r:ByteArray).data.toList=s.data.toList++[10,9,35]++r.data.toList:=by simp [ByteArray.data_append]
   have zY:(⟨#[35]⟩++r++⟨#[10,32,10]⟩++s:ByteArray).size < 2 ^ 62:=by
    have:(⟨#[35]⟩++r++⟨#[10,32,10]⟩++s:ByteArray).data.toList.length=r.size+4+s.size:=by rw [eY];simp only [List.length_append,List.length_cons,List.length_nil,HL.out,HLs.out];try omega
    have h2:(⟨#[35]⟩++r++⟨#[10,32,10]⟩++s:ByteArray).data.toList.length=(⟨#[35]⟩++r++⟨#[10,32,10]⟩++s:ByteArray).size:=by rw [Array.length_toList];rfl
    omega
   have zZ:(s++⟨#[10,9,35]⟩++r:ByteArray).size < 2 ^ 62:=by
    have:(s++⟨#[10,9,35]⟩++r:ByteArray).data.toList.length=r.size+3+s.size:=by rw [eZ];simp only [List.length_append,List.length_cons,List.length_nil,HL.out,HLs.out];try omega
    have h2:(s++⟨#[10,9,35]⟩++r:ByteArray).data.toList.length=(s++⟨#[10,9,35]⟩++r:ByteArray).size:=by rw [Array.length_toList];rfl
    omega
   obtain ⟨TY,hTY⟩:∃T:ByteArray,⟨(ft (rdToml (35 :: r.data.toList++[10,32,10]++s.data.toList))).toArray⟩=T:=⟨_,rfl⟩
   obtain ⟨nY,hnY⟩:∃n,fe (rdToml (35 :: r.data.toList++[10,32,10]++s.data.toList))=n:=⟨_,rfl⟩
   obtain ⟨TZ,hTZ⟩:∃T:ByteArray,⟨(ft (rdToml (s.data.toList++[10,9,35]++r.data.toList))).toArray⟩=T:=⟨_,rfl⟩
   obtain ⟨nZ,hnZ⟩:∃n,fe (rdToml (s.data.toList++[10,9,35]++r.data.toList))=n:=⟨_,rfl⟩
   have CY:Hid (∀w',wr.grownBy w' none->Calls Tryz.prog 11 #[.string (⟨#[35]⟩++r++⟨#[10,32,10]⟩++s)] w' fun e w''=>∃q,e=.returned (.tuple #[.string TY,.int .i64 nY,q])/\w'.grownBy w'' none):=fun w' hg=>(CP.out _ w' zY hg).mono fun e w'' h=>by
    rw [eY,hTY,hnY] at h
    exact ⟨_,h.1,h.2⟩
   have CZ:Hid (∀w',wr.grownBy w' none->Calls Tryz.prog 11 #[.string (s++⟨#[10,9,35]⟩++r)] w' fun e w''=>∃q,e=.returned (.tuple #[.string TZ,.int .i64 nZ,q])/\w'.grownBy w'' none):=fun w' hg=>(CP.out _ w' zZ hg).mono fun e w'' h=>by
    rw [eZ,hTZ,hnZ] at h
    exact ⟨_,h.1,h.2⟩
   have HYE:Hid (¬ 100000 < s.size+r.size+8->TY=T/\nY=n):=fun hb=>by
    have h:=ahead_eq s.data.toList r.data.toList HALL.out (by rw [HL.out,HLs.out];omega)
    rw [<-hTY,<-hT,<-hnY,<-hn,h.1,h.2]
    exact ⟨rfl,rfl⟩
   have HZE:Hid (¬ 100000 < s.size+r.size+8->n=0->TZ=T/\nZ=0):=fun hb h0=>by
    have h:=behind_eq s.data.toList r.data.toList HALL.out (by rw [HL.out,HLs.out];omega) (hn.trans h0)
    rw [<-hTZ,<-hT,<-hnZ,h.1,h.2]
    exact ⟨rfl,rfl⟩
   have HNE:Hid (¬ n=0->T=⟨#[]⟩):=fun h0=>by
    rcases fe_ok s.data.toList with ⟨h,-⟩ | ⟨-,h,-⟩
    ·exact absurd (hn.symm.trans h) h0
    ·rw [<-hT,h]
   clear eY eZ zY zZ hTY hnY hTZ hnZ hT hn hpl CP HALL
   go_wp2_with (first | (go_at_call 11;refine CX.out.mono ?_))
   first | rintro e w1 rfl hg1 | rintro e w1 ⟨rfl,hg1⟩
   have HG1:Hid (wr.grownBy w1 none):=hg1
   clear hg1 CX
   go_wp2_with (first | (go_at_call 11;refine (CY.out _ HG1.out).mono ?_))
   rintro e w2 ⟨q2,rfl,hg2⟩
   have HG2:Hid (wr.grownBy w2 none):=gb_trans HG1.out hg2
   clear hg2
   go_wp2_with (first | (go_at_call 11;refine (CZ.out _ HG2.out).mono ?_))
   rintro e w3 ⟨q3,rfl,hg3⟩
   have HG3:Hid (wr.grownBy w3 none):=gb_trans HG2.out hg3
   clear hg3
   go_wp2_with (first | (go_at_call 8;refine (CR.out _ HG3.out).mono ?_))
   rintro e w4 ⟨v4,q4,rfl,hg4⟩
   have HG4:Hid (wr.grownBy w4 none):=gb_trans HG3.out hg4
   clear hg4
   have hnn:(n != n)=false:=by simp
   have hnn2:(n == n)=true:=by simp
   by_cases hbig:100000 < s.size+r.size+8
   ·have hbI:(100000:Int) < (s.size:Int)+(r.size:Int)+8:=by omega
    go_wp2_with (first | (go_at_call 10;refine (CU.out _ _).mono ?_;rintro e w' ⟨rfl,rfl⟩))
    go_ret
    exact ⟨rfl,HG4.out⟩
   ·have hbI:¬ (100000:Int) < (s.size:Int)+(r.size:Int)+8:=by omega
    obtain ⟨rfl,rfl⟩:=HYE.out hbig
    have hZ:=HZE.out hbig
    have HD:Hid (decide ((100000:Int) < (s.size:Int)+(r.size:Int)+8)=false):=decide_eq_false hbI
    clear hbig HYE HZE
    by_cases hn0:nY=0
    ·obtain ⟨rfl,rfl⟩:=hZ hn0
     clear hZ
     subst hn0
     go_upto_if 77 with (first | (go_at_call 10;refine (CU.out _ _).mono ?_;rintro e w' ⟨rfl,rfl⟩))
     rw [HD.out]
     clear hbI hs hr hi hI hlt
     go_wp2_with (first | (go_at_call 10;refine (CU.out _ _).mono ?_;rintro e w' ⟨rfl,rfl⟩))
     go_ret
     exact ⟨rfl,HG4.out⟩
    ·clear hZ
     obtain rfl:=HNE.out hn0
     have hq:(nY != 0)=true:=by simpa using hn0
     have hq2:(nY == 0)=false:=by simpa using hn0
     go_upto_if 77 with (first | (go_at_call 10;refine (CU.out _ _).mono ?_;rintro e w' ⟨rfl,rfl⟩))
     rw [HD.out]
     clear hbI hs hr hi hI hlt
     go_wp2_with (first | (go_at_call 10;refine (CU.out _ _).mono ?_;rintro e w' ⟨rfl,rfl⟩))
     go_ret
     exact ⟨rfl,HG4.out⟩
end Go.Proofs.YtbgnflcebafjjaaGreatDoor
