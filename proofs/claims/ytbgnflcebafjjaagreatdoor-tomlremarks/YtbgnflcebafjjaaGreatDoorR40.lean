import Derived.Test.YtbgnflcebafjjaaGreatDoorR19
import Derived.Test.YtbgnflcebafjjaaGreatDoorR20
namespace Go.Proofs.YtbgnflcebafjjaaGreatDoor
set_option linter.unusedVariables false
section
variable (a l:List UInt8)
theorem nx_sh (i:Nat):nx (a++l) (a.length+i)=nx l i:=by
 unfold nx
 rw [List.getElem?_append_right (by omega),Nat.add_sub_cancel_left]
theorem drop_sh (i:Nat):(a++l).drop (a.length+i)=l.drop i:=by
 rw [<-List.drop_drop,List.drop_left]
theorem toR_sh (p:Int->Bool) (i:Nat):toR p (a++l) (a.length+i)=a.length+toR p l i:=by
 unfold toR runN
 rw [drop_sh]
 omega
theorem subT_sh (i k:Nat):subT (a++l) (a.length+i) k=subT l i k:=by
 unfold subT
 rw [drop_sh]
theorem bl_sh (i:Nat):bl (a++l) (a.length+i)=a.length+bl l i:=toR_sh a l isBl i
theorem cmt_sh (i:Nat):cmt (a++l) (a.length+i)=((cmt l i).1,a.length+(cmt l i).2):=by
 unfold cmt
 rw [nx_sh,toR_sh,nx_sh]
 split
 ·split <;> rfl
 ·rfl
end
def shP {α:Type} (n:Nat):Rs (α × Nat)->Rs (α × Nat)
 | .error e=>.error (e.1,n+e.2)
 | .ok (x,j)=>.ok (x,n+j)
def shN (n:Nat):Rs Nat->Rs Nat
 | .error e=>.error (e.1,n+e.2)
 | .ok j=>.ok (n+j)
section
variable (a l:List UInt8)
theorem four_sh:∀(k i m:Nat),four (a++l) k (a.length+i) m=shP a.length (four l k i m)
 | 0,i,m=>rfl
 | k+1,i,m=>by
  rw [four_step,four_step,nx_sh]
  split
  ·rfl
  ·rw [Nat.add_assoc];exact four_sh k (i+1) _
theorem four_j (l:List UInt8):∀(k i n m j:Nat),four l k i n=.ok (m,j)->j=i+k
 | 0,i,n,m,j,h=>by cases h;rfl
 | k+1,i,n,m,j,h=>by
  rw [four_step] at h
  split at h
  ·cases h
  ·have:=four_j l k _ _ _ _ h
   omega
theorem esc_sh (i:Nat):esc (a++l) (a.length+i)=shP a.length (esc l i):=by
 unfold esc
 rw [Nat.add_assoc,Nat.add_assoc,nx_sh,four_sh]
 split
 ·cases four l 4 (i+2) 0 with
  | error e=>rfl
  | ok q =>
   obtain ⟨n,j⟩:=q
   simp only [shP]
   split <;> rfl
 ·repeat' split
  all_goals rfl
theorem esc_lt (l:List UInt8) (i j:Nat) (b:List UInt8) (h:esc l i=.ok (b,j)):i < j:=by
 unfold esc at h
 split at h
 ·cases hf:four l 4 (i+2) 0 with
  | error e=>rw [hf] at h;cases h
  | ok q =>
   obtain ⟨n,j'⟩:=q
   have:=four_j l 4 _ _ _ _ hf
   rw [hf] at h
   simp only [] at h
   split at h
   ·cases h
   ·cases h;omega
 ·repeat' split at h
  all_goals first | (cases h;omega) | cases h
theorem seqN_sh (i:Nat):seqN (a++l) (a.length+i)=seqN l i:=by
 unfold seqN goesB
 simp only [Nat.add_assoc,nx_sh]
theorem str_out (l:List UInt8) (f i:Nat) (acc:List UInt8) (h:l.length<=i):str l f i acc=.error (2,i):=by
 cases f with
 | zero=>rfl
 | succ f =>
  rw [str_step,nx_end l i h,if_neg (by decide),if_neg (by decide),if_pos (Or.inl rfl)]
theorem str_sh:∀(f f' i:Nat) (acc:List UInt8),l.length < f+i->l.length < f'+i->str (a++l) f' (a.length+i) acc=shP a.length (str l f i acc):=by
 intro f
 induction f with
 | zero =>
  intro f' i acc h h'
  rw [str_out l 0 i acc (by omega),str_out (a++l) f' _ acc (by rw [List.length_append];omega)]
  rfl
 | succ f ih =>
  intro f' i acc h h'
  by_cases hi:i < l.length
  ·obtain ⟨f',rfl⟩:∃g,f'=g+1:=⟨f' - 1,by omega⟩
   rw [str_step,str_step,nx_sh,esc_sh,seqN_sh,subT_sh]
   split
   ·rfl
   ·split
    ·cases he:esc l i with
     | error e=>rfl
     | ok q =>
      obtain ⟨b,j⟩:=q
      have:=esc_lt l i j b he
      exact ih f' j _ (by omega) (by omega)
    ·split
     ·rfl
     ·split
      ·rfl
      ·rename_i hq
       rw [Nat.add_assoc]
       exact ih f' (i+seqN l i) _ (by omega) (by omega)
  ·rw [str_out l _ i acc (by omega),str_out (a++l) f' _ acc (by rw [List.length_append];omega)]
   rfl
theorem rdKey_sh (i:Nat):rdKey (a++l) (a.length+i)=shP a.length (rdKey l i):=by
 unfold rdKey
 rw [nx_sh,toR_sh,Nat.add_assoc,str_sh a l (l.length+1) ((a++l).length+1) (i+1) [] (by omega) (by rw [List.length_append];omega),Nat.add_sub_add_left,subT_sh]
 split
 ·rfl
 ·by_cases h:toR isBa l i=i
  ·rw [if_pos h,if_pos (by omega)];rfl
  ·rw [if_neg h,if_neg (by omega)];rfl
theorem rdInt_sh (i:Nat):rdInt (a++l) (a.length+i)=shP a.length (rdInt l i):=by
 unfold rdInt
 have e:(if isDg (nx l i)=true then a.length+i else a.length+i+1)=a.length+(if isDg (nx l i)=true then i else i+1):=by split <;> omega
 simp only [nx_sh,e,toR_sh,Nat.add_sub_add_left,subT_sh]
 obtain ⟨b,hb⟩:∃b,(if isDg (nx l i)=true then i else i+1)=b:=⟨_,rfl⟩
 rw [hb]
 by_cases h:toR isDg l b=b\/(1 < toR isDg l b - b/\nx l b=48)
 ·rw [if_pos h,if_pos (by rcases h with h | h;exact Or.inl (by omega);exact Or.inr h)];rfl
 ·rw [if_neg h,if_neg (by rintro (h' | h');exact h (Or.inl (by omega));exact h (Or.inr h'))]
  split <;> rfl
theorem rdTru_sh (i:Nat):rdTru (a++l) (a.length+i)=shP a.length (rdTru l i):=by
 unfold rdTru
 simp only [toR_sh,Nat.add_sub_add_left,subT_sh]
 split
 ·rfl
 ·split <;> rfl
theorem gap_sh:∀(f f' i:Nat),i<=l.length->l.length < f+i->l.length < f'+i->gap (a++l) f' (a.length+i)=shN a.length (gap l f i):=by
 intro f
 induction f with
 | zero=>intro f' i hi h h';omega
 | succ f ih =>
  intro f' i hi h h'
  obtain ⟨f',rfl⟩:∃g,f'=g+1:=⟨f' - 1,by omega⟩
  rw [gap_step,gap_step,bl_sh,cmt_sh]
  simp only [nx_sh]
  have h1:=bl_le l i hi
  have h2:=cmt_le l (bl l i) h1.2
  split
  ·rfl
  ·split
   ·rename_i hx
    have h3:=nx_lt (l:=l) (i:=(cmt l (bl l i)).2) (by rw [hx];decide)
    rw [Nat.add_assoc]
    exact ih f' _ (by omega) (by omega) (by omega)
   ·rfl
theorem must_sh (i:Nat) (c:Int):must (a++l) (a.length+i) c=shN a.length (must l i c):=by
 unfold must
 rw [nx_sh]
 split <;> rfl
end
set_option linter.unusedVariables false
def np (x:Tn):Tn:=⟨x.kd,x.ky,x.tx,x.nu,x.ks,0⟩
def Sm (m n:List Tn):Prop:=m.map np=n.map np
theorem Sm.len {m n:List Tn} (h:Sm m n):m.length=n.length:=by
 have:=congrArg List.length h
 simpa using this
theorem kdAt_np (ns:List Tn) (t:Nat):kdAt (ns.map np) t=kdAt ns t:=by
 unfold kdAt
 rw [List.getElem?_map]
 cases ns[t]? <;> rfl
theorem kidO_np (ns:List Tn) (t:Nat) (k:List UInt8):kidO (ns.map np) t k=kidO ns t k:=by
 unfold kidO
 simp only [List.getElem?_map]
 cases ns[t]? with
 | none=>rfl
 | some u =>
  show List.find? _ u.ks=List.find? _ u.ks
  congr 1
  funext q
  cases ns[q]? <;> rfl
theorem addN_np (ns:List Tn) (up:Nat) (x:Tn):(addN ns up x).map np=addN (ns.map np) up (np x):=by
 unfold addN
 rw [List.getElem?_map]
 cases h:ns[up]? with
 | none=>simp
 | some u =>
  simp only [Option.map_some,List.map_append,List.map_cons,List.map_nil,List.map_set,List.length_map]
  rfl
theorem Sm.kd {m n:List Tn} (h:Sm m n) (t:Nat):kdAt m t=kdAt n t:=by rw [<-kdAt_np m,<-kdAt_np n,h]
theorem Sm.kid {m n:List Tn} (h:Sm m n) (t:Nat) (k:List UInt8):kidO m t k=kidO n t k:=by rw [<-kidO_np m,<-kidO_np n,h]
theorem Sm.add {m n:List Tn} (h:Sm m n) (up:Nat) {x y:Tn} (hx:np x=np y):Sm (addN m up x) (addN n up y):=by
 unfold Sm
 rw [addN_np,addN_np,h,hx]
theorem Sm.last {m n:List Tn} (h:Sm m n) (q:Nat):(m[q]?).map (·.ks)=(n[q]?).map (·.ks):=by
 have e:∀l:List Tn,(l[q]?).map (·.ks)=((l.map np)[q]?).map (·.ks):=fun l=>by
  rw [List.getElem?_map]
  cases l[q]? <;> rfl
 rw [e m,e n,h]
def VR (n:Nat) (x y:Rs (Nat × List Tn)):Prop:=(∃c d,x=.error c/\y=.error d/\c.1=d.1)\/(∃j a b,x=.ok (n+j,a)/\y=.ok (j,b)/\Sm a b)
theorem vr_er {n:Nat} {c d:Int × Nat} (h:c.1=d.1):VR n (.error c) (.error d):=Or.inl ⟨c,d,rfl,rfl,h⟩
theorem vr_ok {n j:Nat} {a b:List Tn} (h:Sm a b):VR n (.ok (n+j,a)) (.ok (j,b)):=Or.inr ⟨j,a,b,rfl,rfl,h⟩
theorem vl_le (l:List UInt8):∀f:Nat,(∀i up k p d ns j ns',i<=l.length->val l f i up k p d ns=.ok (j,ns')->i < j/\j<=l.length)/\(∀i up d ns j ns',i<=l.length->lst l f i up d ns=.ok (j,ns')->i < j/\j<=l.length):=by
 intro f
 induction f with
 | zero=>exact ⟨fun i up k p d ns j ns' _ h=>by simp [val] at h,fun i up d ns j ns' _ h=>by simp [lst] at h⟩
 | succ f ih =>
  refine ⟨fun i up k p d ns j ns' hi h=>?_,fun i up d ns j ns' hi h=>?_⟩
  ·rw [val_step] at h
   split at h
   ·rename_i hx
    have hlt:=nx_lt (l:=l) (i:=i) (by rw [hx];decide)
    cases hs:str l (l.length+1) (i+1) [] with
    | error e=>rw [hs] at h;cases h
    | ok q =>
     obtain ⟨t,j'⟩:=q
     rw [hs] at h
     cases h
     have:=str_ok l _ _ _ _ _ (by omega) hs
     omega
   ·split at h
    ·rename_i hx
     have hlt:i < l.length:=by
      refine nx_lt (l:=l) (i:=i) ?_
      rcases hx with hx | hx | hx
      ·rw [hx];decide
      ·rw [hx];decide
      ·have:=of_decide_eq_true hx;omega
     cases hs:rdInt l i with
     | error e=>rw [hs] at h;cases h
     | ok q =>
      obtain ⟨t,j'⟩:=q
      rw [hs] at h
      cases h
      exact rdInt_ok l i t j hlt hs
    ·split at h
     ·cases hs:rdTru l i with
      | error e=>rw [hs] at h;cases h
      | ok q =>
       obtain ⟨t,j'⟩:=q
       rw [hs] at h
       cases h
       exact rdTru_ok l i t j hi hs
     ·split at h
      ·rename_i hx
       have hlt:=nx_lt (l:=l) (i:=i) (by rw [hx];decide)
       split at h
       ·cases h
       ·have:=ih.2 _ _ _ _ _ _ (by omega) h
        omega
      ·cases h
  ·rw [lst_step] at h
   cases hg:gap l (l.length+1) i with
   | error e=>rw [hg] at h;cases h
   | ok j0 =>
    rw [hg] at h
    simp only [] at h
    have h0:=gap_ok l _ _ _ hi hg
    split at h
    ·rename_i hx
     have hlt:=nx_lt (l:=l) (i:=j0) (by rw [hx];decide)
     cases h
     omega
    ·cases hv:val l f j0 up [] j0 d ns with
     | error e=>rw [hv] at h;cases h
     | ok q =>
      obtain ⟨j1,n1⟩:=q
      rw [hv] at h
      simp only [] at h
      have h1:=ih.1 _ _ _ _ _ _ _ _ h0.2 hv
      cases hg2:gap l (l.length+1) j1 with
      | error e=>rw [hg2] at h;cases h
      | ok j2 =>
       rw [hg2] at h
       simp only [] at h
       have h2:=gap_ok l _ _ _ h1.2 hg2
       split at h
       ·rename_i hx
        have hlt:=nx_lt (l:=l) (i:=j2) (by rw [hx];decide)
        have:=ih.2 _ _ _ _ _ _ (by omega) h
        omega
       ·split at h
        ·rename_i hx
         have hlt:=nx_lt (l:=l) (i:=j2) (by rw [hx];decide)
         cases h
         omega
        ·cases h
theorem val_sh (a l:List UInt8):∀f f':Nat,(∀i up k p p' d m ns,i<=l.length->2 * (l.length - i)+1<=f->2 * (l.length - i)+1<=f'->Sm m ns->VR a.length (val (a++l) f' (a.length+i) up k p' d m) (val l f i up k p d ns)) ∧
  (∀i up d m ns,i<=l.length->2 * (l.length - i)+2<=f->2 * (l.length - i)+2<=f'->Sm m ns->VR a.length (lst (a++l) f' (a.length+i) up d m) (lst l f i up d ns)):=by
 intro f
 induction f with
 | zero=>exact fun f'=>⟨fun i up k p p' d m ns _ h=>by omega,fun i up d m ns _ h=>by omega⟩
 | succ f ih =>
  intro f'
  refine ⟨fun i up k p p' d m ns hi h h' hs=>?_,fun i up d m ns hi h h' hs=>?_⟩
  ·obtain ⟨f',rfl⟩:∃g,f'=g+1:=⟨f' - 1,by omega⟩
   rw [val_step,val_step,nx_sh]
   split
   ·rw [Nat.add_assoc,str_sh a l (l.length+1) ((a++l).length+1) (i+1) [] (by omega) (by rw [List.length_append];omega)]
    cases str l (l.length+1) (i+1) [] with
    | error e=>exact vr_er rfl
    | ok q=>exact vr_ok (hs.add up (by rfl))
   ·split
    ·rw [rdInt_sh]
     cases rdInt l i with
     | error e=>exact vr_er rfl
     | ok q=>exact vr_ok (hs.add up (by rfl))
    ·split
     ·rw [rdTru_sh]
      cases rdTru l i with
      | error e=>exact vr_er rfl
      | ok q=>exact vr_ok (hs.add up (by rfl))
     ·split
      ·rename_i hx
       have hlt:=nx_lt (l:=l) (i:=i) (by rw [hx];decide)
       split
       ·exact vr_er rfl
       ·rw [Nat.add_assoc,hs.len]
        exact (ih f').2 (i+1) ns.length (d+1) _ _ (by omega) (by omega) (by omega) (hs.add up (by rfl))
      ·exact vr_er rfl
  ·obtain ⟨f',rfl⟩:∃g,f'=g+1:=⟨f' - 1,by omega⟩
   rw [lst_step,lst_step,gap_sh a l (l.length+1) ((a++l).length+1) i hi (by omega) (by rw [List.length_append];omega)]
   cases hg:gap l (l.length+1) i with
   | error e=>exact vr_er rfl
   | ok j0 =>
    have h0:=gap_ok l _ _ _ hi hg
    simp only [shN,nx_sh]
    split
    ·rw [Nat.add_assoc];exact vr_ok hs
    ·rcases (ih f').1 j0 up [] j0 (a.length+j0) d m ns h0.2 (by omega) (by omega) hs with ⟨c,e,e1,e2,e3⟩ | ⟨j1,m1,n1,e1,e2,e3⟩
     ·rw [e1,e2];exact vr_er e3
     ·have h1:=(vl_le l f).1 _ _ _ _ _ _ _ _ h0.2 e2
      rw [e1,e2]
      simp only []
      rw [gap_sh a l (l.length+1) ((a++l).length+1) j1 h1.2 (by omega) (by rw [List.length_append];omega)]
      cases hg2:gap l (l.length+1) j1 with
      | error e=>exact vr_er rfl
      | ok j2 =>
       have h2:=gap_ok l _ _ _ h1.2 hg2
       simp only [shN,nx_sh]
       split
       ·rename_i hx
        have hlt:=nx_lt (l:=l) (i:=j2) (by rw [hx];decide)
        rw [Nat.add_assoc]
        exact (ih f').2 (j2+1) up d _ _ (by omega) (by omega) (by omega) e3
       ·split
        ·rw [Nat.add_assoc];exact vr_ok e3
        ·exact vr_er rfl
def HR (n:Nat) (x y:Rs (List (List UInt8 × Nat) × Nat)):Prop:=(∃c d,x=.error c/\y=.error d/\c.1=d.1)\/(∃j a b,x=.ok (a,n+j)/\y=.ok (b,j)/\a.map (·.1)=b.map (·.1))
theorem hdK_sh (a l:List UInt8):∀(f f' i:Nat) (acc acc':List (List UInt8 × Nat)),i<=l.length->l.length < f+i->l.length < f'+i->acc'.map (·.1)=acc.map (·.1)->HR a.length (hdK (a++l) f' (a.length+i) acc') (hdK l f i acc):=by
 intro f
 induction f with
 | zero=>intro f' i acc acc' hi h;omega
 | succ f ih =>
  intro f' i acc acc' hi h h' hacc
  obtain ⟨f',rfl⟩:∃g,f'=g+1:=⟨f' - 1,by omega⟩
  rw [hdK_step,hdK_step,bl_sh,rdKey_sh]
  have b1:=bl_le l i hi
  cases hk:rdKey l (bl l i) with
  | error e=>exact Or.inl ⟨_,_,rfl,rfl,rfl⟩
  | ok q =>
   obtain ⟨k,j⟩:=q
   simp only [shP,bl_sh,nx_sh]
   have k1:=rdKey_ok l (bl l i) k j b1.2 hk
   have b2:=bl_le l j k1.2.1
   have hm:(acc'++[(k,a.length+bl l i)]).map (·.1)=(acc++[(k,bl l i)]).map (·.1):=by simp [hacc]
   split
   ·rename_i hx
    have hlt:=nx_lt (l:=l) (i:=bl l j) (by rw [hx];decide)
    rw [Nat.add_assoc]
    exact ih f' _ _ _ (by omega) (by omega) (by omega) hm
   ·exact Or.inr ⟨_,_,_,rfl,rfl,hm⟩
def WR (x y:Rs (Nat × List Tn)):Prop:=(∃c d,x=.error c/\y=.error d/\c.1=d.1)\/(∃t a b,x=.ok (t,a)/\y=.ok (t,b)/\Sm a b)
theorem stp_sm {m n:List Tn} (h:Sm m n) (t:Nat) (k:List UInt8) (p p':Nat):WR (stp m t k p') (stp n t k p):=by
 unfold stp
 rw [h.kid]
 cases kidO n t k with
 | none =>
  simp only []
  rw [h.len]
  exact Or.inr ⟨_,_,_,rfl,rfl,h.add t (by rfl)⟩
 | some q =>
  simp only []
  rw [h.kd]
  split
  ·exact Or.inr ⟨_,_,_,rfl,rfl,h⟩
  ·split
   ·have:=h.last q
    cases hm:m[q]? with
    | none =>
     rw [hm] at this
     cases hn:n[q]? with
     | none=>exact Or.inl ⟨_,_,rfl,rfl,rfl⟩
     | some v=>rw [hn] at this;cases this
    | some u =>
     rw [hm] at this
     cases hn:n[q]? with
     | none=>rw [hn] at this;cases this
     | some v =>
      rw [hn] at this
      have e:u.ks=v.ks:=Option.some.inj this
      simp only [e]
      exact Or.inr ⟨_,_,_,rfl,rfl,h⟩
   ·exact Or.inl ⟨_,_,rfl,rfl,rfl⟩
theorem endT_sm {m n:List Tn} (h:Sm m n) (own:List Nat) (t:Nat) (k:List UInt8) (p p':Nat):WR (endT m own t k p') (endT n own t k p):=by
 unfold endT
 rw [h.kid]
 cases kidO n t k with
 | none =>
  simp only []
  rw [h.len]
  exact Or.inr ⟨_,_,_,rfl,rfl,h.add t (by rfl)⟩
 | some q =>
  simp only []
  rw [h.kd]
  split
  ·exact Or.inr ⟨_,_,_,rfl,rfl,h⟩
  ·exact Or.inl ⟨_,_,rfl,rfl,rfl⟩
theorem endL_sm {m n:List Tn} (h:Sm m n) (t:Nat) (k:List UInt8) (p p':Nat):WR (endL m t k p') (endL n t k p):=by
 unfold endL
 rw [h.kid]
 cases kidO n t k with
 | none =>
  simp only []
  rw [h.len]
  exact Or.inr ⟨_,_,_,rfl,rfl,(h.add t (by rfl)).add n.length (by rfl)⟩
 | some q =>
  simp only []
  rw [h.kd]
  split
  ·rw [h.len]
   exact Or.inr ⟨_,_,_,rfl,rfl,h.add q (by rfl)⟩
  ·exact Or.inl ⟨_,_,rfl,rfl,rfl⟩
theorem way_sm (many:Bool) (own:List Nat):∀(ks ks':List (List UInt8 × Nat)) (t:Nat) (m n:List Tn),ks'.map (·.1)=ks.map (·.1)->Sm m n->WR (way many own ks' t m) (way many own ks t n)
 | [],ks',t,m,n,hk,h=>by
  have:ks'=[]:=by cases ks' with | nil=>rfl | cons a r=>cases hk
  subst this
  exact Or.inr ⟨_,_,_,rfl,rfl,h⟩
 | [(k,p)],ks',t,m,n,hk,h=>by
  match ks',hk with
  | [(k',p')],hk =>
   have e:k'=k:=by simpa using hk
   subst e
   rw [way_one,way_one]
   split
   ·exact endL_sm h t k' p p'
   ·exact endT_sm h own t k' p p'
 | (k,p) :: b :: r,ks',t,m,n,hk,h=>by
  match ks',hk with
  | (k',p') :: b' :: r',hk =>
   have e:k'=k/\(b' :: r').map (·.1)=(b :: r).map (·.1):=by
    simp only [List.map_cons,List.cons.injEq] at hk ⊢
    exact hk
   obtain ⟨rfl,e⟩:=e
   rw [way_more,way_more]
   rcases stp_sm h t k' p p' with ⟨c,d,e1,e2,e3⟩ | ⟨t1,a1,b1,e1,e2,e3⟩
   ·rw [e1,e2];exact Or.inl ⟨_,_,rfl,rfl,e3⟩
   ·rw [e1,e2]
    exact way_sm many own (b :: r) (b' :: r') t1 a1 b1 e e3
structure SR (n:Nat) (x y:Sd):Prop where
 i:x.i=n+y.i
 ns:Sm x.ns y.ns
 own:x.own=y.own
 now:x.now=y.now
def LR (n:Nat) (x y:Rs Sd):Prop:=(∃c d,x=.error c/\y=.error d/\c.1=d.1)\/(∃a b,x=.ok a/\y=.ok b/\SR n a b)
theorem head_sh (a l:List UInt8) (x y:Sd) (h:SR a.length x y) (hi:y.i < l.length):LR a.length (rdHead (a++l) x) (rdHead l y):=by
 obtain ⟨xi,xn,xo,xw⟩:=x
 obtain ⟨yi,yn,yo,yw⟩:=y
 obtain ⟨h1,h2,h3,h4⟩:=h
 simp only [] at h1 h2 h3 h4 hi
 subst h1 h3 h4
 obtain ⟨many,hm⟩:∃b,decide (nx l (yi+1)=91)=b:=⟨_,rfl⟩
 rw [rdHead_eq l yi yn xo xw many hm,rdHead_eq (a++l) (a.length+yi) xn xo xw many (by rw [Nat.add_assoc,nx_sh];exact hm)]
 have e:(if many=true then a.length+yi+2 else a.length+yi+1)=a.length+(if many=true then yi+2 else yi+1):=by split <;> omega
 have hi2:(if many=true then yi+2 else yi+1)<=l.length:=by
  cases many with
  | true =>
   have:=nx_lt (l:=l) (i:=yi+1) (by rw [of_decide_eq_true hm];decide)
   simp only [if_true];omega
  | false=>simp only [Bool.false_eq_true,if_false];omega
 rw [e]
 rcases hdK_sh a l (l.length+1) ((a++l).length+1) _ [] [] hi2 (by omega) (by rw [List.length_append];omega) rfl with ⟨c,d,e1,e2,e3⟩ | ⟨j,ka,kb,e1,e2,e3⟩
 ·rw [e1,e2];exact Or.inl ⟨_,_,rfl,rfl,e3⟩
 ·rw [e1,e2]
  simp only [must_sh]
  cases must l j 93 with
  | error c=>exact Or.inl ⟨_,_,rfl,rfl,rfl⟩
  | ok j1 =>
   rw [show shN a.length (.ok j1)=.ok (a.length+j1) from rfl]
   simp only []
   rw [must_sh]
   have e4:(if many=true then shN a.length (must l j1 93) else .ok (a.length+j1))=shN a.length (if many=true then must l j1 93 else .ok j1):=by split <;> rfl
   rw [e4]
   cases (if many=true then must l j1 93 else .ok j1:Rs Nat) with
   | error c=>exact Or.inl ⟨_,_,rfl,rfl,rfl⟩
   | ok j2 =>
    simp only [shN]
    rcases way_sm many xo kb ka 0 xn yn e3 h2 with ⟨c,d,f1,f2,f3⟩ | ⟨t,m1,n1,f1,f2,f3⟩
    ·rw [f1,f2];exact Or.inl ⟨_,_,rfl,rfl,f3⟩
    ·rw [f1,f2];exact Or.inr ⟨_,_,rfl,rfl,⟨rfl,f3,rfl,rfl⟩⟩
theorem pair_sh (a l:List UInt8) (x y:Sd) (h:SR a.length x y) (hi:y.i<=l.length):LR a.length (rdPair (a++l) x) (rdPair l y):=by
 obtain ⟨xi,xn,xo,xw⟩:=x
 obtain ⟨yi,yn,yo,yw⟩:=y
 obtain ⟨h1,h2,h3,h4⟩:=h
 simp only [] at h1 h2 h3 h4 hi
 subst h1 h3 h4
 unfold rdPair
 simp only [rdKey_sh]
 cases hk:rdKey l yi with
 | error c=>exact Or.inl ⟨_,_,rfl,rfl,rfl⟩
 | ok q =>
  obtain ⟨k,j⟩:=q
  have k1:=rdKey_ok l yi k j hi hk
  have b1:=bl_le l j k1.2.1
  simp only [shP,bl_sh,must_sh]
  cases hm:must l (bl l j) 61 with
  | error c=>exact Or.inl ⟨_,_,rfl,rfl,rfl⟩
  | ok j1 =>
   have m1:=must_ok l _ _ _ (by decide) hm
   simp only [shN,bl_sh,h2.kid]
   cases kidO yn xw k with
   | some q=>exact Or.inl ⟨_,_,rfl,rfl,rfl⟩
   | none =>
    simp only []
    have b2:=bl_le l j1 (by omega)
    rcases (val_sh a l (2 * l.length+2) (2 * (a++l).length+2)).1 (bl l j1) xw k yi (a.length+yi) 0 xn yn b2.2 (by omega) (by rw [List.length_append];omega) h2 with ⟨c,d,e1,e2,e3⟩ | ⟨j2,m2,n2,e1,e2,e3⟩
    ·rw [e1,e2];exact Or.inl ⟨_,_,rfl,rfl,e3⟩
    ·rw [e1,e2];exact Or.inr ⟨_,_,rfl,rfl,⟨rfl,e3,rfl,rfl⟩⟩
theorem line_sh (a l:List UInt8) (x y:Sd) (h:SR a.length x y) (hi:y.i<=l.length):LR a.length (rdLine (a++l) x) (rdLine l y):=by
 unfold rdLine
 have b0:=bl_le l y.i hi
 have e0:bl (a++l) x.i=a.length+bl l y.i:=by rw [h.i,bl_sh]
 simp only [e0,nx_sh]
 have hs:SR a.length ⟨a.length+bl l y.i,x.ns,x.own,x.now⟩ ⟨bl l y.i,y.ns,y.own,y.now⟩:=⟨rfl,h.ns,h.own,h.now⟩
 have key:∀(u v:Rs Sd),LR a.length u v->LR a.length (match u with | .error e=>.error e | .ok s1=>if (cmt (a++l) (bl (a++l) s1.i)).1=false then .error (2,(cmt (a++l) (bl (a++l) s1.i)).2) else if nx (a++l) (cmt (a++l) (bl (a++l) s1.i)).2=-1 then .ok ⟨(cmt (a++l) (bl (a++l) s1.i)).2,s1.ns,s1.own,s1.now⟩ else match must (a++l) (cmt (a++l) (bl (a++l) s1.i)).2 10 with | .error e=>.error e | .ok j=>.ok ⟨j,s1.ns,s1.own,s1.now⟩)
   (match v with | .error e=>.error e | .ok s1=>if (cmt l (bl l s1.i)).1=false then .error (2,(cmt l (bl l s1.i)).2) else if nx l (cmt l (bl l s1.i)).2=-1 then .ok ⟨(cmt l (bl l s1.i)).2,s1.ns,s1.own,s1.now⟩ else match must l (cmt l (bl l s1.i)).2 10 with | .error e=>.error e | .ok j=>.ok ⟨j,s1.ns,s1.own,s1.now⟩):=by
  intro u v huv
  rcases huv with ⟨c,d,e1,e2,e3⟩ | ⟨s,t,e1,e2,e3⟩
  ·rw [e1,e2];exact Or.inl ⟨_,_,rfl,rfl,e3⟩
  ·rw [e1,e2]
   simp only [e3.i,bl_sh,cmt_sh,nx_sh,must_sh]
   split
   ·exact Or.inl ⟨_,_,rfl,rfl,rfl⟩
   ·split
    ·exact Or.inr ⟨_,_,rfl,rfl,⟨rfl,e3.ns,e3.own,e3.now⟩⟩
    ·cases must l (cmt l (bl l t.i)).2 10 with
     | error c=>exact Or.inl ⟨_,_,rfl,rfl,rfl⟩
     | ok j=>exact Or.inr ⟨_,_,rfl,rfl,⟨rfl,e3.ns,e3.own,e3.now⟩⟩
 refine key _ _ ?_
 split
 ·rename_i hx
  have hlt:=nx_lt (l:=l) (i:=bl l y.i) (by rw [hx];decide)
  exact head_sh a l _ _ hs hlt
 ·split
  ·exact pair_sh a l _ _ hs b0.2
  ·exact Or.inr ⟨_,_,rfl,rfl,hs⟩
theorem all_sh (a l:List UInt8):∀(f f':Nat) (x y:Sd),SR a.length x y->Li l y->l.length < f+y.i->l.length < f'+y.i->LR a.length (rdAll (a++l) f' x) (rdAll l f y):=by
 intro f
 induction f with
 | zero=>intro f' x y hs L h;have:=L.le;omega
 | succ f ih =>
  intro f' x y hs L h h'
  have hle:=L.le
  obtain ⟨f',rfl⟩:∃g,f'=g+1:=⟨f' - 1,by omega⟩
  rw [rdAll_step,rdAll_step,hs.i,List.length_append]
  by_cases hi:l.length<=y.i
  ·rw [if_pos hi,if_pos (by omega)]
   exact Or.inr ⟨_,_,rfl,rfl,hs⟩
  ·rw [if_neg hi,if_neg (by omega)]
   rcases line_sh a l x y hs hle with ⟨c,d,e1,e2,e3⟩ | ⟨s,t,e1,e2,e3⟩
   ·rw [e1,e2];exact Or.inl ⟨_,_,rfl,rfl,e3⟩
   ·rw [e1,e2]
    obtain ⟨L1,hlt⟩:=line_ok l y t L (by omega) e2
    exact ih f' s t e3 L1 (by omega) (by omega)
end Go.Proofs.YtbgnflcebafjjaaGreatDoor
