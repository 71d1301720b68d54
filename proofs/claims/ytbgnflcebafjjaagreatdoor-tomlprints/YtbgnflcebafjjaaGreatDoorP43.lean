import Derived.Test.YtbgnflcebafjjaaGreatDoorP40
import Derived.Test.YtbgnflcebafjjaaGreatDoorP42
import Derived.Lib.ItoaLen
namespace Go.Proofs.YtbgnflcebafjjaaGreatDoor
open Go.RowKit Go.Joins
set_option linter.unusedVariables false
theorem rdInt_num (l:List UInt8) (i:Nat) (n:Int) (j:Nat) (hi:i < l.length) (h:rdInt l i=.ok (n,j)):-1000000000000000000 < n/\n < 1000000000000000000:=by
 unfold rdInt at h
 simp only [] at h
 have ha:(if isDg (nx l i)=true then i else i+1)<=l.length:=by split <;> omega
 generalize (if isDg (nx l i)=true then i else i+1)=a at h ha
 have hj:=toR_le isDg l a ha
 split at h
 ·cases h
 ·split at h
  ·cases h
  ·have hb:=(int_low l a (toR isDg l a) (fun c hc=>by
    have:=toR_all isDg l a c hc
    unfold isDg at this
    have:=of_decide_eq_true this
    omega) hj.1 hj.2 (by omega)).2
   cases h
   split <;> omega
theorem rdTru_num (l:List UInt8) (i:Nat) (n:Int) (j:Nat) (h:rdTru l i=.ok (n,j)):n=0\/n=1:=by
 rw [rdTru_eq] at h
 split at h
 ·cases h;decide
 ·split at h
  ·cases h;decide
  ·cases h
theorem us_low:∀(s:List UInt8),(∀c ∈ s,c.toNat < 128)->Us s
 | [],_=>Us.nil
 | c :: s,h=>(us_one c (h c (by simp))).app (us_low s fun b hb=>h b (by simp [hb]))
theorem rdKey_us (l:List UInt8) (i:Nat) (k:List UInt8) (j:Nat) (h:rdKey l i=.ok (k,j)):Us k:=by
 unfold rdKey at h
 split at h
 ·exact str_us l _ _ [] k j Us.nil h
 ·split at h
  ·cases h
  ·injection h with h
   injection h with h1 h2
   rw [<-h1]
   refine us_low _ fun c hc=>?_
   have:=toR_all isBa l i c hc
   unfold isBa isSm isDg at this
   simp at this
   omega
theorem val_lst_gr (l:List UInt8):∀f:Nat,(∀i up k p d ns j ns',i<=l.length->up < ns.length->((kdAt ns up=0/\Us k)\/(kdAt ns up=1/\k=[]))->Ld ns up d->d<=8->(kdAt ns up=0->kidO ns up k=none)->k.length<=l.length->val l f i up k p d ns=.ok (j,ns')->j<=l.length/\Gr l.length ns ns' k.length)/\(∀i up d ns j ns',i<=l.length->up < ns.length->kdAt ns up=1->Ld ns up d->d<=8->lst l f i up d ns=.ok (j,ns')->j<=l.length/\Gr l.length ns ns' 0):=by
 intro f
 induction f with
 | zero =>
  refine ⟨fun i up k p d ns j ns' _ _ _ _ _ _ _ h=>?_,fun i up d ns j ns' _ _ _ _ _ h=>?_⟩
  ·rw [val] at h;cases h
  ·rw [lst] at h;cases h
 | succ f ih =>
  refine ⟨fun i up k p d ns j ns' hi hu h2 hld hd hf hk h=>?_,fun i up d ns j ns' hi hu h1 hld hd h=>?_⟩
  ·have one:∀x:Tn,x.ks=[]->x.ky=k->x.tx.length<=l.length->-1000000000000000000<=x.nu/\x.nu<=1000000000000000000->(x.kd=1\/x.kd=3\/x.kd=4\/x.kd=5)->(if x.kd=3 then Us x.tx else x.tx=[])->(if x.kd=4 then -1000000000000000000 < x.nu/\x.nu < 1000000000000000000 else if x.kd=5 then x.nu=0\/x.nu=1 else x.nu=0)->(x.kd=1->d < 8)->Gr l.length ns (addN ns up x) k.length:=fun x a b c e f g g2 g3=>by
    have:=Gr.one (n:=l.length) (x:=x) hu ⟨a,by rw [b];exact hk,c,e,fun e=>by rw [b];exact hf e,fun e=>(by rcases h2 with h2 | h2 <;> rw [e] at h2 <;> exact absurd h2.1 (by decide)),⟨by
     rw [b]
     rcases h2 with ⟨h2,h3⟩ | ⟨h2,h3⟩
     ·exact Or.inl ⟨h2,h3,by omega,by omega⟩
     ·exact Or.inr (Or.inl ⟨h2,h3,f⟩),g,g2⟩,fun e=>⟨d,g3 e,hld⟩⟩
    rwa [b] at this
   rw [val_step] at h
   split at h
   ·rename_i hx
    have hlt:=nx_lt (l:=l) (i:=i) (by rw [hx];decide)
    cases hs:str l (l.length+1) (i+1) [] with
    | error e=>rw [hs] at h;cases h
    | ok q =>
     obtain ⟨t,j'⟩:=q
     rw [hs] at h
     obtain ⟨a,b,c⟩:=str_ok l _ (i+1) [] t j' (by omega) hs
     simp only [List.length_nil] at c
     have hus:=str_us l _ _ [] t j' Us.nil hs
     cases h
     exact ⟨b,one ⟨3,k,t,0,[],p⟩ rfl rfl (by simp only [];omega) (by simp) (by simp) (by simpa using hus) (by simp) (by simp)⟩
   ·split at h
    ·rename_i hx
     have hlt:i < l.length:=by
      apply nx_lt
      rcases hx with hx | hx | hx
      ·rw [hx];decide
      ·rw [hx];decide
      ·have:=of_decide_eq_true hx;omega
     cases hs:rdInt l i with
     | error e=>rw [hs] at h;cases h
     | ok q =>
      obtain ⟨t,j'⟩:=q
      rw [hs] at h
      obtain ⟨a,b⟩:=rdInt_ok l i t j' hlt hs
      have c:=rdInt_num l i t j' hlt hs
      cases h
      exact ⟨b,one ⟨4,k,[],t,[],p⟩ rfl rfl (by simp) (by simp only [];omega) (by simp) (by simp) (by simpa using c) (by simp)⟩
    ·split at h
     ·cases hs:rdTru l i with
      | error e=>rw [hs] at h;cases h
      | ok q =>
       obtain ⟨t,j'⟩:=q
       rw [hs] at h
       obtain ⟨a,b⟩:=rdTru_ok l i t j' hi hs
       have c:=rdTru_num l i t j' hs
       cases h
       exact ⟨b,one ⟨5,k,[],t,[],p⟩ rfl rfl (by simp) (by simp only [];omega) (by simp) (by simp) (by simpa using c) (by simp)⟩
     ·split at h
      ·rename_i hx
       have hlt:=nx_lt (l:=l) (i:=i) (by rw [hx];decide)
       split at h
       ·cases h
       ·rename_i hd8
        have A:=one ⟨1,k,[],0,[],p⟩ rfl rfl (by simp) (by simp) (by simp) (by simp) (by simp) (fun _=>by omega)
        have k1:kdAt (addN ns up ⟨1,k,[],0,[],p⟩) ns.length=1:=by rw [kdAt_addN ns up _ hu,if_pos rfl]
        obtain ⟨a1,a2⟩:=ih.2 (i+1) ns.length (d+1) _ j ns' (by omega) (by rw [addN_len];omega) k1 (Ld.kid up ns.length d k1 (by rw [ksAt_addN ns up _ hu,if_neg (by omega),if_pos rfl];simp) (hld.addN hu)) (by omega) h
        exact ⟨a1,A.trans a2⟩
      ·cases h
  ·rw [lst_step] at h
   cases hg:gap l (l.length+1) i with
   | error e=>rw [hg] at h;cases h
   | ok j0 =>
    rw [hg] at h
    simp only [] at h
    obtain ⟨g1,g2⟩:=gap_ok l _ i j0 hi hg
    split at h
    ·rename_i hx
     have hlt:=nx_lt (l:=l) (i:=j0) (by rw [hx];decide)
     cases h
     exact ⟨by omega,Gr.refl _⟩
    ·cases hv:val l f j0 up [] j0 d ns with
     | error e=>rw [hv] at h;cases h
     | ok q =>
      obtain ⟨j1,ns1⟩:=q
      rw [hv] at h
      simp only [] at h
      obtain ⟨v1,v2⟩:=ih.1 j0 up [] j0 d ns j1 ns1 g2 hu (Or.inr ⟨h1,rfl⟩) hld hd (fun e=>by rw [h1] at e;exact absurd e (by decide)) (by simp) hv
      cases hg2:gap l (l.length+1) j1 with
      | error e=>rw [hg2] at h;cases h
      | ok j2 =>
       rw [hg2] at h
       simp only [] at h
       obtain ⟨g3,g4⟩:=gap_ok l _ j1 j2 v1 hg2
       split at h
       ·rename_i hx
        have hlt:=nx_lt (l:=l) (i:=j2) (by rw [hx];decide)
        have hlen:=v2.len
        obtain ⟨a1,a2⟩:=ih.2 (j2+1) up d ns1 j ns' (by omega) (by omega) (by rw [v2.kd hu];exact h1) (v2.ld hld) hd h
        exact ⟨a1,v2.trans a2⟩
       ·split at h
        ·rename_i hx
         have hlt:=nx_lt (l:=l) (i:=j2) (by rw [hx];decide)
         cases h
         exact ⟨by omega,v2⟩
        ·cases h
theorem stp_gr {n:Nat} {ns ns':List Tn} {own:List Nat} {t t' p:Nat} {k:List UInt8} (J:Jt ns own t) (hk:k.length<=n) (hus:Us k) (h:stp ns t k p=.ok (t',ns')):∃m,Gr n ns ns' m/\m<=k.length:=by
 unfold stp at h
 cases hq:kidO ns t k with
 | none =>
  rw [hq] at h
  cases h
  exact ⟨_,Gr.one (x:=⟨0,k,[],0,[],p⟩) J.lt ⟨rfl,hk,by simp,by simp,fun _=>hq,fun _=>rfl,shp_tab (Or.inl ⟨J.kd,hus,Or.inl rfl⟩),fun e=>absurd (show (0:Int)=1 from e) (by decide)⟩,Nat.le_refl _⟩
 | some q =>
  rw [hq] at h
  simp only [] at h
  refine ⟨0,?_,Nat.zero_le _⟩
  split at h
  ·cases h;exact Gr.refl _
  ·split at h
   ·split at h
    ·cases h;exact Gr.refl _
    ·cases h
   ·cases h
theorem endT_gr {n:Nat} {ns ns':List Tn} {own:List Nat} {t t' p:Nat} {k:List UInt8} (J:Jt ns own t) (hk:k.length<=n) (hus:Us k) (h:endT ns own t k p=.ok (t',ns')):∃m,Gr n ns ns' m/\m<=k.length:=by
 unfold endT at h
 cases hq:kidO ns t k with
 | none =>
  rw [hq] at h
  cases h
  exact ⟨_,Gr.one (x:=⟨0,k,[],0,[],p⟩) J.lt ⟨rfl,hk,by simp,by simp,fun _=>hq,fun _=>rfl,shp_tab (Or.inl ⟨J.kd,hus,Or.inl rfl⟩),fun e=>absurd (show (0:Int)=1 from e) (by decide)⟩,Nat.le_refl _⟩
 | some q =>
  rw [hq] at h
  simp only [] at h
  refine ⟨0,?_,Nat.zero_le _⟩
  split at h
  ·cases h;exact Gr.refl _
  ·cases h
theorem endL_gr {n:Nat} {ns ns':List Tn} {own:List Nat} {t t' p:Nat} {k:List UInt8} (J:Jt ns own t) (hk:k.length<=n) (hus:Us k) (h:endL ns t k p=.ok (t',ns')):∃m,Gr n ns ns' m/\m<=k.length:=by
 unfold endL at h
 cases hq:kidO ns t k with
 | none =>
  rw [hq] at h
  cases h
  have A:Gr n ns (addN ns t ⟨2,k,[],0,[],p⟩) k.length:=Gr.one (x:=⟨2,k,[],0,[],p⟩) J.lt ⟨rfl,hk,by simp,by simp,fun _=>hq,fun e=>by rw [J.kd] at e;exact absurd e (by decide),shp_tab (Or.inl ⟨J.kd,hus,Or.inr rfl⟩),fun e=>absurd (show (2:Int)=1 from e) (by decide)⟩
  have e2:kdAt (addN ns t ⟨2,k,[],0,[],p⟩) ns.length=2:=by rw [kdAt_addN ns t _ J.lt,if_pos rfl]
  have B:Gr n (addN ns t ⟨2,k,[],0,[],p⟩) (addN (addN ns t ⟨2,k,[],0,[],p⟩) ns.length ⟨0,[],[],0,[],p⟩) 0:=Gr.one (x:=⟨0,[],[],0,[],p⟩) (by rw [addN_len];omega) ⟨rfl,by simp,by simp,by simp,fun e=>by rw [e2] at e;exact absurd e (by decide),fun _=>rfl,shp_tab (Or.inr ⟨e2,rfl,rfl⟩),fun e=>absurd (show (0:Int)=1 from e) (by decide)⟩
  exact ⟨_,A.trans B,Nat.le_refl _⟩
 | some q =>
  rw [hq] at h
  simp only [] at h
  refine ⟨0,?_,Nat.zero_le _⟩
  split at h
  ·rename_i h2
   cases h
   exact Gr.one (x:=⟨0,[],[],0,[],p⟩) (kdAt_lt h2 (by omega)) ⟨rfl,by simp,by simp,by simp,fun e=>by rw [h2] at e;exact absurd e (by decide),fun _=>rfl,shp_tab (Or.inr ⟨h2,rfl,rfl⟩),fun e=>absurd (show (0:Int)=1 from e) (by decide)⟩
  ·cases h
def kSum (l:List (List UInt8 × Nat)):Nat:=(l.map fun x=>x.1.length).sum
theorem way_gr {n:Nat} (many:Bool) (own:List Nat):∀(l:List (List UInt8 × Nat)) (t:Nat) (ns ns':List Tn) (t':Nat),(∀x ∈ l,x.1.length<=n/\Us x.1)->Jt ns own t->way many own l t ns=.ok (t',ns')->∃m,Gr n ns ns' m/\m<=kSum l
 | [],t,ns,ns',t',hl,J,h=>by
  cases h
  exact ⟨0,Gr.refl _,Nat.zero_le _⟩
 | [(k,p)],t,ns,ns',t',hl,J,h=>by
  rw [way_one] at h
  obtain ⟨hk,hus⟩:=hl (k,p) (by simp)
  have e:kSum [(k,p)]=k.length:=by simp [kSum]
  rw [e]
  split at h
  ·exact endL_gr J hk hus h
  ·exact endT_gr J hk hus h
 | (k,p) :: b :: r,t,ns,ns',t',hl,J,h=>by
  rw [way_more] at h
  cases hs:stp ns t k p with
  | error e=>rw [hs] at h;cases h
  | ok z =>
   obtain ⟨t1,ns1⟩:=z
   rw [hs] at h
   obtain ⟨m1,a1,a2⟩:=stp_gr (k:=k) J (hl (k,p) (by simp)).1 (hl (k,p) (by simp)).2 hs
   have a3:m1<=k.length:=a2
   obtain ⟨m2,b1,b2⟩:=way_gr many own (b :: r) t1 ns1 ns' t' (fun x hx=>hl x (by simp only [List.mem_cons] at hx ⊢;exact Or.inr hx)) (stp_ok J hs).1 h
   refine ⟨m1+m2,a1.trans b1,?_⟩
   have e:kSum ((k,p) :: b :: r)=k.length+kSum (b :: r):=by simp [kSum]
   omega
theorem rdKey_len (l:List UInt8) (i:Nat) (k:List UInt8) (j:Nat) (hi:i<=l.length) (h:rdKey l i=.ok (k,j)):k.length+i<=j:=by
 unfold rdKey at h
 split at h
 ·rename_i hx
  have hlt:=nx_lt (l:=l) (i:=i) (by rw [hx];decide)
  obtain ⟨a,b,c⟩:=str_ok l _ (i+1) [] k j (by omega) h
  simp at c
  omega
 ·split at h
  ·cases h
  ·have:=toR_le isBa l i hi
   cases h
   unfold subT
   simp
   omega
theorem hdK_sum (l:List UInt8):∀(f i:Nat) (acc ks:List (List UInt8 × Nat)) (j:Nat),i<=l.length->hdK l f i acc=.ok (ks,j)->kSum ks+i<=kSum acc+j:=by
 intro f
 induction f with
 | zero=>intro i acc ks j hi h;cases h
 | succ f ih =>
  intro i acc ks j hi h
  rw [hdK_step] at h
  have b1:=bl_le l i hi
  cases hk:rdKey l (bl l i) with
  | error e=>rw [hk] at h;cases h
  | ok q =>
   obtain ⟨k,j1⟩:=q
   rw [hk] at h
   simp only [] at h
   obtain ⟨k1,k2,k3⟩:=rdKey_ok l (bl l i) k j1 b1.2 hk
   have k4:=rdKey_len l (bl l i) k j1 b1.2 hk
   have b2:=bl_le l j1 k2
   have e:kSum (acc++[(k,bl l i)])=kSum acc+k.length:=by simp [kSum]
   split at h
   ·rename_i hx
    have hlt:=nx_lt (l:=l) (i:=bl l j1) (by rw [hx];decide)
    have:=ih (bl l j1+1) (acc++[(k,bl l i)]) ks j (by omega) h
    omega
   ·cases h
    omega
theorem hdK_us (l:List UInt8):∀(f i:Nat) (acc ks:List (List UInt8 × Nat)) (j:Nat),(∀x ∈ acc,Us x.1)->hdK l f i acc=.ok (ks,j)->∀x ∈ ks,Us x.1:=by
 intro f
 induction f with
 | zero=>intro i acc ks j ha h;cases h
 | succ f ih =>
  intro i acc ks j ha h
  rw [hdK_step] at h
  cases hk:rdKey l (bl l i) with
  | error e=>rw [hk] at h;cases h
  | ok q =>
   obtain ⟨k,j1⟩:=q
   rw [hk] at h
   simp only [] at h
   have ha':∀x ∈ acc++[(k,bl l i)],Us x.1:=fun x hx=>by
    rcases List.mem_append.1 hx with hx | hx
    ·exact ha x hx
    ·rw [List.mem_singleton.1 hx];exact rdKey_us l _ k j1 hk
   split at h
   ·exact ih _ _ ks j ha' h
   ·cases h
    exact ha'
def Gi (l:List UInt8) (d d':Sd):Prop:=∃m,Gr l.length d.ns d'.ns m/\m+d.i<=d'.i
theorem pair_gr (l:List UInt8) (d d':Sd) (L:Li l d) (h:rdPair l d=.ok d'):Gi l d d':=by
 obtain ⟨i,ns,own,now⟩:=d
 have L1:=L.jt
 have L3:=L.le
 simp only [] at L1 L3
 rw [rdPair_eq] at h
 cases hk:rdKey l i with
 | error e=>rw [hk] at h;cases h
 | ok q =>
  obtain ⟨k,j⟩:=q
  rw [hk] at h
  simp only [] at h
  obtain ⟨k1,k2,k3⟩:=rdKey_ok l i k j L3 hk
  have k4:=rdKey_len l i k j L3 hk
  have b1:=bl_le l j k2
  cases hm:must l (bl l j) 61 with
  | error e=>rw [hm] at h;cases h
  | ok j1 =>
   rw [hm] at h
   simp only [] at h
   obtain ⟨m1,m2⟩:=must_ok l _ _ 61 (by decide) hm
   have b2:=bl_le l j1 (by omega)
   cases hq:kidO ns now k with
   | some q=>rw [hq] at h;cases h
   | none =>
    rw [hq] at h
    simp only [] at h
    cases hv:val l (2 * l.length+2) (bl l j1) now k i 0 ns with
    | error e=>rw [hv] at h;cases h
    | ok z =>
     obtain ⟨j2,ns'⟩:=z
     rw [hv] at h
     have A:=(val_lst_ok l own _).1 (bl l j1) now k i 0 ns j2 ns' b2.2 L1.wf L1.wt L1.lt (by rw [L1.kd];decide) hv
     have a3:=A.fw
     obtain ⟨v1,v2⟩:=(val_lst_gr l _).1 (bl l j1) now k i 0 ns j2 ns' b2.2 L1.lt (Or.inl ⟨L1.kd,rdKey_us l i k j hk⟩) (Ld.top now L1.kd) (by omega) (fun _=>hq) k3 hv
     cases h
     exact ⟨_,v2,by simp only [];omega⟩
theorem head_gr (l:List UInt8) (d d':Sd) (L:Li l d) (hi:d.i < l.length) (h:rdHead l d=.ok d'):Gi l d d':=by
 obtain ⟨i,ns,own,now⟩:=d
 have L1:=L.jt
 have L2:=L.rt
 simp only [] at L1 L2 hi
 obtain ⟨many,hmany⟩:∃many,decide (nx l (i+1)=91)=many:=⟨_,rfl⟩
 rw [rdHead_eq l i ns own now many hmany] at h
 have ha:i+1<=(if many=true then i+2 else i+1)/\(if many=true then i+2 else i+1)<=l.length:=by
  cases many with
  | false=>simp;omega
  | true =>
   have hx:=of_decide_eq_true hmany
   have:=nx_lt (l:=l) (i:=i+1) (by rw [hx];decide)
   simp;omega
 generalize (if many=true then i+2 else i+1)=a at h ha
 cases hk:hdK l (l.length+1) a [] with
 | error e=>rw [hk] at h;cases h
 | ok q =>
  obtain ⟨ks,j⟩:=q
  rw [hk] at h
  simp only [] at h
  obtain ⟨k1,k2,k3,k4⟩:=hdK_ok l _ a [] ks j ha.2 (by simp) hk
  have k5:=hdK_sum l _ a [] ks j ha.2 hk
  have e0:kSum []=0:=rfl
  cases hm:must l j 93 with
  | error e=>rw [hm] at h;cases h
  | ok j1 =>
   rw [hm] at h
   simp only [] at h
   obtain ⟨m1,m2⟩:=must_ok l _ _ 93 (by decide) hm
   have hj2:∀j2,(if many=true then must l j1 93 else (.ok j1:Rs Nat))=.ok j2->j1<=j2:=fun j2 hh=>by
    split at hh
    ·obtain ⟨n1,n2⟩:=must_ok l _ _ 93 (by decide) hh
     omega
    ·cases hh
     omega
   cases hc:(if many=true then must l j1 93 else (.ok j1:Rs Nat)) with
   | error e=>rw [hc] at h;cases h
   | ok j2 =>
    rw [hc] at h
    simp only [] at h
    have c1:=hj2 j2 hc
    cases hw:way many own ks 0 ns with
    | error e=>rw [hw] at h;cases h
    | ok z =>
     obtain ⟨t,ns'⟩:=z
     rw [hw] at h
     obtain ⟨m,g1,g2⟩:=way_gr many own ks 0 ns ns' t (fun x hx=>⟨k1 x hx,hdK_us l _ a [] ks j (by simp) hk x hx⟩) ⟨L1.wf,L1.wt,by have:=L1.lt;omega,L2⟩ hw
     cases h
     exact ⟨m,g1,by simp only [];omega⟩
theorem line_gr (l:List UInt8) (d d':Sd) (L:Li l d) (hi:d.i < l.length) (h:rdLine l d=.ok d'):Gi l d d':=by
 obtain ⟨i,ns,own,now⟩:=d
 simp only [] at hi
 rw [rdLine_eq] at h
 have b1:=bl_le l i (by omega)
 have L':Li l ⟨bl l i,ns,own,now⟩:=li_to L (bl l i) b1.1 b1.2
 cases hm:(if nx l (bl l i)=91 then rdHead l ⟨bl l i,ns,own,now⟩ else if nx l (bl l i)=34\/isBa (nx l (bl l i))=true then rdPair l ⟨bl l i,ns,own,now⟩ else .ok ⟨bl l i,ns,own,now⟩) with
 | error e=>rw [hm] at h;cases h
 | ok d1 =>
  rw [hm] at h
  have mid:Gi l ⟨bl l i,ns,own,now⟩ d1/\d1.i<=l.length:=by
   split at hm
   ·rename_i hx
    have hlt:=nx_lt (l:=l) (i:=bl l i) (by rw [hx];decide)
    exact ⟨head_gr l _ d1 L' hlt hm,(head_ok l _ d1 L' hlt hm).1.le⟩
   ·split at hm
    ·exact ⟨pair_gr l _ d1 L' hm,(pair_ok l _ d1 L' hm).1.le⟩
    ·cases hm
     exact ⟨⟨0,Gr.refl _,by omega⟩,b1.2⟩
  obtain ⟨⟨m,g1,g2⟩,hle⟩:=mid
  simp only [] at g1 g2
  have h2:lnE l d1 (cmt l (bl l d1.i))=.ok d':=h
  have b2:=bl_le l d1.i hle
  have c2:=cmt_le l (bl l d1.i) b2.2
  unfold lnE at h2
  split at h2
  ·cases h2
  ·split at h2
   ·cases h2
    exact ⟨m,g1,by simp only [];omega⟩
   ·cases hq:must l (cmt l (bl l d1.i)).2 10 with
    | error e=>rw [hq] at h2;cases h2
    | ok q =>
     rw [hq] at h2
     obtain ⟨m1,m2⟩:=must_ok l _ _ 10 (by decide) hq
     cases h2
     exact ⟨m,g1,by simp only [];omega⟩
theorem all_gr (l:List UInt8):∀(f:Nat) (d d':Sd),Li l d->rdAll l f d=.ok d'->Gi l d d'
 | 0,d,d',L,h=>by cases h;exact ⟨0,Gr.refl _,by omega⟩
 | f+1,d,d',L,h=>by
  rw [rdAll_step] at h
  split at h
  ·cases h;exact ⟨0,Gr.refl _,by omega⟩
  ·cases hr:rdLine l d with
   | error e=>rw [hr] at h;cases h
   | ok d1 =>
    rw [hr] at h
    obtain ⟨m1,a1,a2⟩:=line_gr l d d1 L (by omega) hr
    obtain ⟨m2,b1,b2⟩:=all_gr l f d1 d' (line_ok l d d1 L (by omega) hr).1 h
    exact ⟨m1+m2,a1.trans b1,by omega⟩
theorem toml_tv (l:List UInt8) (ns:List Tn) (h:rdToml l=.ok ns):Tv 100000 ns 100000/\∃own,WF ns own/\ns.length<=200001:=by
 obtain ⟨own,now,J,-,hn,hl⟩:=toml_ok l ns h
 refine ⟨?_,own,J.wf,hn⟩
 rw [rdToml_eq] at h
 split at h
 ·cases h
 ·cases ha:rdAll l (l.length+1) ⟨0,[⟨0,[],[],0,[],0⟩],[],0⟩ with
  | error e=>rw [ha] at h;cases h
  | ok d =>
   rw [ha] at h
   cases h
   obtain ⟨m,g1,g2⟩:=all_gr l _ _ _ (li_start l) ha
   have hle:=(rdAll_li l _ _ _ (li_start l) ha).le
   have T:=g1.tv (tv_start l.length)
   exact ⟨T.lt,T.gt,T.nod,T.kdd,T.two,T.root,fun x hx=>by
    obtain ⟨a,b,c⟩:=T.txt x hx
    exact ⟨by omega,by omega,c⟩,by have:=T.sum;simp only [] at g2;omega,T.shp,T.dep,T.par,T.rt⟩
end Go.Proofs.YtbgnflcebafjjaaGreatDoor
namespace Go.Proofs.YtbgnflcebafjjaaGreatDoor
open Go.RowKit Go.Joins
set_option linter.unusedVariables false
def sub (ns:List Tn):Nat->Nat->List Nat
 | 0,_=>[]
 | f+1,q=>q :: (ksAt ns q).flatMap (sub ns f)
theorem sub_ge {ns:List Tn} {own:List Nat} (E:Ef ns own):∀(f q x:Nat),x ∈ sub ns f q->q<=x/\(q < ns.length->x < ns.length)
 | 0,q,x,h=>by cases h
 | f+1,q,x,h=>by
  rw [sub,List.mem_cons,List.mem_flatMap] at h
  rcases h with rfl | ⟨k,hk,hx⟩
  ·exact ⟨Nat.le_refl _,id⟩
  ·have h1:=sub_ge E f k x hx
   have h2:=E.gt _ _ hk
   exact ⟨by omega,fun _=>h1.2 (E.wf.lt _ _ hk)⟩
theorem sub_par {ns:List Tn}:∀(f q x:Nat),x ∈ sub ns f q->x=q\/∃y ∈ sub ns f q,x ∈ ksAt ns y
 | 0,q,x,h=>by cases h
 | f+1,q,x,h=>by
  rw [sub,List.mem_cons,List.mem_flatMap] at h
  rcases h with rfl | ⟨k,hk,hx⟩
  ·exact Or.inl rfl
  ·right
   rcases sub_par f k x hx with rfl | ⟨y,hy,hxy⟩
   ·exact ⟨q,by rw [sub];simp,hk⟩
   ·exact ⟨y,by rw [sub,List.mem_cons,List.mem_flatMap];exact Or.inr ⟨k,hk,hy⟩,hxy⟩
theorem sub_apart {ns:List Tn} {own:List Nat} (E:Ef ns own) {p k k':Nat} (hk:k ∈ ksAt ns p) (hk':k' ∈ ksAt ns p) (hne:k ≠ k') (f:Nat):∀n x,x<=n->x ∈ sub ns f k->x ∈ sub ns f k'->False:=by
 have low:∀k,k ∈ ksAt ns p->¬ p ∈ sub ns f k:=fun k hk h=>by
  have:=(sub_ge E f k p h).1
  have:=E.gt _ _ hk
  omega
 intro n
 induction n with
 | zero =>
  intro x hx h _
  have h1:=(sub_ge E f k x h).1
  have h2:=E.gt _ _ hk
  omega
 | succ n ih =>
  intro x hx h h'
  rcases sub_par f k x h with e | ⟨y,hy,hxy⟩ <;> rcases sub_par f k' x h' with e' | ⟨y',hy',hxy'⟩
  ·exact hne (e.symm.trans e')
  ·rw [e] at hxy'
   have:=E.wf.par _ _ _ hk hxy'
   subst this
   exact low k' hk' hy'
  ·rw [e'] at hxy
   have:=E.wf.par _ _ _ hk' hxy
   subst this
   exact low k hk hy
  ·have:=E.wf.par _ _ _ hxy hxy'
   subst this
   have:=E.gt _ _ hxy
   exact ih y (by omega) hy hy'
theorem sub_nodup {ns:List Tn} {own:List Nat} (E:Ef ns own):∀(f q:Nat),(sub ns f q).Nodup
 | 0,q=>List.nodup_nil
 | f+1,q=>by
  rw [sub,List.nodup_cons]
  refine ⟨fun h=>?_,?_⟩
  ·rw [List.mem_flatMap] at h
   obtain ⟨k,hk,hx⟩:=h
   have:=(sub_ge E f k q hx).1
   have:=E.gt _ _ hk
   omega
  ·unfold List.Nodup
   rw [List.pairwise_flatMap]
   refine ⟨fun k _=>sub_nodup E f k,?_⟩
   refine List.Pairwise.imp_of_mem ?_ (E.nod q)
   intro a b ha hb hab x hx y hy hxy
   subst hxy
   exact sub_apart E ha hb hab f x x (Nat.le_refl _) hx hy
def cnt (ns:List Tn) (f q:Nat):Nat:=(sub ns f q).length
theorem cnt_step (ns:List Tn) (f q:Nat):cnt ns (f+1) q=1+((ksAt ns q).map (cnt ns f)).sum:=by
 unfold cnt
 rw [sub,List.length_cons,List.length_flatMap]
 omega
theorem cnt_le {ns:List Tn} {own:List Nat} (E:Ef ns own) (f q:Nat) (hq:q < ns.length):cnt ns f q<=ns.length :=
 nodup_le _ _ (sub_nodup E f q) fun x hx=>(sub_ge E f q x hx).2 hq
theorem cnt_fuel {ns:List Tn} {own:List Nat} (E:Ef ns own):∀(f f' t:Nat),t < ns.length->ns.length - t<=f->ns.length - t<=f'->cnt ns f t=cnt ns f' t:=by
 intro f
 induction f with
 | zero=>intro f' t ht h;omega
 | succ f ih =>
  intro f' t ht h h'
  obtain ⟨f',rfl⟩:∃g,f'=g+1:=⟨f' - 1,by omega⟩
  rw [cnt_step,cnt_step]
  congr 2
  refine List.map_congr_left fun q hq=>?_
  have h1:=E.gt _ _ hq
  have h2:=E.wf.lt _ _ hq
  exact ih f' q h2 (by omega) (by omega)
def mw (ns:List Tn) (q:Nat):Nat:=2000000 * cnt ns ns.length q
theorem mw_eq {ns:List Tn} {own:List Nat} (E:Ef ns own) (q:Nat) (hq:q < ns.length):mw ns q=2000000+((ksAt ns q).map (mw ns)).sum:=by
 unfold mw
 obtain ⟨f,hf⟩:∃f,ns.length=f+1:=⟨ns.length - 1,by omega⟩
 have e:cnt ns ns.length q=1+((ksAt ns q).map (cnt ns ns.length)).sum:=by
  conv=>lhs;rw [hf,cnt_step]
  congr 2
  refine List.map_congr_left fun k hk=>?_
  have h1:=E.gt _ _ hk
  have h2:=E.wf.lt _ _ hk
  exact cnt_fuel E _ _ k h2 (by omega) (by omega)
 rw [e,Nat.mul_add,Nat.mul_one]
 congr 1
 have:∀l:List Nat,2000000 * (l.map (cnt ns ns.length)).sum=(l.map fun q=>2000000 * cnt ns ns.length q).sum:=fun l=>by
  induction l with
  | nil=>rfl
  | cons a r ih=>simp only [List.map_cons,List.sum_cons,Nat.mul_add,ih]
 exact this _
theorem cm_len:∀(b:Bool) (l:List (List UInt8)),(cm b l).length<=(l.map fun x=>x.length+2).sum
 | b,[]=>by simp [cm]
 | b,a :: r=>by
  rw [cm,List.length_append,List.length_append,List.map_cons,List.sum_cons]
  have:=cm_len false r
  have h2:(if b=true then ([]:List UInt8) else [44,32]).length<=2:=by split <;> simp
  omega
theorem sum_le {α:Type} (f g:α->Nat):∀l:List α,(∀x ∈ l,f x<=g x)->(l.map f).sum<=(l.map g).sum
 | [],_=>Nat.le_refl _
 | a :: r,h=>by
  rw [List.map_cons,List.map_cons,List.sum_cons,List.sum_cons]
  have:=sum_le f g r fun x hx=>h x (by simp [hx])
  have:=h a (by simp)
  omega
theorem vT_len {ns:List Tn} {own:List Nat} (E:Ef ns own) (T:Tv 100000 ns 100000):∀(f q:Nat),q < ns.length->ns.length - q<=f->(vT ns f q).length+1000000<=mw ns q:=by
 intro f
 induction f with
 | zero=>intro q hq h;omega
 | succ f ih =>
  intro q hq h
  have hx:=T.txt ns[q] (List.getElem_mem hq)
  rw [vT_step ns f q hq,mw_eq E q hq,ksAt_in hq]
  split
  ·have h1:=cm_len true (ns[q].ks.map (vT ns f))
   rw [List.map_map] at h1
   have h2:=sum_le (fun k=>(vT ns f k).length+2) (mw ns) ns[q].ks (fun k hk=>by
    have hk':k ∈ ksAt ns q:=by rw [ksAt_in hq];exact hk
    have g1:=E.gt _ _ hk'
    have:=ih k (E.wf.lt _ _ hk') (by omega)
    omega)
   have e:((fun x:List UInt8=>x.length+2) ∘ vT ns f)=fun k=>(vT ns f k).length+2:=rfl
   rw [e] at h1
   simp only [List.length_append,List.length_cons,List.length_nil]
   omega
  ·split
   ·have:=(qt_len ns[q].tx).2
    omega
   ·split
    ·have:=Lib.itoa_length_le ns[q].nu (by omega) (by omega)
     omega
    ·split
     ·have:(Lib.formatBool (decide (ns[q].nu=1))).length<=5:=by cases decide (ns[q].nu=1) <;> decide
      omega
     ·simp
      omega
def ps (ns:List Tn) (q:Nat):Nat:=((ns.take q).map fun x=>6 * x.ky.length+3).sum
theorem ps_succ (ns:List Tn) (q:Nat) (hq:q < ns.length):ps ns (q+1)=ps ns q+(6 * ns[q].ky.length+3):=by
 unfold ps
 rw [List.take_succ_eq_append_getElem hq,List.map_append,List.sum_append]
 simp
theorem ps_mono (ns:List Tn) {p q:Nat} (h:p<=q):ps ns p<=ps ns q:=by
 obtain ⟨d,rfl⟩:∃d,q=p+d:=⟨q - p,by omega⟩
 induction d with
 | zero=>exact Nat.le_refl _
 | succ d ih =>
  by_cases hl:p+d < ns.length
  ·have:=ps_succ ns (p+d) hl
   have:=ih (by omega)
   show _<=ps ns (p+d+1)
   omega
  ·have e:ps ns (p+(d+1))=ps ns (p+d):=by
    unfold ps
    rw [List.take_of_length_le (by omega),List.take_of_length_le (by omega)]
   rw [e]
   exact ih (by omega)
theorem ps_max {ns:List Tn} (T:Tv 100000 ns 100000) (hn:ns.length<=200001) (q:Nat):ps ns q<=1200003:=by
 have h1:ps ns q<=ps ns (q+ns.length):=ps_mono ns (by omega)
 have e:ps ns (q+ns.length)=(ns.map fun x=>6 * x.ky.length+3).sum:=by
  unfold ps
  rw [List.take_of_length_le (by omega)]
 have h2:∀l:List Tn,(l.map fun x=>6 * x.ky.length+3).sum=6 * (l.map fun x=>x.ky.length).sum+3 * l.length:=fun l=>by
  induction l with
  | nil=>rfl
  | cons a r ih=>simp only [List.map_cons,List.sum_cons,List.length_cons,ih];omega
 have:=T.sum
 rw [e,h2] at h1
 omega
def Pw (ns:List Tn) (td:List Vt):Prop:=∀v ∈ td,v.t < ns.length/\∃k,k<=v.t/\v.ky=kyAt ns k/\v.ab<=ps ns k
theorem flat_sum {α β:Type} (f:α->List β) (g:β->Nat):∀l:List α,((l.flatMap f).map g).sum=(l.map fun a=>((f a).map g).sum).sum
 | []=>rfl
 | a :: r=>by rw [List.flatMap_cons,List.map_append,List.sum_append,List.map_cons,List.sum_cons,flat_sum f g r]
theorem tab_len {ns:List Tn} {own:List Nat} (E:Ef ns own) (T:Tv 100000 ns 100000) (t pl:Nat) (ht:t < ns.length):(prT ns t).length+((belT ns t pl).map fun v=>mw ns v.t).sum+2000000<=mw ns t:=by
 rw [mw_eq E t ht]
 have e1:(prT ns t).length=((srt ns t).map fun k=>(pr1 ns k).length).sum:=by
  unfold prT
  rw [List.length_flatMap]
 have e2:((belT ns t pl).map fun v=>mw ns v.t).sum=((srt ns t).map fun k=>((vs1 ns pl k).map fun v=>mw ns v.t).sum).sum:=by
  unfold belT
  rw [flat_sum,List.map_reverse,List.sum_reverse]
 have e3:((ksAt ns t).map (mw ns)).sum=((srt ns t).map (mw ns)).sum:=((srt_perm ns t).map _).sum_nat.symm
 have add:∀l:List Nat,(l.map fun k=>(pr1 ns k).length).sum+(l.map fun k=>((vs1 ns pl k).map fun v=>mw ns v.t).sum).sum=(l.map fun k=>(pr1 ns k).length+((vs1 ns pl k).map fun v=>mw ns v.t).sum).sum:=fun l=>by
  induction l with
  | nil=>rfl
  | cons a r ih=>simp only [List.map_cons,List.sum_cons];omega
 rw [e1,e2,add,e3]
 have:=sum_le (fun k=>(pr1 ns k).length+((vs1 ns pl k).map fun v=>mw ns v.t).sum) (mw ns) (srt ns t) (fun k hk=>by
  have hkt:=srt_mem hk
  have hkl:=E.wf.lt _ _ hkt
  unfold pr1 vs1
  by_cases h0:kdAt ns k=0
  ·rw [if_pos (Or.inl h0),if_pos h0]
   simp
  ·by_cases h2:kdAt ns k=2
   ·rw [if_pos (Or.inr h2),if_neg h0,if_pos h2,List.map_map,mw_eq E k hkl]
    have e:((fun v:Vt=>mw ns v.t) ∘ fun m=>(⟨m,kyAt ns k,true,pl⟩:Vt))=mw ns:=rfl
    rw [e,List.map_reverse,List.sum_reverse]
    simp
   ·rw [if_neg (by rintro (h | h);exact h0 h;exact h2 h),if_neg h0,if_neg h2]
    have h3:=vT_len E T ns.length k hkl (by omega)
    have h4:=(kt_len (kyAt ns k)).2
    rw [kyAt_in hkl] at h4 ⊢
    have h5:=(T.txt ns[k] (List.getElem_mem hkl)).1
    simp only [List.length_append,List.length_cons,List.length_nil,List.map_nil,List.sum_nil]
    omega)
 omega
theorem hdT_len (out path:List UInt8) (dbl:Bool):(hdT out path dbl).length<=path.length+6:=by
 unfold hdT
 have h1:(if out=[] then ([]:List UInt8) else [10]).length<=1:=by split <;> simp
 have h2:(if dbl=true then ([91,91]:List UInt8) else [91]).length<=2:=by split <;> simp
 have h3:(if dbl=true then ([93,93,10]:List UInt8) else [93,10]).length<=3:=by split <;> simp
 simp only [List.length_append]
 omega
theorem fmO_max {ns:List Tn} {own:List Nat} (E:Ef ns own) (T:Tv 100000 ns 100000) (hn:ns.length<=200001):∀(f:Nat) (out path:List UInt8) (td:List Vt) (R:List UInt8),Pw ns td->fmO ns f out path td=some R->R.length<=out.length+(td.map fun v=>mw ns v.t).sum
 | 0,_,_,_,_,_,h=>by cases h
 | f+1,out,path,td,R,hw,h=>by
  rcases snoc_cases td with rfl | ⟨r,x,rfl⟩
  ·rw [fmO_nil] at h;cases h;simp
  ·rw [fmO_snoc] at h
   obtain ⟨hxl,k,hk1,hk2,hk3⟩:=hw x (by simp)
   have hkl:k < ns.length:=by omega
   have hp:(pathN path x.ab x.ky).length<=ps ns (k+1):=by
    unfold pathN
    rw [List.length_append,List.length_append,List.length_take,ps_succ ns k hkl]
    have h1:(if 0 < x.ab then ([46]:List UInt8) else []).length<=1:=by split <;> simp
    have h2:=(kt_len x.ky).2
    rw [hk2,kyAt_in hkl] at h2 ⊢
    omega
   have hpm:=ps_max T hn (k+1)
   have hb:=tab_len E T x.t (pathN path x.ab x.ky).length hxl
   have hh:=hdT_len out (pathN path x.ab x.ky) x.dbl
   have ih:=fmO_max E T hn f _ _ _ _ (fun v hv=>by
    rw [List.mem_append] at hv
    rcases hv with hv | hv
    ·exact hw v (by simp [hv])
    ·obtain ⟨h1,k',h2,h3,h4⟩:=belT_mem hv
     have h5:=bk_tab E (belT_bk hv)
     have g1:=E.gt _ _ h2
     refine ⟨h5.2.1,k',?_,h3,?_⟩
     ·rcases h4 with ⟨-,e⟩ | ⟨-,e⟩
      ·omega
      ·have:=E.gt _ _ e
       omega
     ·rw [h1]
      have:=ps_mono ns (p:=k+1) (q:=k') (by omega)
      omega) h
   rw [List.map_append,List.sum_append] at ih ⊢
   simp only [List.length_append,List.map_cons,List.map_nil,List.sum_cons,List.sum_nil] at ih ⊢
   omega
theorem fmT_max {ns:List Tn} {own:List Nat} (E:Ef ns own) (T:Tv 100000 ns 100000) (hn:ns.length<=200001):(fmT ns).length<=70368744177664:=by
 have h:=fmO_max E T hn _ _ _ _ _ (fun v hv=>by
  obtain ⟨h1,k',h2,h3,h4⟩:=belT_mem hv
  have h5:=bk_tab E (belT_bk hv)
  refine ⟨h5.2.1,k',?_,h3,by rw [h1];exact Nat.zero_le _⟩
  rcases h4 with ⟨-,e⟩ | ⟨-,e⟩
  ·omega
  ·have:=E.gt _ _ e
   omega) (fmT_eq E)
 have hb:=tab_len E T 0 0 E.root.1
 have hc:=cnt_le E ns.length 0 E.root.1
 unfold mw at hb
 have hm:2000000 * cnt ns ns.length 0<=2000000 * 200001:=Nat.mul_le_mul_left _ (by omega)
 have e:∀v:Vt,mw ns v.t=2000000 * cnt ns ns.length v.t:=fun _=>rfl
 simp only [e] at h
 omega
end Go.Proofs.YtbgnflcebafjjaaGreatDoor
namespace Go.Proofs.YtbgnflcebafjjaaGreatDoor
open Go.RowKit Go.Maps Go.WideMaps Go.Joins Go.Shelf
set_option linter.unusedVariables false
theorem nv_of {w:World} {B T:Nat} {ns:List Tn} {now N c M:Nat} {xs:List Value} {ks:Nat->Value} {n:Nat} {f:Nat->List UInt8->Option (Nat × Bool)} (h:TrD w B T ns now N c M xs ks n f):Nv w (.slice (some ⟨N,0,none⟩) ns.length c) N c ns:=by
 refine ⟨rfl,fun i hi=>?_⟩
 obtain ⟨h0,h1,h2,h3,h4,h5,-⟩:=h.node i hi
 exact ⟨ks i,h0,h1,h2,h3,h4,h5,NuS.of (h.kid i hi)⟩
def PnPost (r:Rs (List Tn)) (w:World) (e:Ending) (w':World):Prop :=
 (∀ns,r=.ok ns->e=.returned (.tuple #[.string ⟨(fmT ns).toArray⟩,.int .i64 0,.int .i64 0])) ∧
 (∀c p,r=.error (c,p)->e=.returned (.tuple #[.string ⟨#[]⟩,.int .i64 c,.int .i64 (p:Nat)]))/\w.grownBy w' none
set_option maxRecDepth 100000 in
set_option maxHeartbeats 3200000 in
theorem tPrint_any (s:ByteArray) (E:Int->TypeId × Value) (b:Int->Addr) (w:World) (G:Gl w w.heap.size E) (S:Sn w E b) (TB:Tab w) (hmx:s.size < 2 ^ 62) :
  Calls Tryz.prog 11 #[.string s] w (PnPost (rdToml s.data.toList) w):=by
 have CR:Hid (Calls Tryz.prog 15 #[.string s] w (RdPost s E (rdToml s.data.toList) w)):=tRead_any s E w G S.lo hmx
 have HER:Hid (∀c p,rdToml s.data.toList=.error (c,p)->(c=1/\p=0)\/(2<=c/\c<=5)):=er_toml _
 have CTL:Hid (∀w',w.grownBy w' none->Calls Tryz.prog 16 #[.iface (E 1).1 (E 1).2] w' fun e w''=>e=.returned (.tuple #[.int .i64 1,.int .i64 0])/\w'.grownBy w'' none):=fun w' hg=>tTold_long E b w' (S.grow hg)
 have CTF:Hid (∀w' F (c:Int) p,w.grownBy w' none->1<=c->c<=5->w'.heap[F]?=some (.cells #[.int .i64 (p:Nat),.iface (E c).1 (E c).2] 69 (0,0))->Calls Tryz.prog 16 #[.iface 65 (.pointer (some ⟨F,0,none⟩))] w' fun e w''=>e=.returned (.tuple #[.int .i64 c,.int .i64 (p:Nat)])/\w'.grownBy w'' none):=fun w' F c p hg h1 h2 hF=>by
  have G1:Gl w' w.heap.size E:=G.bel (gb_below hg)
  have hsz:=hg.size
  exact tTold_fault E b w' F c p ⟨G1.es,⟨Nat.lt_of_lt_of_le G1.lo.te hsz,Nat.lt_of_lt_of_le G1.lo.ra hsz,Nat.lt_of_lt_of_le G1.lo.ma hsz,Nat.lt_of_lt_of_le G1.lo.tw hsz⟩,G1.tabs,Nat.lt_of_lt_of_le G1.t3 hsz,Nat.lt_of_lt_of_le G1.t4 hsz⟩ (S.grow hg) h1 h2 hF
 have HE1:Hid (E 1=(235,.pointer (some (b 1)))):=S.ptr 1 (by decide) (by decide)
 have HFO:Hid (∀ns,rdToml s.data.toList=.ok ns->∀w' N c,w.grownBy w' none->Nv w' (.slice (some ⟨N,0,none⟩) ns.length c) N c ns->Calls Tryz.prog 20 #[.slice (some ⟨N,0,none⟩) ns.length c] w' fun e w''=>e=.returned (.string ⟨(fmT ns).toArray⟩)/\w'.grownBy w'' none):=fun ns h w' N c hg hnv=>by
  obtain ⟨T,own,W,hn⟩:=toml_tv _ ns h
  have F:Ef ns own:=⟨W,T.gt,T.nod,T.kdd,T.two,T.root,fun i hi=>by have:=(T.txt ns[i] (List.getElem_mem hi)).1;omega⟩
  refine pForm ⟨hnv,W,T.gt,by omega,fun i hi=>?_,fun i hi=>?_,tab_grow TB hg⟩ F (fmT_max F T hn)
  ·have:=T.txt ns[i] (List.getElem_mem hi)
   omega
  ·have:=T.txt ns[i] (List.getElem_mem hi)
   omega
 obtain ⟨X,hX⟩:∃X,rdToml s.data.toList=X:=⟨_,rfl⟩
 rw [hX] at CR HER HFO ⊢
 clear G S hX TB
 go_enter Tryz.func11,Tryz.ntmps11
 go_wp2_with (first | (go_at_call 15;refine CR.out.mono ?_))
 rintro e w2 ⟨h1,h2,hg2⟩
 have HG2:Hid (w.grownBy w2 none):=hg2
 clear hg2
 match X,h1,h2,HER,HFO with
 | .ok ns,h1,_,_,HFO =>
  obtain ⟨N,c,M,T,xs,ks,now,n,f,rfl,hD⟩:=h1 ns rfl
  have HD:Hid (TrD w2 w.heap.size T ns now N c M xs ks n f):=hD
  have CF:Hid (Calls Tryz.prog 20 #[.slice (some ⟨N,0,none⟩) ns.length c] w2 fun e w'=>e=.returned (.string ⟨(fmT ns).toArray⟩)/\w2.grownBy w' none):=HFO.out ns rfl w2 N c HG2.out (nv_of hD)
  clear h1 h2 hD HD
  go_wp2_with (first | (go_at_call 20;refine CF.out.mono ?_;rintro e w3 ⟨rfl,hg3⟩))
  refine bodyPost_ret (results_tmp3 (t:=2) (u:=3) (v:=4) rfl _ _ _) rfl ?_
  exact ⟨fun ns' hh=>(by injection hh with hh;subst hh;rfl),fun c p hh=>(by cases hh),gb_trans HG2.out hg3⟩
 | .error (c,p),_,h2,HER,_ =>
  obtain ⟨v,rfl,hor⟩:=h2 c p rfl
  have hrg:=HER.out c p rfl
  rcases hor with ⟨hc1,hv⟩ | ⟨F,hv,hF⟩
  ·obtain ⟨-,hp0⟩:c=1/\p=0:=by rcases hrg with h | h;exact h;omega
   subst hc1 hp0
   have CT:Hid (Calls Tryz.prog 16 #[.iface 235 (.pointer (some (b 1)))] w2 fun e w''=>e=.returned (.tuple #[.int .i64 1,.int .i64 0])/\w2.grownBy w'' none):=by
    have:=CTL.out w2 HG2.out
    rw [HE1.out] at this
    exact this
   rw [HE1.out] at hv
   obtain rfl:=hv
   clear h1 h2 hrg CTF CTL
   go_wp2_with (first | (go_at_call 16;refine CT.out.mono ?_;rintro e w3 ⟨rfl,hg3⟩))
   refine bodyPost_ret (results_tmp3 (t:=2) (u:=3) (v:=4) rfl _ _ _) rfl ?_
   exact ⟨fun ns' hh=>(by cases hh),fun c p hh=>(by cases hh;rfl),gb_trans HG2.out hg3⟩
  ·have CT:Hid (Calls Tryz.prog 16 #[.iface 65 (.pointer (some ⟨F,0,none⟩))] w2 fun e w''=>e=.returned (.tuple #[.int .i64 c,.int .i64 (p:Nat)])/\w2.grownBy w'' none):=CTF.out w2 F c p HG2.out (by omega) (by omega) hF
   obtain rfl:=hv
   clear h1 h2 hrg CTF CTL hF
   go_wp2_with (first | (go_at_call 16;refine CT.out.mono ?_;rintro e w3 ⟨rfl,hg3⟩))
   refine bodyPost_ret (results_tmp3 (t:=2) (u:=3) (v:=4) rfl _ _ _) rfl ?_
   exact ⟨fun ns' hh=>(by cases hh),fun c' p' hh=>(by injection hh with hh;injection hh with e1 e2;subst e1 e2;rfl),gb_trans HG2.out hg3⟩
def ft:Rs (List Tn)->List UInt8
 | .ok ns=>fmT ns
 | .error _=>[]
def fe:Rs (List Tn)->Int
 | .ok _=>0
 | .error (c,_)=>c
def fp:Rs (List Tn)->Nat
 | .ok _=>0
 | .error (_,p)=>p
theorem pn_val {X:Rs (List Tn)} {w w':World} {e:Ending} (h:PnPost X w e w'):e=.returned (.tuple #[.string ⟨(ft X).toArray⟩,.int .i64 (fe X),.int .i64 (fp X:Nat)])/\w.grownBy w' none:=by
 obtain ⟨h1,h2,h3⟩:=h
 match X,h1,h2 with
 | .ok ns,h1,_=>exact ⟨h1 ns rfl,h3⟩
 | .error (c,p),_,h2=>exact ⟨h2 c p rfl,h3⟩
end Go.Proofs.YtbgnflcebafjjaaGreatDoor
