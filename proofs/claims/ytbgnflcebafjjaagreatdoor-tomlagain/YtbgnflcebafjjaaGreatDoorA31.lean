import Derived.Test.YtbgnflcebafjjaaGreatDoorA21
import Derived.Test.YtbgnflcebafjjaaGreatDoorA30
import Derived.Test.YtbgnflcebafjjaaGreatDoorA18
namespace Go.Proofs.YtbgnflcebafjjaaGreatDoor
open Go.RowKit Go.Joins
set_option linter.unusedVariables false
theorem rdInt_num (l:List UInt8) (i:Nat) (n:Int) (j:Nat) (hi:i < l.length) (h:rdInt l i=.ok (n,j)):-1000000000000000000 < n/\n < 1000000000000000000:=by
 unfold rdInt at h
 simp only [] at h
 have ha:(if isDg (nx l i)=true then i else i+1)<=l.length:=by split <;> omega
 generalize (if isDg (nx l i)=true then i else i+1)=a at h ha
 have hj:=toR_le isDg l a ha
 split at h
 ·cases h
 ·split at h
  ·cases h
  ·have hb:=(int_low l a (toR isDg l a) (fun c hc=>by
    have:=toR_all isDg l a c hc
    unfold isDg at this
    have:=of_decide_eq_true this
    omega) hj.1 hj.2 (by omega)).2
   cases h
   split <;> omega
theorem rdTru_num (l:List UInt8) (i:Nat) (n:Int) (j:Nat) (h:rdTru l i=.ok (n,j)):n=0\/n=1:=by
 rw [rdTru_eq] at h
 split at h
 ·cases h;decide
 ·split at h
  ·cases h;decide
  ·cases h
theorem us_low:∀(s:List UInt8),(∀c ∈ s,c.toNat < 128)->Us s
 | [],_=>Us.nil
 | c :: s,h=>(us_one c (h c (by simp))).app (us_low s fun b hb=>h b (by simp [hb]))
theorem rdKey_us (l:List UInt8) (i:Nat) (k:List UInt8) (j:Nat) (h:rdKey l i=.ok (k,j)):Us k:=by
 unfold rdKey at h
 split at h
 ·exact str_us l _ _ [] k j Us.nil h
 ·split at h
  ·cases h
  ·injection h with h
   injection h with h1 h2
   rw [<-h1]
   refine us_low _ fun c hc=>?_
   have:=toR_all isBa l i c hc
   unfold isBa isSm isDg at this
   simp at this
   omega
theorem val_lst_gr (l:List UInt8):∀f:Nat,(∀i up k p d ns j ns',i<=l.length->up < ns.length->((kdAt ns up=0/\Us k)\/(kdAt ns up=1/\k=[]))->Ld ns up d->d<=8->(kdAt ns up=0->kidO ns up k=none)->k.length<=l.length->val l f i up k p d ns=.ok (j,ns')->j<=l.length/\Gr l.length ns ns' k.length)/\(∀i up d ns j ns',i<=l.length->up < ns.length->kdAt ns up=1->Ld ns up d->d<=8->lst l f i up d ns=.ok (j,ns')->j<=l.length/\Gr l.length ns ns' 0):=by
 intro f
 induction f with
 | zero =>
  refine ⟨fun i up k p d ns j ns' _ _ _ _ _ _ _ h=>?_,fun i up d ns j ns' _ _ _ _ _ h=>?_⟩
  ·rw [val] at h;cases h
  ·rw [lst] at h;cases h
 | succ f ih =>
  refine ⟨fun i up k p d ns j ns' hi hu h2 hld hd hf hk h=>?_,fun i up d ns j ns' hi hu h1 hld hd h=>?_⟩
  ·have one:∀x:Tn,x.ks=[]->x.ky=k->x.tx.length<=l.length->-1000000000000000000<=x.nu/\x.nu<=1000000000000000000->(x.kd=1\/x.kd=3\/x.kd=4\/x.kd=5)->(if x.kd=3 then Us x.tx else x.tx=[])->(if x.kd=4 then -1000000000000000000 < x.nu/\x.nu < 1000000000000000000 else if x.kd=5 then x.nu=0\/x.nu=1 else x.nu=0)->(x.kd=1->d < 8)->Gr l.length ns (addN ns up x) k.length:=fun x a b c e f g g2 g3=>by
    have:=Gr.one (n:=l.length) (x:=x) hu ⟨a,by rw [b];exact hk,c,e,fun e=>by rw [b];exact hf e,fun e=>(by rcases h2 with h2 | h2 <;> rw [e] at h2 <;> exact absurd h2.1 (by decide)),⟨by
     rw [b]
     rcases h2 with ⟨h2,h3⟩ | ⟨h2,h3⟩
     ·exact Or.inl ⟨h2,h3,by omega,by omega⟩
     ·exact Or.inr (Or.inl ⟨h2,h3,f⟩),g,g2⟩,fun e=>⟨d,g3 e,hld⟩⟩
    rwa [b] at this
   rw [val_step] at h
   split at h
   ·rename_i hx
    have hlt:=nx_lt (l:=l) (i:=i) (by rw [hx];decide)
    cases hs:str l (l.length+1) (i+1) [] with
    | error e=>rw [hs] at h;cases h
    | ok q =>
     obtain ⟨t,j'⟩:=q
     rw [hs] at h
     obtain ⟨a,b,c⟩:=str_ok l _ (i+1) [] t j' (by omega) hs
     simp only [List.length_nil] at c
     have hus:=str_us l _ _ [] t j' Us.nil hs
     cases h
     exact ⟨b,one ⟨3,k,t,0,[],p⟩ rfl rfl (by simp only [];omega) (by simp) (by simp) (by simpa using hus) (by simp) (by simp)⟩
   ·split at h
    ·rename_i hx
     have hlt:i < l.length:=by
      apply nx_lt
      rcases hx with hx | hx | hx
      ·rw [hx];decide
      ·rw [hx];decide
      ·have:=of_decide_eq_true hx;omega
     cases hs:rdInt l i with
     | error e=>rw [hs] at h;cases h
     | ok q =>
      obtain ⟨t,j'⟩:=q
      rw [hs] at h
      obtain ⟨a,b⟩:=rdInt_ok l i t j' hlt hs
      have c:=rdInt_num l i t j' hlt hs
      cases h
      exact ⟨b,one ⟨4,k,[],t,[],p⟩ rfl rfl (by simp) (by simp only [];omega) (by simp) (by simp) (by simpa using c) (by simp)⟩
    ·split at h
     ·cases hs:rdTru l i with
      | error e=>rw [hs] at h;cases h
      | ok q =>
       obtain ⟨t,j'⟩:=q
       rw [hs] at h
       obtain ⟨a,b⟩:=rdTru_ok l i t j' hi hs
       have c:=rdTru_num l i t j' hs
       cases h
       exact ⟨b,one ⟨5,k,[],t,[],p⟩ rfl rfl (by simp) (by simp only [];omega) (by simp) (by simp) (by simpa using c) (by simp)⟩
     ·split at h
      ·rename_i hx
       have hlt:=nx_lt (l:=l) (i:=i) (by rw [hx];decide)
       split at h
       ·cases h
       ·rename_i hd8
        have A:=one ⟨1,k,[],0,[],p⟩ rfl rfl (by simp) (by simp) (by simp) (by simp) (by simp) (fun _=>by omega)
        have k1:kdAt (addN ns up ⟨1,k,[],0,[],p⟩) ns.length=1:=by rw [kdAt_addN ns up _ hu,if_pos rfl]
        obtain ⟨a1,a2⟩:=ih.2 (i+1) ns.length (d+1) _ j ns' (by omega) (by rw [addN_len];omega) k1 (Ld.kid up ns.length d k1 (by rw [ksAt_addN ns up _ hu,if_neg (by omega),if_pos rfl];simp) (hld.addN hu)) (by omega) h
        exact ⟨a1,A.trans a2⟩
      ·cases h
  ·rw [lst_step] at h
   cases hg:gap l (l.length+1) i with
   | error e=>rw [hg] at h;cases h
   | ok j0 =>
    rw [hg] at h
    simp only [] at h
    obtain ⟨g1,g2⟩:=gap_ok l _ i j0 hi hg
    split at h
    ·rename_i hx
     have hlt:=nx_lt (l:=l) (i:=j0) (by rw [hx];decide)
     cases h
     exact ⟨by omega,Gr.refl _⟩
    ·cases hv:val l f j0 up [] j0 d ns with
     | error e=>rw [hv] at h;cases h
     | ok q =>
      obtain ⟨j1,ns1⟩:=q
      rw [hv] at h
      simp only [] at h
      obtain ⟨v1,v2⟩:=ih.1 j0 up [] j0 d ns j1 ns1 g2 hu (Or.inr ⟨h1,rfl⟩) hld hd (fun e=>by rw [h1] at e;exact absurd e (by decide)) (by simp) hv
      cases hg2:gap l (l.length+1) j1 with
      | error e=>rw [hg2] at h;cases h
      | ok j2 =>
       rw [hg2] at h
       simp only [] at h
       obtain ⟨g3,g4⟩:=gap_ok l _ j1 j2 v1 hg2
       split at h
       ·rename_i hx
        have hlt:=nx_lt (l:=l) (i:=j2) (by rw [hx];decide)
        have hlen:=v2.len
        obtain ⟨a1,a2⟩:=ih.2 (j2+1) up d ns1 j ns' (by omega) (by omega) (by rw [v2.kd hu];exact h1) (v2.ld hld) hd h
        exact ⟨a1,v2.trans a2⟩
       ·split at h
        ·rename_i hx
         have hlt:=nx_lt (l:=l) (i:=j2) (by rw [hx];decide)
         cases h
         exact ⟨by omega,v2⟩
        ·cases h
theorem stp_gr {n:Nat} {ns ns':List Tn} {own:List Nat} {t t' p:Nat} {k:List UInt8} (J:Jt ns own t) (hk:k.length<=n) (hus:Us k) (h:stp ns t k p=.ok (t',ns')):∃m,Gr n ns ns' m/\m<=k.length:=by
 unfold stp at h
 cases hq:kidO ns t k with
 | none =>
  rw [hq] at h
  cases h
  exact ⟨_,Gr.one (x:=⟨0,k,[],0,[],p⟩) J.lt ⟨rfl,hk,by simp,by simp,fun _=>hq,fun _=>rfl,shp_tab (Or.inl ⟨J.kd,hus,Or.inl rfl⟩),fun e=>absurd (show (0:Int)=1 from e) (by decide)⟩,Nat.le_refl _⟩
 | some q =>
  rw [hq] at h
  simp only [] at h
  refine ⟨0,?_,Nat.zero_le _⟩
  split at h
  ·cases h;exact Gr.refl _
  ·split at h
   ·split at h
    ·cases h;exact Gr.refl _
    ·cases h
   ·cases h
theorem endT_gr {n:Nat} {ns ns':List Tn} {own:List Nat} {t t' p:Nat} {k:List UInt8} (J:Jt ns own t) (hk:k.length<=n) (hus:Us k) (h:endT ns own t k p=.ok (t',ns')):∃m,Gr n ns ns' m/\m<=k.length:=by
 unfold endT at h
 cases hq:kidO ns t k with
 | none =>
  rw [hq] at h
  cases h
  exact ⟨_,Gr.one (x:=⟨0,k,[],0,[],p⟩) J.lt ⟨rfl,hk,by simp,by simp,fun _=>hq,fun _=>rfl,shp_tab (Or.inl ⟨J.kd,hus,Or.inl rfl⟩),fun e=>absurd (show (0:Int)=1 from e) (by decide)⟩,Nat.le_refl _⟩
 | some q =>
  rw [hq] at h
  simp only [] at h
  refine ⟨0,?_,Nat.zero_le _⟩
  split at h
  ·cases h;exact Gr.refl _
  ·cases h
theorem endL_gr {n:Nat} {ns ns':List Tn} {own:List Nat} {t t' p:Nat} {k:List UInt8} (J:Jt ns own t) (hk:k.length<=n) (hus:Us k) (h:endL ns t k p=.ok (t',ns')):∃m,Gr n ns ns' m/\m<=k.length:=by
 unfold endL at h
 cases hq:kidO ns t k with
 | none =>
  rw [hq] at h
  cases h
  have A:Gr n ns (addN ns t ⟨2,k,[],0,[],p⟩) k.length:=Gr.one (x:=⟨2,k,[],0,[],p⟩) J.lt ⟨rfl,hk,by simp,by simp,fun _=>hq,fun e=>by rw [J.kd] at e;exact absurd e (by decide),shp_tab (Or.inl ⟨J.kd,hus,Or.inr rfl⟩),fun e=>absurd (show (2:Int)=1 from e) (by decide)⟩
  have e2:kdAt (addN ns t ⟨2,k,[],0,[],p⟩) ns.length=2:=by rw [kdAt_addN ns t _ J.lt,if_pos rfl]
  have B:Gr n (addN ns t ⟨2,k,[],0,[],p⟩) (addN (addN ns t ⟨2,k,[],0,[],p⟩) ns.length ⟨0,[],[],0,[],p⟩) 0:=Gr.one (x:=⟨0,[],[],0,[],p⟩) (by rw [addN_len];omega) ⟨rfl,by simp,by simp,by simp,fun e=>by rw [e2] at e;exact absurd e (by decide),fun _=>rfl,shp_tab (Or.inr ⟨e2,rfl,rfl⟩),fun e=>absurd (show (0:Int)=1 from e) (by decide)⟩
  exact ⟨_,A.trans B,Nat.le_refl _⟩
 | some q =>
  rw [hq] at h
  simp only [] at h
  refine ⟨0,?_,Nat.zero_le _⟩
  split at h
  ·rename_i h2
   cases h
   exact Gr.one (x:=⟨0,[],[],0,[],p⟩) (kdAt_lt h2 (by omega)) ⟨rfl,by simp,by simp,by simp,fun e=>by rw [h2] at e;exact absurd e (by decide),fun _=>rfl,shp_tab (Or.inr ⟨h2,rfl,rfl⟩),fun e=>absurd (show (0:Int)=1 from e) (by decide)⟩
  ·cases h
def kSum (l:List (List UInt8 × Nat)):Nat:=(l.map fun x=>x.1.length).sum
theorem way_gr {n:Nat} (many:Bool) (own:List Nat):∀(l:List (List UInt8 × Nat)) (t:Nat) (ns ns':List Tn) (t':Nat),(∀x ∈ l,x.1.length<=n/\Us x.1)->Jt ns own t->way many own l t ns=.ok (t',ns')->∃m,Gr n ns ns' m/\m<=kSum l
 | [],t,ns,ns',t',hl,J,h=>by
  cases h
  exact ⟨0,Gr.refl _,Nat.zero_le _⟩
 | [(k,p)],t,ns,ns',t',hl,J,h=>by
  rw [way_one] at h
  obtain ⟨hk,hus⟩:=hl (k,p) (by simp)
  have e:kSum [(k,p)]=k.length:=by simp [kSum]
  rw [e]
  split at h
  ·exact endL_gr J hk hus h
  ·exact endT_gr J hk hus h
 | (k,p) :: b :: r,t,ns,ns',t',hl,J,h=>by
  rw [way_more] at h
  cases hs:stp ns t k p with
  | error e=>rw [hs] at h;cases h
  | ok z =>
   obtain ⟨t1,ns1⟩:=z
   rw [hs] at h
   obtain ⟨m1,a1,a2⟩:=stp_gr (k:=k) J (hl (k,p) (by simp)).1 (hl (k,p) (by simp)).2 hs
   have a3:m1<=k.length:=a2
   obtain ⟨m2,b1,b2⟩:=way_gr many own (b :: r) t1 ns1 ns' t' (fun x hx=>hl x (by simp only [List.mem_cons] at hx ⊢;exact Or.inr hx)) (stp_ok J hs).1 h
   refine ⟨m1+m2,a1.trans b1,?_⟩
   have e:kSum ((k,p) :: b :: r)=k.length+kSum (b :: r):=by simp [kSum]
   omega
theorem rdKey_len (l:List UInt8) (i:Nat) (k:List UInt8) (j:Nat) (hi:i<=l.length) (h:rdKey l i=.ok (k,j)):k.length+i<=j:=by
 unfold rdKey at h
 split at h
 ·rename_i hx
  have hlt:=nx_lt (l:=l) (i:=i) (by rw [hx];decide)
  obtain ⟨a,b,c⟩:=str_ok l _ (i+1) [] k j (by omega) h
  simp at c
  omega
 ·split at h
  ·cases h
  ·have:=toR_le isBa l i hi
   cases h
   unfold subT
   simp
   omega
theorem hdK_sum (l:List UInt8):∀(f i:Nat) (acc ks:List (List UInt8 × Nat)) (j:Nat),i<=l.length->hdK l f i acc=.ok (ks,j)->kSum ks+i<=kSum acc+j:=by
 intro f
 induction f with
 | zero=>intro i acc ks j hi h;cases h
 | succ f ih =>
  intro i acc ks j hi h
  rw [hdK_step] at h
  have b1:=bl_le l i hi
  cases hk:rdKey l (bl l i) with
  | error e=>rw [hk] at h;cases h
  | ok q =>
   obtain ⟨k,j1⟩:=q
   rw [hk] at h
   simp only [] at h
   obtain ⟨k1,k2,k3⟩:=rdKey_ok l (bl l i) k j1 b1.2 hk
   have k4:=rdKey_len l (bl l i) k j1 b1.2 hk
   have b2:=bl_le l j1 k2
   have e:kSum (acc++[(k,bl l i)])=kSum acc+k.length:=by simp [kSum]
   split at h
   ·rename_i hx
    have hlt:=nx_lt (l:=l) (i:=bl l j1) (by rw [hx];decide)
    have:=ih (bl l j1+1) (acc++[(k,bl l i)]) ks j (by omega) h
    omega
   ·cases h
    omega
theorem hdK_us (l:List UInt8):∀(f i:Nat) (acc ks:List (List UInt8 × Nat)) (j:Nat),(∀x ∈ acc,Us x.1)->hdK l f i acc=.ok (ks,j)->∀x ∈ ks,Us x.1:=by
 intro f
 induction f with
 | zero=>intro i acc ks j ha h;cases h
 | succ f ih =>
  intro i acc ks j ha h
  rw [hdK_step] at h
  cases hk:rdKey l (bl l i) with
  | error e=>rw [hk] at h;cases h
  | ok q =>
   obtain ⟨k,j1⟩:=q
   rw [hk] at h
   simp only [] at h
   have ha':∀x ∈ acc++[(k,bl l i)],Us x.1:=fun x hx=>by
    rcases List.mem_append.1 hx with hx | hx
    ·exact ha x hx
    ·rw [List.mem_singleton.1 hx];exact rdKey_us l _ k j1 hk
   split at h
   ·exact ih _ _ ks j ha' h
   ·cases h
    exact ha'
def Gi (l:List UInt8) (d d':Sd):Prop:=∃m,Gr l.length d.ns d'.ns m/\m+d.i<=d'.i
theorem pair_gr (l:List UInt8) (d d':Sd) (L:Li l d) (h:rdPair l d=.ok d'):Gi l d d':=by
 obtain ⟨i,ns,own,now⟩:=d
 have L1:=L.jt
 have L3:=L.le
 simp only [] at L1 L3
 rw [rdPair_eq] at h
 cases hk:rdKey l i with
 | error e=>rw [hk] at h;cases h
 | ok q =>
  obtain ⟨k,j⟩:=q
  rw [hk] at h
  simp only [] at h
  obtain ⟨k1,k2,k3⟩:=rdKey_ok l i k j L3 hk
  have k4:=rdKey_len l i k j L3 hk
  have b1:=bl_le l j k2
  cases hm:must l (bl l j) 61 with
  | error e=>rw [hm] at h;cases h
  | ok j1 =>
   rw [hm] at h
   simp only [] at h
   obtain ⟨m1,m2⟩:=must_ok l _ _ 61 (by decide) hm
   have b2:=bl_le l j1 (by omega)
   cases hq:kidO ns now k with
   | some q=>rw [hq] at h;cases h
   | none =>
    rw [hq] at h
    simp only [] at h
    cases hv:val l (2 * l.length+2) (bl l j1) now k i 0 ns with
    | error e=>rw [hv] at h;cases h
    | ok z =>
     obtain ⟨j2,ns'⟩:=z
     rw [hv] at h
     have A:=(val_lst_ok l own _).1 (bl l j1) now k i 0 ns j2 ns' b2.2 L1.wf L1.wt L1.lt (by rw [L1.kd];decide) hv
     have a3:=A.fw
     obtain ⟨v1,v2⟩:=(val_lst_gr l _).1 (bl l j1) now k i 0 ns j2 ns' b2.2 L1.lt (Or.inl ⟨L1.kd,rdKey_us l i k j hk⟩) (Ld.top now L1.kd) (by omega) (fun _=>hq) k3 hv
     cases h
     exact ⟨_,v2,by simp only [];omega⟩
theorem head_gr (l:List UInt8) (d d':Sd) (L:Li l d) (hi:d.i < l.length) (h:rdHead l d=.ok d'):Gi l d d':=by
 obtain ⟨i,ns,own,now⟩:=d
 have L1:=L.jt
 have L2:=L.rt
 simp only [] at L1 L2 hi
 obtain ⟨many,hmany⟩:∃many,decide (nx l (i+1)=91)=many:=⟨_,rfl⟩
 rw [rdHead_eq l i ns own now many hmany] at h
 have ha:i+1<=(if many=true then i+2 else i+1)/\(if many=true then i+2 else i+1)<=l.length:=by
  cases many with
  | false=>simp;omega
  | true =>
   have hx:=of_decide_eq_true hmany
   have:=nx_lt (l:=l) (i:=i+1) (by rw [hx];decide)
   simp;omega
 generalize (if many=true then i+2 else i+1)=a at h ha
 cases hk:hdK l (l.length+1) a [] with
 | error e=>rw [hk] at h;cases h
 | ok q =>
  obtain ⟨ks,j⟩:=q
  rw [hk] at h
  simp only [] at h
  obtain ⟨k1,k2,k3,k4⟩:=hdK_ok l _ a [] ks j ha.2 (by simp) hk
  have k5:=hdK_sum l _ a [] ks j ha.2 hk
  have e0:kSum []=0:=rfl
  cases hm:must l j 93 with
  | error e=>rw [hm] at h;cases h
  | ok j1 =>
   rw [hm] at h
   simp only [] at h
   obtain ⟨m1,m2⟩:=must_ok l _ _ 93 (by decide) hm
   have hj2:∀j2,(if many=true then must l j1 93 else (.ok j1:Rs Nat))=.ok j2->j1<=j2:=fun j2 hh=>by
    split at hh
    ·obtain ⟨n1,n2⟩:=must_ok l _ _ 93 (by decide) hh
     omega
    ·cases hh
     omega
   cases hc:(if many=true then must l j1 93 else (.ok j1:Rs Nat)) with
   | error e=>rw [hc] at h;cases h
   | ok j2 =>
    rw [hc] at h
    simp only [] at h
    have c1:=hj2 j2 hc
    cases hw:way many own ks 0 ns with
    | error e=>rw [hw] at h;cases h
    | ok z =>
     obtain ⟨t,ns'⟩:=z
     rw [hw] at h
     obtain ⟨m,g1,g2⟩:=way_gr many own ks 0 ns ns' t (fun x hx=>⟨k1 x hx,hdK_us l _ a [] ks j (by simp) hk x hx⟩) ⟨L1.wf,L1.wt,by have:=L1.lt;omega,L2⟩ hw
     cases h
     exact ⟨m,g1,by simp only [];omega⟩
theorem line_gr (l:List UInt8) (d d':Sd) (L:Li l d) (hi:d.i < l.length) (h:rdLine l d=.ok d'):Gi l d d':=by
 obtain ⟨i,ns,own,now⟩:=d
 simp only [] at hi
 rw [rdLine_eq] at h
 have b1:=bl_le l i (by omega)
 have L':Li l ⟨bl l i,ns,own,now⟩:=li_to L (bl l i) b1.1 b1.2
 cases hm:(if nx l (bl l i)=91 then rdHead l ⟨bl l i,ns,own,now⟩ else if nx l (bl l i)=34\/isBa (nx l (bl l i))=true then rdPair l ⟨bl l i,ns,own,now⟩ else .ok ⟨bl l i,ns,own,now⟩) with
 | error e=>rw [hm] at h;cases h
 | ok d1 =>
  rw [hm] at h
  have mid:Gi l ⟨bl l i,ns,own,now⟩ d1/\d1.i<=l.length:=by
   split at hm
   ·rename_i hx
    have hlt:=nx_lt (l:=l) (i:=bl l i) (by rw [hx];decide)
    exact ⟨head_gr l _ d1 L' hlt hm,(head_ok l _ d1 L' hlt hm).1.le⟩
   ·split at hm
    ·exact ⟨pair_gr l _ d1 L' hm,(pair_ok l _ d1 L' hm).1.le⟩
    ·cases hm
     exact ⟨⟨0,Gr.refl _,by omega⟩,b1.2⟩
  obtain ⟨⟨m,g1,g2⟩,hle⟩:=mid
  simp only [] at g1 g2
  have h2:lnE l d1 (cmt l (bl l d1.i))=.ok d':=h
  have b2:=bl_le l d1.i hle
  have c2:=cmt_le l (bl l d1.i) b2.2
  unfold lnE at h2
  split at h2
  ·cases h2
  ·split at h2
   ·cases h2
    exact ⟨m,g1,by simp only [];omega⟩
   ·cases hq:must l (cmt l (bl l d1.i)).2 10 with
    | error e=>rw [hq] at h2;cases h2
    | ok q =>
     rw [hq] at h2
     obtain ⟨m1,m2⟩:=must_ok l _ _ 10 (by decide) hq
     cases h2
     exact ⟨m,g1,by simp only [];omega⟩
theorem all_gr (l:List UInt8):∀(f:Nat) (d d':Sd),Li l d->rdAll l f d=.ok d'->Gi l d d'
 | 0,d,d',L,h=>by cases h;exact ⟨0,Gr.refl _,by omega⟩
 | f+1,d,d',L,h=>by
  rw [rdAll_step] at h
  split at h
  ·cases h;exact ⟨0,Gr.refl _,by omega⟩
  ·cases hr:rdLine l d with
   | error e=>rw [hr] at h;cases h
   | ok d1 =>
    rw [hr] at h
    obtain ⟨m1,a1,a2⟩:=line_gr l d d1 L (by omega) hr
    obtain ⟨m2,b1,b2⟩:=all_gr l f d1 d' (line_ok l d d1 L (by omega) hr).1 h
    exact ⟨m1+m2,a1.trans b1,by omega⟩
theorem toml_tv (l:List UInt8) (ns:List Tn) (h:rdToml l=.ok ns):Tv 100000 ns 100000/\∃own,WF ns own/\ns.length<=200001:=by
 obtain ⟨own,now,J,-,hn,hl⟩:=toml_ok l ns h
 refine ⟨?_,own,J.wf,hn⟩
 rw [rdToml_eq] at h
 split at h
 ·cases h
 ·cases ha:rdAll l (l.length+1) ⟨0,[⟨0,[],[],0,[],0⟩],[],0⟩ with
  | error e=>rw [ha] at h;cases h
  | ok d =>
   rw [ha] at h
   cases h
   obtain ⟨m,g1,g2⟩:=all_gr l _ _ _ (li_start l) ha
   have hle:=(rdAll_li l _ _ _ (li_start l) ha).le
   have T:=g1.tv (tv_start l.length)
   exact ⟨T.lt,T.gt,T.nod,T.kdd,T.two,T.root,fun x hx=>by
    obtain ⟨a,b,c⟩:=T.txt x hx
    exact ⟨by omega,by omega,c⟩,by have:=T.sum;simp only [] at g2;omega,T.shp,T.dep,T.par,T.rt⟩
theorem toml_ef (l:List UInt8) (ns:List Tn) (h:rdToml l=.ok ns):∃own,Ef ns own/\ns.length<=200001:=by
 obtain ⟨T,own,W,hn⟩:=toml_tv l ns h
 exact ⟨own,⟨W,T.gt,T.nod,T.kdd,T.two,T.root,fun i hi=>by have:=(T.txt ns[i] (List.getElem_mem hi)).1;omega⟩,hn⟩
theorem rdKey_back {l:List UInt8} {i:Nat} {k:List UInt8} {c:UInt8} {r:List UInt8} (hk:Us k) (hc:isBa (c.toNat:Int)=false) (h:l.drop i=kt k++c :: r):rdKey l i=.ok (k,i+(kt k).length):=by
 have hq:kt k=qt k->rdKey l i=.ok (k,i+(kt k).length):=fun e=>by
  rw [e] at h ⊢
  have h0:nx l i=34:=nx_cons (c:=34) h
  have h1:l.drop (i+1)=k.flatMap qc++34 :: (c :: r):=by
   have:=drop_more (a:=[34]) (r:=k.flatMap qc++34 :: (c :: r)) (l:=l) (i:=i) (by rw [h];simp [qt])
   exact this
  have hl:=congrArg List.length h1
  rw [List.length_drop,List.length_append] at hl
  unfold rdKey
  rw [if_pos h0,str_back l k hk _ (i+1) [] (c :: r) h1 (by omega)]
  unfold qt
  simp only [List.nil_append,List.cons_append,List.length_cons,List.length_append,List.length_nil]
  congr 2
  omega
 unfold kt at hq ⊢
 by_cases h0:k=[]
 ·rw [if_pos h0] at hq ⊢;exact hq rfl
 ·rw [if_neg h0] at hq ⊢
  by_cases h1:k.all (fun c=>isBa (c.toNat:Int))=true
  ·rw [if_pos h1]
   have e:kt k=k:=by unfold kt;rw [if_neg h0,if_pos h1]
   rw [e] at h
   have ha:∀c ∈ k,isBa (c.toNat:Int)=true:=fun c hc=>List.all_eq_true.1 h1 c hc
   have ht:=toR_run (p:=isBa) h ha (by exact hc)
   have hl:0 < k.length:=List.length_pos_iff.2 h0
   have hn:¬ nx l i=34:=by
    match k,ha,h with
    | a :: k',ha,h =>
     have e1:nx l i=(a.toNat:Int):=nx_cons (c:=a) h
     rw [e1]
     intro e2
     have:=ha a (by simp)
     rw [e2] at this
     exact absurd this (by decide)
   unfold rdKey
   rw [if_neg hn,ht,if_neg (by omega),show i+k.length - i=k.length by omega,sub_at h]
  ·rw [if_neg h1] at hq ⊢;exact hq rfl
theorem dd_all:∀u:Nat,∀c ∈ Lib.decDigits u,isDg (c.toNat:Int)=true:=by
 intro u
 induction u using Nat.strongRecOn with
 | ind u ih =>
  intro c hc
  rw [Lib.decDigits] at hc
  have key:∀m,m < 10->isDg (((UInt8.ofNat (48+m)).toNat:Nat):Int)=true:=fun m hm=>by
   rw [UInt8.toNat_ofNat_of_lt' (by show 48+m < 256;omega)]
   unfold isDg
   apply decide_eq_true
   omega
  split at hc
  ·rw [List.mem_singleton.1 hc];exact key u (by assumption)
  ·rcases List.mem_append.1 hc with hc | hc
   ·exact ih (u / 10) (by omega) c hc
   ·rw [List.mem_singleton.1 hc];exact key (u % 10) (by omega)
theorem digN_app:∀(a b:List UInt8) (n:Nat),digN (a++b) n=digN b (digN a n)
 | [],b,n=>rfl
 | c :: a,b,n=>digN_app a b _
theorem dd_val:∀u:Nat,digN (Lib.decDigits u) 0=u:=by
 intro u
 induction u using Nat.strongRecOn with
 | ind u ih =>
  rw [Lib.decDigits]
  have key:∀m n,m < 10->digN [UInt8.ofNat (48+m)] n=10 * n+m:=fun m n hm=>by
   show 10 * n+((UInt8.ofNat (48+m)).toNat - 48)=_
   rw [UInt8.toNat_ofNat_of_lt' (by show 48+m < 256;omega)]
   omega
  split
  ·rw [key u 0 (by assumption)];omega
  ·rw [digN_app,ih (u / 10) (by omega),key _ _ (by omega)];omega
theorem dd_len:∀(k u:Nat),u < 10 ^ (k+1)->(Lib.decDigits u).length<=k+1
 | 0,u,h=>by
  rw [Lib.decDigits,dif_pos (by simpa using h)];simp
 | k+1,u,h=>by
  rw [Lib.decDigits]
  split
  ·simp
  ·have:=dd_len k (u / 10) (by rw [Nat.pow_succ] at h;omega)
   simp only [List.length_append,List.length_cons,List.length_nil]
   omega
theorem dd_pos (u:Nat):1<=(Lib.decDigits u).length:=by
 rw [Lib.decDigits]
 split <;> simp
theorem dd_hd:∀u:Nat,0 < u->∀c r,Lib.decDigits u=c :: r->c.toNat ≠ 48:=by
 intro u
 induction u using Nat.strongRecOn with
 | ind u ih =>
  intro h0 c r h
  rw [Lib.decDigits] at h
  split at h
  ·injection h with h1 h2
   rw [<-h1,UInt8.toNat_ofNat_of_lt' (by show 48+u < 256;omega)]
   omega
  ·cases hd:Lib.decDigits (u / 10) with
   | nil=>have:=dd_pos (u / 10);rw [hd] at this;simp at this
   | cons a b =>
    rw [hd] at h
    injection h with h1 h2
    rw [<-h1]
    exact ih (u / 10) (by omega) (by omega) a b hd
theorem dd_one (u:Nat) (h:1 < (Lib.decDigits u).length):0 < u:=by
 apply Nat.pos_of_ne_zero
 rintro rfl
 rw [Lib.decDigits] at h
 simp at h
theorem rdInt_dd {l:List UInt8} {a u:Nat} {c:UInt8} {r:List UInt8} (hc:isDg (c.toNat:Int)=false) (hu:u < 1000000000000000000) (h:l.drop a=Lib.decDigits u++c :: r):toR isDg l a=a+(Lib.decDigits u).length/\¬ (toR isDg l a=a\/(1 < toR isDg l a - a/\nx l a=48))/\¬ 18 < toR isDg l a - a/\digN (subT l a (toR isDg l a - a)) 0=u/\isDg (nx l a)=true:=by
 have ht:=toR_run (p:=isDg) h (dd_all u) (by exact hc)
 have hp:=dd_pos u
 have h18:=dd_len 17 u (by omega)
 rw [ht,show a+(Lib.decDigits u).length - a=(Lib.decDigits u).length by omega,sub_at h]
 cases hd:Lib.decDigits u with
 | nil=>rw [hd] at hp;simp at hp
 | cons x y =>
  have hx:nx l a=(x.toNat:Int):=by rw [hd] at h;exact nx_cons (c:=x) h
  refine ⟨rfl,?_,?_,?_,?_⟩
  ·rintro (h1 | ⟨h1,h2⟩)
   ·rw [<-hd] at h1;omega
   ·rw [<-hd] at h1
    rw [hx] at h2
    exact dd_hd u (dd_one u h1) x y hd (by omega)
  ·rw [<-hd];omega
  ·rw [<-hd];exact dd_val u
  ·rw [hx];exact dd_all u x (by rw [hd];simp)
theorem rdInt_back {l:List UInt8} {i:Nat} {n:Int} {c:UInt8} {r:List UInt8} (hc:isDg (c.toNat:Int)=false) (hn:-1000000000000000000 < n/\n < 1000000000000000000) (h:l.drop i=Lib.itoa n++c :: r):rdInt l i=.ok (n,i+(Lib.itoa n).length)/\(nx l i=45\/isDg (nx l i)=true):=by
 unfold Lib.itoa at h ⊢
 unfold rdInt
 simp only []
 split at h
 ·rename_i h0
  have e0:nx l i=45:=nx_cons (c:=45) h
  have h1:l.drop (i+1)=Lib.decDigits n.natAbs++c :: r:=drop_more (a:=[45]) h
  obtain ⟨a1,a2,a3,a4,a5⟩:=rdInt_dd (u:=n.natAbs) hc (by omega) h1
  refine ⟨?_,Or.inl e0⟩
  rw [e0,if_neg (show ¬ isDg 45=true by decide),if_neg a2,if_neg a3,if_pos rfl,a4,a1,if_pos h0]
  simp only [List.length_cons]
  congr 2
  ·omega
  ·omega
 ·rename_i h0
  obtain ⟨a1,a2,a3,a4,a5⟩:=rdInt_dd (u:=n.toNat) hc (by omega) h
  refine ⟨?_,Or.inr a5⟩
  have e1:¬ nx l i=45:=fun e=>by rw [e] at a5;exact absurd a5 (by decide)
  rw [if_pos a5,if_neg a2,if_neg a3,if_neg e1,a4,a1,if_neg h0]
  congr 2
  omega
theorem fb_t:Lib.formatBool true=[116,114,117,101]:=by decide
theorem fb_f:Lib.formatBool false=[102,97,108,115,101]:=by decide
theorem rdTru_back {l:List UInt8} {i:Nat} {n:Int} {c:UInt8} {r:List UInt8} (hc:isSm (c.toNat:Int)=false) (hn:n=0\/n=1) (h:l.drop i=Lib.formatBool (decide (n=1))++c :: r):rdTru l i=.ok (n,i+(Lib.formatBool (decide (n=1))).length)/\(nx l i=116\/nx l i=102):=by
 unfold rdTru
 simp only []
 rcases hn with rfl | rfl
 ·rw [show decide ((0:Int)=1)=false by decide,fb_f] at h ⊢
  have ht:=toR_run (p:=isSm) h (by decide) (by exact hc)
  have hs:=sub_at h
  rw [ht,show i+([102,97,108,115,101]:List UInt8).length - i=([102,97,108,115,101]:List UInt8).length by omega,hs,if_neg (by decide),if_pos rfl]
  exact ⟨rfl,Or.inr (nx_cons (c:=102) h)⟩
 ·rw [show decide ((1:Int)=1)=true by decide,fb_t] at h ⊢
  have ht:=toR_run (p:=isSm) h (by decide) (by exact hc)
  have hs:=sub_at h
  rw [ht,show i+([116,114,117,101]:List UInt8).length - i=([116,114,117,101]:List UInt8).length by omega,hs,if_pos rfl]
  exact ⟨rfl,Or.inl (nx_cons (c:=116) h)⟩
end Go.Proofs.YtbgnflcebafjjaaGreatDoor
namespace Go.Proofs.YtbgnflcebafjjaaGreatDoor
open Go.RowKit Go.Maps Go.WideMaps Go.Joins Go.Shelf
set_option linter.unusedVariables false
def dT (ns:List Tn):Nat->Nat->List UInt8->List UInt8->List UInt8
 | 0,_,_,out=>out
 | f+1,t,path,out=>(belT ns t path.length).reverse.foldl (fun o v=>dT ns f v.t (pathN path path.length v.ky) (o++hdT o (pathN path path.length v.ky) v.dbl)) (out++prT ns t)
theorem pathN_take {X P:List UInt8} (h:X.take P.length=P) (ky:List UInt8):pathN X P.length ky=pathN P P.length ky:=by
 unfold pathN
 rw [h,List.take_length]
theorem pathN_pre (P ky:List UInt8):(pathN P P.length ky).take P.length=P:=by
 unfold pathN
 rw [List.take_length,List.append_assoc,List.take_left' rfl]
theorem pathN_le (P ky:List UInt8):P.length<=(pathN P P.length ky).length:=pathN_len P P.length ky (Nat.le_refl _)
theorem fm_dT {ns:List Tn} {own:List Nat} (E:Ef ns own):∀(f t:Nat) (P out:List UInt8) (td:List Vt) (g:Nat) (R:List UInt8),t < ns.length->kdAt ns t=0->ns.length - t<=f->fmO ns g (out++prT ns t) P (td++belT ns t P.length)=some R->∃g' X,X.take P.length=P/\fmO ns g' (dT ns f t P out) X td=some R
 | 0,t,P,out,td,g,R,ht,_,hf,_=>by omega
 | f+1,t,P,out,td,g,R,ht,hk,hf,h=>by
  have key:∀(l:List Vt) (o X:List UInt8) (g:Nat),(∀v ∈ l,v.ab=P.length/\BK ns t v.t)->X.take P.length=P->fmO ns g o X (td++l.reverse)=some R->∃g' X',X'.take P.length=P/\fmO ns g' (l.foldl (fun o v=>dT ns f v.t (pathN P P.length v.ky) (o++hdT o (pathN P P.length v.ky) v.dbl)) o) X' td=some R:=by
   intro l
   induction l with
   | nil =>
    intro o X g _ hX hg
    refine ⟨g,X,hX,?_⟩
    simpa using hg
   | cons v r ih =>
    intro o X g hl hX hg
    match g,hg with
    | 0,hg=>cases hg
    | g+1,hg =>
     rw [List.reverse_cons,<-List.append_assoc,fmO_snoc] at hg
     obtain ⟨hab,hbk⟩:=hl v (by simp)
     obtain ⟨hk0,hlt,htl⟩:=bk_tab E hbk
     rw [hab,pathN_take hX] at hg
     obtain ⟨g2,X2,hX2,hg2⟩:=fm_dT E f v.t (pathN P P.length v.ky) (o++hdT o (pathN P P.length v.ky) v.dbl) (td++r.reverse) g R hlt hk0 (by omega) hg
     rw [List.foldl_cons]
     refine ih _ X2 g2 (fun u hu=>hl u (by simp [hu])) ?_ hg2
     have:=congrArg (List.take P.length) hX2
     rw [List.take_take,pathN_pre,Nat.min_eq_left (pathN_le P v.ky)] at this
     exact this
  refine key (belT ns t P.length).reverse _ P g (fun v hv=>?_) (List.take_length ..) (by rw [List.reverse_reverse];exact h)
  rw [List.mem_reverse] at hv
  exact ⟨(belT_mem hv).1,belT_bk hv⟩
theorem dT_fmT {ns:List Tn} {own:List Nat} (E:Ef ns own):dT ns ns.length 0 [] []=fmT ns:=by
 obtain ⟨g,X,-,h⟩:=fm_dT E ns.length 0 [] [] [] ns.length (fmT ns) E.root.1 E.root.2 (by omega) (by simpa using fmT_eq E)
 match g,h with
 | 0,h=>cases h
 | g+1,h =>
  rw [fmO_nil] at h
  injection h
def tb (ns:List Tn) (q:Nat):Bool:=decide (kdAt ns q=0\/kdAt ns q=2)
def rs (ns:List Tn) (t:Nat) (b:Bool):List Nat:=(srt ns t).filter fun q=>tb ns q == b
theorem rs_mem {ns:List Tn} {t q:Nat} {b:Bool} (h:q ∈ rs ns t b):q ∈ ksAt ns t/\tb ns q=b:=by
 unfold rs at h
 rw [List.mem_filter] at h
 exact ⟨srt_mem h.1,by simpa using h.2⟩
theorem rs_uni (ns:List Tn) (t:Nat) (b:Bool) (h:KD ns t) (E:List Nat) (hp:E.Perm ((ksAt ns t).filter fun q=>tb ns q == b)) (hs:E.Pairwise fun x y=>cb (kyAt ns x) (kyAt ns y)<=0):E=rs ns t b:=by
 have hsp:(rs ns t b).Perm ((ksAt ns t).filter fun q=>tb ns q == b):=(srt_perm ns t).filter _
 have hss:(srt ns t).Pairwise fun x y=>cb (kyAt ns x) (kyAt ns y)<=0:=by
  have h1:=List.pairwise_mergeSort (le:=fun x y=>decide (cb (kyAt ns x) (kyAt ns y)<=0)) (fun x y z h1 h2=>by
   simp only [decide_eq_true_eq] at *
   exact (cb_trans _ _ _ h1 h2).1) (fun x y=>by
   have:=cb_anti (kyAt ns x) (kyAt ns y)
   simp only [Bool.or_eq_true,decide_eq_true_eq]
   omega) (ksAt ns t)
  exact h1.imp fun {a b} hh=>of_decide_eq_true hh
 have key:∀L:List Nat,L.Perm ((ksAt ns t).filter fun q=>tb ns q == b)->(L.Pairwise fun x y=>cb (kyAt ns x) (kyAt ns y)<=0)->L.Pairwise fun x y=>cb (kyAt ns x) (kyAt ns y) < 0:=fun L hL hp=>by
  have hd:L.Pairwise fun x y=>kyAt ns x ≠ kyAt ns y:=(hL.pairwise_iff (fun {a b} h=>Ne.symm h)).2 (h.filter _)
  refine (hp.and hd).imp fun {x y} ⟨h1,h2⟩=>?_
  have:cb (kyAt ns x) (kyAt ns y) ≠ 0:=fun e=>h2 (cb_eq _ _ e)
  omega
 refine perm_uni (fun x y=>cb (kyAt ns x) (kyAt ns y) < 0) (fun x y h1 h2=>?_) _ _ (hp.trans hsp.symm) (key E hp hs) (key _ hsp (hss.filter _))
 have:=cb_anti (kyAt ns x) (kyAt ns y)
 omega
theorem flat_filter {α β:Type} (p:α->Bool) (f:α->List β) (h:∀x,p x=false->f x=[]):∀l:List α,(l.filter p).flatMap f=l.flatMap f
 | []=>rfl
 | a :: r=>by
  cases hp:p a with
  | true=>rw [List.filter_cons_of_pos hp,List.flatMap_cons,List.flatMap_cons,flat_filter p f h r]
  | false=>rw [List.filter_cons_of_neg (by simp [hp]),List.flatMap_cons,h a hp,List.nil_append,flat_filter p f h r]
theorem prT_rs (ns:List Tn) (t:Nat):prT ns t=(rs ns t false).flatMap (pr1 ns):=by
 unfold prT rs
 rw [flat_filter]
 intro q hq
 unfold pr1
 rw [if_pos]
 have:tb ns q=true:=by simpa using hq
 exact of_decide_eq_true this
theorem bel_rs (ns:List Tn) (t pl:Nat):(belT ns t pl).reverse=(rs ns t true).flatMap fun q=>(vs1 ns pl q).reverse:=by
 unfold belT rs
 rw [List.reverse_flatMap,List.reverse_reverse,flat_filter]
 ·rfl
 ·intro q hq
  have:tb ns q=false:=by simpa using hq
  have h2:=of_decide_eq_false this
  unfold vs1
  rw [if_neg (fun h=>h2 (Or.inl h)),if_neg (fun h=>h2 (Or.inr h))]
  rfl
def msT (ns:List Tn) (q:Nat):List Nat:=if kdAt ns q=2 then ksAt ns q else [q]
def dbT (ns:List Tn) (q:Nat):Bool:=decide (kdAt ns q=2)
def gT (ns:List Tn) (f:Nat) (K:List UInt8) (b:Bool) (o:List UInt8) (m:Nat):List UInt8:=dT ns f m K (o++hdT o K b)
def gK (ns:List Tn) (f:Nat) (path:List UInt8) (o:List UInt8) (q:Nat):List UInt8:=(msT ns q).foldl (gT ns f (pathN path path.length (kyAt ns q)) (dbT ns q)) o
theorem dT_gK (ns:List Tn) (f t:Nat) (path out:List UInt8):dT ns (f+1) t path out=(rs ns t true).foldl (gK ns f path) (out++prT ns t):=by
 show List.foldl _ _ _=_
 rw [bel_rs,List.foldl_flatMap]
 generalize out++prT ns t=o
 have key:∀(L:List Nat),(∀q ∈ L,tb ns q=true)->∀o,L.foldl (fun b a=>List.foldl (fun o v=>dT ns f v.t (pathN path path.length v.ky) (o++hdT o (pathN path path.length v.ky) v.dbl)) b (vs1 ns path.length a).reverse) o=L.foldl (gK ns f path) o:=by
  intro L
  induction L with
  | nil=>intro _ o;rfl
  | cons q L ih =>
   intro hL o
   rw [List.foldl_cons,List.foldl_cons,<-ih (fun q hq=>hL q (by simp [hq]))]
   congr 1
   have ht:kdAt ns q=0\/kdAt ns q=2:=of_decide_eq_true (hL q (by simp))
   unfold gK msT dbT vs1
   by_cases h2:kdAt ns q=2
   ·rw [if_neg (by omega),if_pos h2,if_pos h2,decide_eq_true h2,<-List.map_reverse,List.reverse_reverse,List.foldl_map]
    rfl
   ·rw [if_pos (by omega),if_neg h2,decide_eq_false h2]
    rfl
 exact key _ (fun q hq=>(rs_mem hq).2) o
end Go.Proofs.YtbgnflcebafjjaaGreatDoor
namespace Go.Proofs.YtbgnflcebafjjaaGreatDoor
open Go.RowKit Go.Joins
set_option linter.unusedVariables false
def dord (ns:List Tn) (q:Nat):List Nat:=if kdAt ns q=0 then rs ns q false++rs ns q true else ksAt ns q
inductive Al (ns ns':List Tn):Nat->Nat->Prop
 | mk (q q':Nat) (x y:Tn):ns[q]?=some x->ns'[q']?=some y->y.kd=x.kd->y.ky=x.ky->y.tx=x.tx->y.nu=x.nu->(∀k ∈ y.ks,q' < k)->y.ks.length=(dord ns q).length->(∀(i a b:Nat),(dord ns q)[i]?=some a->y.ks[i]?=some b->Al ns ns' a b)->Al ns ns' q q'
theorem get_lt {a:List Tn} {p:Nat} {x:Tn} (h:a[p]?=some x):p < a.length:=(List.getElem?_eq_some_iff.1 h).1
theorem Al.lt {ns a:List Tn} {q q':Nat} (h:Al ns a q q'):q' < a.length:=by
 cases h with
 | mk _ _ x y h1 h2=>exact get_lt h2
theorem Al.keep {ns a b:List Tn} {q q':Nat} (h:Al ns a q q') (hk:∀p,q'<=p->p < a.length->b[p]?=a[p]?):Al ns b q q':=by
 induction h with
 | mk q q' x y h1 h2 h3 h4 h5 h6 h7 h8 h9 ih =>
  refine Al.mk q q' x y h1 ((hk q' (Nat.le_refl _) (get_lt h2)).trans h2) h3 h4 h5 h6 h7 h8 fun i c d hc hd=>ih i c d hc hd fun p hp hl=>hk p ?_ hl
  have:=h7 d (List.mem_of_getElem? hd)
  omega
structure Cps (ns a:List Tn) (K L:List Nat):Prop where
 len:L.length=K.length
 al:∀(i x y:Nat),K[i]?=some x->L[i]?=some y->Al ns a x y
theorem Cps.nil {ns a:List Tn}:Cps ns a [] []:=⟨rfl,fun i x y h=>by simp at h⟩
theorem Cps.one {ns a:List Tn} {q q':Nat} (h:Al ns a q q'):Cps ns a [q] [q']:=⟨rfl,fun i x y hx hy=>by
 cases i with
 | zero =>
  have e1:q=x:=by simpa using hx
  have e2:q'=y:=by simpa using hy
  rw [<-e1,<-e2];exact h
 | succ i=>simp at hx⟩
theorem Cps.app {ns a:List Tn} {K1 L1 K2 L2:List Nat} (h1:Cps ns a K1 L1) (h2:Cps ns a K2 L2):Cps ns a (K1++K2) (L1++L2):=by
 refine ⟨by rw [List.length_append,List.length_append,h1.len,h2.len],fun i x y hx hy=>?_⟩
 by_cases hi:i < K1.length
 ·rw [List.getElem?_append_left hi] at hx
  rw [List.getElem?_append_left (by rw [h1.len];exact hi)] at hy
  exact h1.al i x y hx hy
 ·rw [List.getElem?_append_right (by omega)] at hx
  rw [List.getElem?_append_right (by rw [h1.len];omega),h1.len] at hy
  exact h2.al _ x y hx hy
theorem Cps.keep {ns a b:List Tn} {K L:List Nat} {m:Nat} (h:Cps ns a K L) (hL:∀q ∈ L,m<=q) (hk:∀p,m<=p->p < a.length->b[p]?=a[p]?):Cps ns b K L :=
 ⟨h.len,fun i x y hx hy=>(h.al i x y hx hy).keep fun p hp hl=>hk p (Nat.le_trans (hL y (List.mem_of_getElem? hy)) hp) hl⟩
structure Ext (up:Nat) (a b:List Tn) (L:List Nat):Prop where
 len:a.length<=b.length
 oth:∀p,p < a.length->p ≠ up->b[p]?=a[p]?
 here:∀u,a[up]?=some u->b[up]?=some { u with ks:=u.ks++L }
 new:∀q ∈ L,a.length<=q/\q < b.length
theorem Ext.refl (up:Nat) (a:List Tn):Ext up a a []:=⟨Nat.le_refl _,fun _ _ _=>rfl,fun u hu=>by rw [hu];simp,by simp⟩
theorem Ext.trans {up:Nat} {a b c:List Tn} {L M:List Nat} (h:Ext up a b L) (h':Ext up b c M):Ext up a c (L++M):=by
 refine ⟨Nat.le_trans h.len h'.len,fun p hp hn=>(h'.oth p (Nat.lt_of_lt_of_le hp h.len) hn).trans (h.oth p hp hn),fun u hu=>?_,fun q hq=>?_⟩
 ·have:=h'.here _ (h.here u hu)
  simpa using this
 ·have h1:=h.len
  have h2:=h'.len
  rcases List.mem_append.1 hq with hq | hq
  ·have:=h.new q hq;omega
  ·have:=h'.new q hq;omega
theorem Ext.deep {up n:Nat} {a b c:List Tn} {L M:List Nat} (h:Ext up a b L) (hn:a.length<=n) (hu:up < a.length) (h':Ext n b c M):Ext up a c L:=by
 have h1:=h.len
 refine ⟨Nat.le_trans h.len h'.len,fun p hp hne=>(h'.oth p (by omega) (by omega)).trans (h.oth p hp hne),fun u hu'=>(h'.oth up (by omega) (by omega)).trans (h.here u hu'),fun q hq=>?_⟩
 have:=h.new q hq
 have:=h'.len
 omega
theorem ext_add {ns:List Tn} {up:Nat} (x:Tn) (hu:up < ns.length):Ext up ns (addN ns up x) [ns.length]:=by
 refine ⟨by rw [addN_len];omega,fun p hp hn=>by rw [addN_at ns up x hu,if_neg (by omega),if_neg hn],fun u hu'=>?_,fun q hq=>?_⟩
 ·rw [addN_at ns up x hu,if_neg (by omega),if_pos rfl]
  rw [List.getElem?_eq_getElem hu] at hu'
  injection hu' with e
  rw [<-e]
 ·rw [List.mem_singleton.1 hq,addN_len];omega
theorem add_new {ns:List Tn} {up:Nat} (x:Tn) (hu:up < ns.length):(addN ns up x)[ns.length]?=some x:=by rw [addN_at ns up x hu,if_pos rfl]
theorem tv_leaf {n S:Nat} {ns:List Tn} (T:Tv n ns S) {q:Nat} (h:kdAt ns q=3\/kdAt ns q=4\/kdAt ns q=5):ksAt ns q=[]:=by
 cases hk:ksAt ns q with
 | nil=>rfl
 | cons m r =>
  have hm:m ∈ ksAt ns q:=by rw [hk];simp
  have hl:=T.lt _ _ hm
  have:=(T.shp q m hm ns[m] (List.getElem?_eq_getElem hl)).par
  omega
theorem Ld.uni {ns:List Tn} {own:List Nat} (W:WF ns own) {p d:Nat} (h:Ld ns p d):∀d',Ld ns p d'->d=d':=by
 induction h with
 | top p h =>
  intro d' h'
  generalize hp:p=p' at h'
  cases h' with
  | top _ _=>rfl
  | kid p2 q d2 h1 h2 h3=>rw [hp] at h;omega
 | kid p q d h1 h2 h3 ih =>
  intro d' h'
  generalize hp:q=q' at h'
  cases h' with
  | top _ h=>rw [hp] at h1;omega
  | kid p2 _ d2 h4 h5 h6 =>
   rw [<-hp] at h5
   have:=W.par _ _ _ h2 h5
   subst this
   rw [ih d2 h6]
theorem gap_no {l:List UInt8} {i:Nat} {c:UInt8} {r:List UInt8} (h:l.drop i=c :: r) (h1:isBl (c.toNat:Int)=false) (h2:c.toNat ≠ 35) (h3:c.toNat ≠ 10):gap l (l.length+1) i=.ok i:=by
 have e:bl l i=i:=bl_no h h1
 have n:nx l i=(c.toNat:Int):=nx_cons h
 show (if (cmt l (bl l i)).1=false then _ else _)=_
 rw [e,cmt_no l i (by rw [n];omega)]
 simp only [Bool.true_eq_false,if_false]
 rw [n,if_neg (by omega)]
theorem gap_sp {l:List UInt8} {i:Nat} {c:UInt8} {r:List UInt8} (h:l.drop i=32 :: c :: r) (h1:isBl (c.toNat:Int)=false) (h2:c.toNat ≠ 35) (h3:c.toNat ≠ 10):gap l (l.length+1) i=.ok (i+1):=by
 have e:bl l i=i+1:=bl_one h h1
 have n:nx l (i+1)=(c.toNat:Int):=nx_cons (drop_more (a:=[32]) h)
 show (if (cmt l (bl l i)).1=false then _ else _)=_
 rw [e,cmt_no l _ (by rw [n];omega)]
 simp only [Bool.true_eq_false,if_false]
 rw [n,if_neg (by omega)]
def vHd (c:UInt8):Prop:=c.toNat=34\/c.toNat=91\/c.toNat=45\/(48<=c.toNat/\c.toNat<=57)\/c.toNat=116\/c.toNat=102
theorem vHd_gap {c:UInt8} (h:vHd c):isBl (c.toNat:Int)=false/\c.toNat ≠ 35/\c.toNat ≠ 10/\c.toNat ≠ 93:=by
 unfold vHd at h
 refine ⟨?_,by omega,by omega,by omega⟩
 unfold isBl
 apply decide_eq_false
 omega
theorem vT_hd {ns:List Tn} {f q:Nat} (hq:q < ns.length) (h:kdAt ns q=1\/kdAt ns q=3\/kdAt ns q=4\/kdAt ns q=5):∃c r,vT ns (f+1) q=c :: r/\vHd c:=by
 rw [vT_step ns f q hq]
 have e:kdAt ns q=ns[q].kd:=by unfold kdAt;rw [List.getElem?_eq_getElem hq]
 rw [e] at h
 rcases h with h | h | h | h
 ·rw [if_pos h];exact ⟨91,_,rfl,by unfold vHd;decide⟩
 ·rw [if_neg (by omega),if_pos h];exact ⟨34,_,rfl,by unfold vHd;decide⟩
 ·rw [if_neg (by omega),if_neg (by omega),if_pos h]
  unfold Lib.itoa
  split
  ·exact ⟨45,_,rfl,by unfold vHd;decide⟩
  ·cases hd:Lib.decDigits ns[q].nu.toNat with
   | nil=>have:=dd_pos ns[q].nu.toNat;rw [hd] at this;simp at this
   | cons c r =>
    refine ⟨c,r,rfl,?_⟩
    have:=dd_all ns[q].nu.toNat c (by rw [hd];simp)
    have:=of_decide_eq_true this
    unfold vHd
    omega
 ·rw [if_neg (by omega),if_neg (by omega),if_neg (by omega),if_pos h]
  cases decide (ns[q].nu=1) with
  | true=>rw [fb_t];exact ⟨116,_,rfl,by unfold vHd;decide⟩
  | false=>rw [fb_f];exact ⟨102,_,rfl,by unfold vHd;decide⟩
theorem cm_false (m:List UInt8) (K:List (List UInt8)):cm false (m :: K)=[44,32]++cm true (m :: K):=by simp [cm]
theorem cm_true (m:List UInt8) (K:List (List UInt8)):cm true (m :: K)=m++cm false K:=by simp [cm]
def VbC (ns:List Tn) (l:List UInt8) (f:Nat):Prop:=∀(q P i up p d:Nat) (a:List Tn) (c:UInt8) (r:List UInt8) (F:Nat),q ∈ ksAt ns P->ns.length - q<=f->(kdAt ns q=1\/kdAt ns q=3\/kdAt ns q=4\/kdAt ns q=5)->Ld ns P d->up < a.length->(c=10\/c=44\/c=93)->l.drop i=vT ns f q++c :: r->2 * (l.length - i)+1<=F->∃b,val l F i up (kyAt ns q) p d a=.ok (i+(vT ns f q).length,b)/\Ext up a b [a.length]/\Al ns b q a.length
theorem lst_back {n S:Nat} {ns:List Tn} (T:Tv n ns S) (l:List UInt8) (f:Nat) (C:VbC ns l f) (Q d up:Nat) (hQ:kdAt ns Q=1) (hld:Ld ns Q d) (hf:ns.length - Q<=f+1):∀(K:List Nat) (sp:List UInt8) (i:Nat) (a:List Tn) (r:List UInt8) (F:Nat),(∀m ∈ K,m ∈ ksAt ns Q)->(sp=[]\/(sp=[32]/\K ≠ []))->up < a.length->l.drop i=sp++(cm true (K.map (vT ns f))++93 :: r)->2 * (l.length - i)+2<=F->∃b L,lst l F i up d a=.ok (i+sp.length+(cm true (K.map (vT ns f))).length+1,b)/\Ext up a b L/\Cps ns b K L:=by
 intro K
 induction K with
 | nil =>
  intro sp i a r F _ hsp hu h hF
  have e:sp=[]:=by rcases hsp with h | ⟨_,h⟩;exact h;exact absurd rfl h
  subst e
  match F,hF with
  | F+1,hF =>
   have h0:l.drop i=93 :: r:=h
   refine ⟨a,[],?_,Ext.refl _ _,Cps.nil⟩
   rw [lst_step,gap_no h0 (by decide) (by decide) (by decide)]
   simp only []
   rw [nx_cons h0,if_pos (by decide)]
   rfl
 | cons m K ih =>
  intro sp i a r F hK hsp hu h hF
  match F,hF with
  | F+1,hF =>
   have hm:=hK m (by simp)
   have hml:=T.lt _ _ hm
   have hmg:=T.gt _ _ hm
   have hsh:=(T.shp Q m hm ns[m] (List.getElem?_eq_getElem hml)).par
   rw [hQ] at hsh
   have hkm:kdAt ns m=ns[m].kd:=by unfold kdAt;rw [List.getElem?_eq_getElem hml]
   have hym:kyAt ns m=[]:=by
    rw [kyAt_in hml]
    rcases hsh with ⟨h1,_⟩ | ⟨_,h1,_⟩ | ⟨h1,_⟩
    ·exact absurd h1 (by decide)
    ·exact h1
    ·exact absurd h1 (by decide)
   have hkd:kdAt ns m=1\/kdAt ns m=3\/kdAt ns m=4\/kdAt ns m=5:=by
    rw [hkm]
    rcases hsh with ⟨h1,_⟩ | ⟨_,_,h1⟩ | ⟨h1,_⟩
    ·exact absurd h1 (by decide)
    ·exact h1
    ·exact absurd h1 (by decide)
   obtain ⟨f',rfl⟩:∃f',f=f'+1:=⟨f - 1,by omega⟩
   obtain ⟨c,vr,hv,hvh⟩:=vT_hd (f:=f') hml hkd
   obtain ⟨g1,g2,g3,g4⟩:=vHd_gap hvh
   rw [List.map_cons,cm_true] at h ⊢
   have hj:l.drop (i+sp.length)=vT ns (f'+1) m++(cm false (K.map (vT ns (f'+1)))++93 :: r):=by
    have:=drop_more h
    rw [this,List.append_assoc]
   have hgap:gap l (l.length+1) i=.ok (i+sp.length):=by
    rcases hsp with rfl | ⟨rfl,_⟩
    ·rw [hv] at hj
     exact gap_no (l:=l) (i:=i) hj g1 g2 g3
    ·rw [hv] at h
     exact gap_sp (l:=l) (i:=i) h g1 g2 g3
   have hnj:¬ nx l (i+sp.length)=93:=by
    rw [hv] at hj
    rw [nx_cons (c:=c) hj]
    omega
   have hlen:=congrArg List.length h
   rw [List.length_drop] at hlen
   simp only [List.length_append,List.length_cons] at hlen
   rw [lst_step,hgap]
   simp only []
   rw [if_neg hnj]
   cases K with
   | nil =>
    have hj2:l.drop (i+sp.length)=vT ns (f'+1) m++93 :: r:=hj
    obtain ⟨b,hb1,hb2,hb3⟩:=C m Q (i+sp.length) up (i+sp.length) d a 93 r F hm (by omega) hkd hld hu (Or.inr (Or.inr rfl)) hj2 (by omega)
    rw [hym] at hb1
    have hd2:=drop_more hj2
    refine ⟨b,[a.length],?_,hb2,Cps.one hb3⟩
    rw [hb1]
    simp only []
    rw [gap_no hd2 (by decide) (by decide) (by decide)]
    simp only []
    rw [nx_cons hd2,if_neg (by decide),if_pos (by decide)]
    simp only [List.map_nil,cm,List.append_nil]
   | cons m2 K =>
    have hj2:l.drop (i+sp.length)=vT ns (f'+1) m++44 :: ([32]++(cm true ((m2 :: K).map (vT ns (f'+1)))++93 :: r)):=by
     rw [hj,List.map_cons,cm_false]
     simp
    obtain ⟨b,hb1,hb2,hb3⟩:=C m Q (i+sp.length) up (i+sp.length) d a 44 _ F hm (by omega) hkd hld hu (Or.inr (Or.inl rfl)) hj2 (by omega)
    rw [hym] at hb1
    have hd2:=drop_more hj2
    have hd3:=drop_more (a:=[44]) hd2
    have hbl:=hb2.len
    obtain ⟨b2,L,hc1,hc2,hc3⟩:=ih [32] _ b r F (fun z hz=>hK z (by simp [hz])) (Or.inr ⟨rfl,by simp⟩) (by omega) hd3 (by simp only [List.length_cons,List.length_nil];omega)
    refine ⟨b2,a.length :: L,?_,hb2.trans hc2,?_⟩
    ·rw [hb1]
     simp only []
     rw [gap_no hd2 (by decide) (by decide) (by decide)]
     simp only []
     rw [nx_cons hd2,if_pos (by decide)]
     rw [show lst l F (i+sp.length+(vT ns (f'+1) m).length+1) up d b=_ from hc1,List.map_cons,cm_false]
     simp only [List.length_append,List.length_cons,List.length_nil]
     congr 2
     omega
    ·have hal:Al ns b2 m a.length:=hb3.keep fun p hp hl=>hc2.oth p hl (by omega)
     exact (Cps.one hal).app hc3
theorem val_back {n S:Nat} {ns:List Tn} {own:List Nat} (T:Tv n ns S) (W:WF ns own) (l:List UInt8):∀f,VbC ns l f
 | 0=>fun q P i up p d a c r F hq hf=>by
  have:=T.lt _ _ hq
  omega
 | f+1=>by
  intro q P i up p d a c r F hq hf hkd hld hu hc h hF
  have hql:=T.lt _ _ hq
  obtain ⟨hpar,htx,hnu⟩:=T.shp P q hq ns[q] (List.getElem?_eq_getElem hql)
  have hkq:kdAt ns q=ns[q].kd:=by unfold kdAt;rw [List.getElem?_eq_getElem hql]
  have hxq:ns[q]?=some ns[q]:=List.getElem?_eq_getElem hql
  have hky:=kyAt_in hql
  have HV:=vT_step ns f q hql
  match F,hF with
  | F+1,hF =>
   rw [val_step]
   rw [hkq] at hkd
   have leaf:ns[q].kd=3\/ns[q].kd=4\/ns[q].kd=5->∀y:Tn,y.kd=ns[q].kd->y.ky=kyAt ns q->y.tx=ns[q].tx->y.nu=ns[q].nu->y.ks=[]->Al ns (addN a up y) q a.length:=fun h3 y e1 e2 e3 e4 e5=>by
    have e0:dord ns q=[]:=by
     unfold dord
     rw [if_neg (by omega),tv_leaf T (by omega)]
    exact Al.mk q a.length ns[q] y hxq (add_new y hu) e1 (by rw [e2,hky]) e3 e4 (by rw [e5];simp) (by rw [e5,e0]) (by rw [e0];intro i x y hx;simp at hx)
   have hcb:isDg (c.toNat:Int)=false/\isSm (c.toNat:Int)=false:=by rcases hc with rfl | rfl | rfl <;> decide
   rcases hkd with h1 | h3 | h4 | h5
   ·rw [if_pos h1] at HV
    rw [HV] at h ⊢
    have h0:nx l i=91:=nx_cons (c:=91) h
    obtain ⟨d',hd1,hd2⟩:=T.dep P q hq (by rw [hkq];exact h1)
    have:=hld.uni W d' hd2
    subst this
    have hlk:Ld ns q (d+1):=Ld.kid P q d (by rw [hkq];exact h1) hq hld
    have hd:=drop_more (a:=[91]) (r:=[]++(cm true (ns[q].ks.map (vT ns f))++93 :: (c :: r))) (l:=l) (i:=i) (by rw [h];simp)
    have hlen:=congrArg List.length h
    rw [List.length_drop] at hlen
    simp only [List.length_append,List.length_cons] at hlen
    have hks:=ksAt_in hql
    obtain ⟨b,L,hb1,hb2,hb3⟩:=lst_back T l f (val_back T W l f) q (d+1) a.length (by rw [hkq];exact h1) hlk hf ns[q].ks [] (i+1) (addN a up ⟨1,kyAt ns q,[],0,[],p⟩) (c :: r) F (fun m hm=>by rw [hks];exact hm) (Or.inl rfl) (by rw [addN_len];omega) hd (by omega)
    refine ⟨b,?_,(ext_add _ hu).deep (Nat.le_refl _) hu hb2,?_⟩
    ·rw [h0,if_neg (by decide),if_neg (by decide),if_neg (by decide),if_pos rfl,if_neg (by omega),hb1]
     simp only [List.length_append,List.length_cons,List.length_nil,List.cons_append]
     congr 2
     omega
    ·have hn:=hb2.here _ (add_new ⟨1,kyAt ns q,[],0,[],p⟩ hu)
     have e0:dord ns q=ns[q].ks:=by unfold dord;rw [if_neg (by omega),hks]
     rw [if_neg (by omega)] at htx
     rw [if_neg (by omega),if_neg (by omega)] at hnu
     refine Al.mk q a.length ns[q] _ hxq hn h1.symm hky htx.symm hnu.symm (fun k hk=>?_) ?_ ?_
     ·have:=hb2.new k (by simpa using hk)
      rw [addN_len] at this
      omega
     ·rw [e0]
      simpa using hb3.len
     ·rw [e0]
      intro j x y hx hy
      exact hb3.al j x y hx (by simpa using hy)
   ·rw [if_neg (by omega),if_pos h3] at HV
    rw [HV] at h ⊢
    have h0:nx l i=34:=nx_cons (c:=34) h
    rw [if_pos h3] at htx
    rw [if_neg (by omega),if_neg (by omega)] at hnu
    have hd:l.drop (i+1)=ns[q].tx.flatMap qc++34 :: (c :: r):=drop_more (a:=[34]) (l:=l) (i:=i) (by rw [h];simp [qt])
    have hlen:=congrArg List.length hd
    rw [List.length_drop,List.length_append] at hlen
    refine ⟨_,?_,ext_add ⟨3,kyAt ns q,ns[q].tx,0,[],p⟩ hu,leaf (Or.inl h3) _ h3.symm rfl rfl hnu.symm rfl⟩
    rw [if_pos h0,str_back l _ htx _ (i+1) [] (c :: r) hd (by omega)]
    unfold qt
    simp only [List.nil_append,List.cons_append,List.length_cons,List.length_append,List.length_nil]
    congr 2
    omega
   ·rw [if_neg (by omega),if_neg (by omega),if_pos h4] at HV
    rw [HV] at h ⊢
    rw [if_neg (by omega)] at htx
    rw [if_pos h4] at hnu
    obtain ⟨e1,e2⟩:=rdInt_back hcb.1 hnu h
    refine ⟨_,?_,ext_add ⟨4,kyAt ns q,[],ns[q].nu,[],p⟩ hu,leaf (Or.inr (Or.inl h4)) _ h4.symm rfl htx.symm rfl rfl⟩
    have hn:¬ nx l i=34:=by
     rcases e2 with e2 | e2
     ·rw [e2];decide
     ·intro e;rw [e] at e2;exact absurd e2 (by decide)
    rw [if_neg hn,if_pos (Or.inr e2),e1]
   ·rw [if_neg (by omega),if_neg (by omega),if_neg (by omega),if_pos h5] at HV
    rw [HV] at h ⊢
    rw [if_neg (by omega)] at htx
    rw [if_neg (by omega),if_pos h5] at hnu
    obtain ⟨e1,e2⟩:=rdTru_back hcb.2 hnu h
    refine ⟨_,?_,ext_add ⟨5,kyAt ns q,[],ns[q].nu,[],p⟩ hu,leaf (Or.inr (Or.inr h5)) _ h5.symm rfl htx.symm rfl rfl⟩
    have hn:¬ nx l i=34/\¬ (nx l i=43\/nx l i=45\/isDg (nx l i)=true):=by
     rcases e2 with e2 | e2 <;> rw [e2] <;> decide
    rw [if_neg hn.1,if_neg hn.2,if_pos e2,e1]
end Go.Proofs.YtbgnflcebafjjaaGreatDoor
