import Derived.Test.YtnnbgjaphfhibaaGreatDoorM11
import Derived.Test.YtnnbgjaphfhibaaGreatDoorM17
import Derived.Test.YtnnbgjaphfhibaaGreatDoorM06
set_option linter.unusedVariables false
set_option linter.unusedSimpArgs false
set_option maxRecDepth 100000
set_option maxHeartbeats 6400000
namespace Go.Proofs.YtnnbgjaphfhibaaGreatDoor
open Go.RowKit Go.Joins
theorem abE(l:List UInt8)(i:Nat)(n:Int)(j:Nat)(hi:i<l.length)(h:jf l i=.ok (n,j)):-1000000000000000000<n/\n<1000000000000000000:=by
 unfold jf at h;simp only[]at h;have ha:(if au (nx l i)=true then i else i+1)<=l.length:=by split<;>omega
 generalize (if au (nx l i)=true then i else i+1)=a at h ha;have hj:=pI au l a ha;split at h
 ·cases h
 ·split at h
  ·cases h
  ·have hb:=(Rx l a (toR au l a) (fun c hc=>by
    have:=Lm au l a c hc;unfold au at this;have:=of_decide_eq_true this;omega) hj.1 hj.2 (by omega)).2
   cases h
   split<;>omega
theorem abG(l:List UInt8)(i:Nat)(n:Int)(j:Nat)(h:kU l i=.ok (n,j)):n=0\/n=1:=by
 rw[FK]at h;split at h
 ·cases h;decide
 ·split at h
  ·cases h;decide
  ·cases h
theorem Ul:∀(s:List UInt8),(∀c∈s,c.toNat<128)->Us s
 | [],_=>Us.nil
 | c :: s,h=>(KN c (h c (by simp))).app (Ul s fun b hb=>h b (by simp[hb]))
theorem Um(l:List UInt8)(i:Nat)(k:List UInt8)(j:Nat)(h:bY l i=.ok (k,j)):Us k:=by
 unfold bY at h;split at h
 ·exact FY l _ _ [] k j Us.nil h
 ·split at h
  ·cases h
  ·injection h with h
   injection h with h1 h2
   rw[<-h1];refine Ul _ fun c hc=>?_
   have:=Lm aO l i c hc;unfold aO bi au at this;simp at this;omega
theorem abH(l:List UInt8):∀f:Nat,(∀i up k p d ns j ns',i<=l.length->up<ns.length->((ak ns up=0/\Us k)\/(ak ns up=1/\k=[]))->Ld ns up d->d<=8->(ak ns up=0->ai ns up k=none)->k.length<=l.length->(∃S,Tv l.length ns S)->Live ns up->val l f i up k p d ns=.ok (j,ns')->j<=l.length/\GrT l.length ns ns' k.length/\∀r,Live ns r->Live ns' r)/\(∀i up d ns j ns',i<=l.length->up<ns.length->ak ns up=1->Ld ns up d->d<=8->(∃S,Tv l.length ns S)->Live ns up->lst l f i up d ns=.ok (j,ns')->j<=l.length/\GrT l.length ns ns' 0/\∀r,Live ns r->Live ns' r):=by
 intro f
 induction f with
 | zero =>
  refine⟨fun i up k p d ns j ns' _ _ _ _ _ _ _ _ _ h=>?_,fun i up d ns j ns' _ _ _ _ _ _ _ h=>?_⟩
  ·rw[val]at h;cases h
  ·rw[lst]at h;cases h
 | succ f ih =>
  refine⟨fun i up k p d ns j ns' hi hu h2 hld hd hf hk ⟨S,T⟩ lv h=>?_,fun i up d ns j ns' hi hu h1 hld hd ⟨S,T⟩ lv h=>?_⟩
  ·have one:∀x:Tn,x.ks=[]->x.ky=k->x.tx.length<=l.length->-1000000000000000000<=x.nu/\x.nu<=1000000000000000000->(x.kd=1\/x.kd=3\/x.kd=4\/x.kd=5)->(if x.kd=3 then Us x.tx else x.tx=[])->(if x.kd=4 then -1000000000000000000<x.nu/\x.nu<1000000000000000000 else if x.kd=5 then x.nu=0\/x.nu=1 else x.nu=0)->(x.kd=1->d<8)->GrT l.length ns (addN ns up x) k.length/\∀r,Live ns r->Live (addN ns up x) r:=fun x a b c e f g g2 g3=>by
    have:=GrT.one (n:=l.length) (x:=x) hu ⟨a,by rw[b];exact hk,c,e,fun e=>by rw[b];exact hf e,fun e=>(by rcases h2 with h2|h2<;>rw[e]at h2<;>exact absurd h2.1 (by decide)),⟨by
     rw[b]
     rcases h2 with⟨h2,h3⟩|⟨h2,h3⟩
     ·exact Or.inl ⟨h2,h3,by omega,by omega⟩
     ·exact Or.inr (Or.inl ⟨h2,h3,f⟩),g,g2⟩,fun e=>⟨d,g3 e,hld⟩,lv⟩
    rw[b]at this;exact⟨this,fun r hr=>RD hu a T.gt hr (Or.inr (by rcases h2 with h2|h2<;>rw[h2.1]<;>decide))⟩
   rw[sN]at h;split at h
   ·rename_i hx;have hlt:=bH (l:=l) (i:=i) (by rw[hx];decide)
    cases hs:str l (l.length+1) (i+1) [] with
    | error e=>rw[hs]at h;cases h
    | ok q =>
     obtain⟨t,j'⟩:=q;rw[hs]at h;obtain⟨a,b,c⟩:=Gv l _ (i+1) [] t j' (by omega) hs;simp only[List.length_nil]at c;have hus:=FY l _ _ [] t j' Us.nil hs
     cases h
     exact⟨b,one ⟨3,k,t,0,[],p⟩ rfl rfl (by simp only[];omega) (by simp) (by simp) (by simpa using hus) (by simp) (by simp)⟩
   ·split at h
    ·rename_i hx;have hlt:i<l.length:=by
      apply bH
      rcases hx with hx|hx|hx
      ·rw[hx];decide
      ·rw[hx];decide
      ·have:=of_decide_eq_true hx;omega
     cases hs:jf l i with
     | error e=>rw[hs]at h;cases h
     | ok q =>
      obtain⟨t,j'⟩:=q;rw[hs]at h;obtain⟨a,b⟩:=SK l i t j' hlt hs;have c:=abE l i t j' hlt hs
      cases h
      exact⟨b,one ⟨4,k,[],t,[],p⟩ rfl rfl (by simp) (by simp only[];omega) (by simp) (by simp) (by simpa using c) (by simp)⟩
    ·split at h
     ·cases hs:kU l i with
      | error e=>rw[hs]at h;cases h
      | ok q =>
       obtain⟨t,j'⟩:=q;rw[hs]at h;obtain⟨a,b⟩:=SN l i t j' hi hs;have c:=abG l i t j' hs
       cases h
       exact⟨b,one ⟨5,k,[],t,[],p⟩ rfl rfl (by simp) (by simp only[];omega) (by simp) (by simp) (by simpa using c) (by simp)⟩
     ·split at h
      ·rename_i hx;have hlt:=bH (l:=l) (i:=i) (by rw[hx];decide);split at h
       ·cases h
       ·rename_i hd8;have A:=one ⟨1,k,[],0,[],p⟩ rfl rfl (by simp) (by simp) (by simp) (by simp) (by simp) (fun _=>by omega);have k1:ak (addN ns up ⟨1,k,[],0,[],p⟩) ns.length=1:=by rw[fA ns up _ hu,if_pos rfl]
        obtain⟨a1,a2⟩:=ih.2 (i+1) ns.length (d+1) _ j ns' (by omega) (by rw[dh];omega) k1 (Ld.kid up ns.length d k1 (by rw[jM ns up _ hu,if_neg (by omega),if_pos rfl];simp) (hld.addN hu)) (by omega) ⟨_,A.1.tv T⟩ (y9 hu rfl T.gt T.lt lv) h;exact⟨a1,A.1.trans a2.1,fun r hr=>a2.2 r (A.2 r hr)⟩
      ·cases h
  ·rw[Cc]at h
   cases hg:gap l (l.length+1) i with
   | error e=>rw[hg]at h;cases h
   | ok j0 =>
    rw[hg]at h;simp only[]at h;obtain⟨g1,g2⟩:=wH l _ i j0 hi hg;split at h
    ·rename_i hx;have hlt:=bH (l:=l) (i:=j0) (by rw[hx];decide)
     cases h
     exact⟨by omega,GrT.refl _,fun _ h=>h⟩
    ·cases hv:val l f j0 up [] j0 d ns with
     | error e=>rw[hv]at h;cases h
     | ok q =>
      obtain⟨j1,ns1⟩:=q;rw[hv]at h;simp only[]at h;obtain⟨v1,v2,v3⟩:=ih.1 j0 up [] j0 d ns j1 ns1 g2 hu (Or.inr ⟨h1,rfl⟩) hld hd (fun e=>by rw[h1]at e;exact absurd e (by decide)) (by simp) ⟨S,T⟩ lv hv
      cases hg2:gap l (l.length+1) j1 with
      | error e=>rw[hg2]at h;cases h
      | ok j2 =>
       rw[hg2]at h;simp only[]at h;obtain⟨g3,g4⟩:=wH l _ j1 j2 v1 hg2;split at h
       ·rename_i hx;have hlt:=bH (l:=l) (i:=j2) (by rw[hx];decide);have hlen:=v2.len;obtain⟨a1,a2⟩:=ih.2 (j2+1) up d ns1 j ns' (by omega) (by omega) (by rw[v2.kd hu];exact h1) (v2.ld hld) hd ⟨_,v2.tv T⟩ (v3 _ lv) h;exact⟨a1,v2.trans a2.1,fun r hr=>a2.2 r (v3 r hr)⟩
       ·split at h
        ·rename_i hx;have hlt:=bH (l:=l) (i:=j2) (by rw[hx];decide)
         cases h
         exact⟨by omega,v2,v3⟩
        ·cases h
theorem abI{n:Nat}{ns ns':List Tn}{own:List Nat}{t t' p:Nat}{k:List UInt8}{S:Nat}(T:Tv n ns S)(lv:Live ns t)(J:Jt ns own t)(hk:k.length<=n)(hus:Us k)(h:fO ns t k p=.ok (t',ns')):(∃m,GrT n ns ns' m/\m<=k.length)/\Live ns' t':=by
 unfold fO at h
 cases hq:ai ns t k with
 | none =>
  rw[hq]at h
  cases h
  exact⟨⟨_,GrT.one (x:=⟨0,k,[],0,[],p⟩) J.lt ⟨rfl,hk,by simp,by simp,fun _=>hq,fun _=>rfl,BI (Or.inl ⟨J.kd,hus,Or.inl rfl⟩),fun e=>absurd (show(0:Int)=1 from e) (by decide),lv⟩,Nat.le_refl _⟩,y9 J.lt rfl T.gt T.lt lv⟩
 | some q =>
  rw[hq]at h;simp only[]at h;have hm:=(qJ hq).1;split at h
  ·cases h
   exact⟨⟨0,GrT.refl _,Nat.zero_le _⟩,Live.kid t _ lv hm fun e=>by rw[J.kd]at e;exact absurd e (by decide)⟩
  ·split at h
   ·rename_i h2;have hl:=nM h2 (by omega);have lq:Live ns q:=Live.kid t q lv hm fun e=>by rw[J.kd]at e;exact absurd e (by decide)
    have hks:ae ns q=ns[q].ks:=by unfold ae;rw[List.getElem?_eq_getElem hl]
    have hne:=(J.wt q h2).1;have hin:=T.inc q;rw[hks]at hne hin;rw[List.getElem?_eq_getElem hl]at h;simp only[]at h;have hla:ns[q].ks.getLastD 0=ns[q].ks.getLast hne:=by rw[List.getLastD_eq_getLast?,List.getLast?_eq_some_getLast hne];rfl
    rw[hla]at h
    cases h
    refine⟨⟨0,GrT.refl _,Nat.zero_le _⟩,Live.kid q _ lq (by rw[hks];exact List.getLast_mem hne) fun _ b hb=>?_⟩;rw[hks,<-List.dropLast_concat_getLast hne,List.mem_append,List.mem_singleton]at hb;rw[<-List.dropLast_concat_getLast hne,List.pairwise_append]at hin
    rcases hb with hb|hb
    ·exact Nat.le_of_lt (hin.2.2 b hb _ (by simp))
    ·omega
   ·cases h
theorem abJ{n:Nat}{ns ns':List Tn}{own:List Nat}{t t' p:Nat}{k:List UInt8}{S:Nat}(T:Tv n ns S)(lv:Live ns t)(J:Jt ns own t)(hk:k.length<=n)(hus:Us k)(h:gm ns own t k p=.ok (t',ns')):(∃m,GrT n ns ns' m/\m<=k.length)/\Live ns' t':=by
 unfold gm at h
 cases hq:ai ns t k with
 | none =>
  rw[hq]at h
  cases h
  exact⟨⟨_,GrT.one (x:=⟨0,k,[],0,[],p⟩) J.lt ⟨rfl,hk,by simp,by simp,fun _=>hq,fun _=>rfl,BI (Or.inl ⟨J.kd,hus,Or.inl rfl⟩),fun e=>absurd (show(0:Int)=1 from e) (by decide),lv⟩,Nat.le_refl _⟩,y9 J.lt rfl T.gt T.lt lv⟩
 | some q =>
  rw[hq]at h;simp only[]at h;split at h
  ·cases h
   exact⟨⟨0,GrT.refl _,Nat.zero_le _⟩,Live.kid t _ lv (qJ hq).1 fun e=>by rw[J.kd]at e;exact absurd e (by decide)⟩
  ·cases h
theorem abK{n:Nat}{ns ns':List Tn}{own:List Nat}{t t' p:Nat}{k:List UInt8}{S:Nat}(T:Tv n ns S)(lv:Live ns t)(J:Jt ns own t)(hk:k.length<=n)(hus:Us k)(h:gp ns t k p=.ok (t',ns')):(∃m,GrT n ns ns' m/\m<=k.length)/\Live ns' t':=by
 unfold gp at h
 cases hq:ai ns t k with
 | none =>
  rw[hq]at h
  cases h
  have A:GrT n ns (addN ns t ⟨2,k,[],0,[],p⟩) k.length:=GrT.one (x:=⟨2,k,[],0,[],p⟩) J.lt ⟨rfl,hk,by simp,by simp,fun _=>hq,fun e=>by rw[J.kd]at e;exact absurd e (by decide),BI (Or.inl ⟨J.kd,hus,Or.inr rfl⟩),fun e=>absurd (show(2:Int)=1 from e) (by decide),lv⟩;have lv1:=y9 (x:=⟨2,k,[],0,[],p⟩) J.lt rfl T.gt T.lt lv;have T1:=A.tv T;have e2:ak (addN ns t ⟨2,k,[],0,[],p⟩) ns.length=2:=by rw[fA ns t _ J.lt,if_pos rfl]
  have B:GrT n (addN ns t ⟨2,k,[],0,[],p⟩) (addN (addN ns t ⟨2,k,[],0,[],p⟩) ns.length ⟨0,[],[],0,[],p⟩) 0:=GrT.one (x:=⟨0,[],[],0,[],p⟩) (by rw[dh];omega) ⟨rfl,by simp,by simp,by simp,fun e=>by rw[e2]at e;exact absurd e (by decide),fun _=>rfl,BI (Or.inr ⟨e2,rfl,rfl⟩),fun e=>absurd (show(0:Int)=1 from e) (by decide),lv1⟩;have l2:=y9 (x:=⟨0,[],[],0,[],p⟩) (by rw[dh];omega) rfl T1.gt T1.lt lv1;rw[dh]at l2;exact⟨⟨_,A.trans B,Nat.le_refl _⟩,l2⟩
 | some q =>
  rw[hq]at h;simp only[]at h;have lq:Live ns q:=Live.kid t q lv (qJ hq).1 fun e=>by rw[J.kd]at e;exact absurd e (by decide)
  split at h
  ·rename_i h2
   cases h
   refine⟨⟨0,?_,Nat.zero_le _⟩,y9 (nM h2 (by omega)) rfl T.gt T.lt lq⟩;exact GrT.one (x:=⟨0,[],[],0,[],p⟩) (nM h2 (by omega)) ⟨rfl,by simp,by simp,by simp,fun e=>by rw[h2]at e;exact absurd e (by decide),fun _=>rfl,BI (Or.inr ⟨h2,rfl,rfl⟩),fun e=>absurd (show(0:Int)=1 from e) (by decide),lq⟩
  ·cases h
def pW(l:List (List UInt8 × Nat)):Nat:=(l.map fun x=>x.1.length).sum
theorem Un{n:Nat}(many:Bool)(own:List Nat):∀(l:List (List UInt8 × Nat)) (t:Nat) (ns ns':List Tn) (t':Nat),(∀x∈l,x.1.length<=n/\Us x.1)->(∃S,Tv n ns S)->Live ns t->Jt ns own t->way many own l t ns=.ok (t',ns')->(∃m,GrT n ns ns' m/\m<=pW l)/\Live ns' t'
 | [],t,ns,ns',t',hl,⟨S,T⟩,lv,J,h=>by
  cases h
  exact⟨⟨0,GrT.refl _,Nat.zero_le _⟩,lv⟩
 | [(k,p)],t,ns,ns',t',hl,⟨S,T⟩,lv,J,h=>by
  rw[A7]at h;obtain⟨hk,hus⟩:=hl (k,p) (by simp);have e:pW [(k,p)]=k.length:=by simp[pW]
  rw[e];split at h
  ·exact abK T lv J hk hus h
  ·exact abJ T lv J hk hus h
 | (k,p) :: b :: r,t,ns,ns',t',hl,⟨S,T⟩,lv,J,h=>by
  rw[A8]at h
  cases hs:fO ns t k p with
  | error e=>rw[hs]at h;cases h
  | ok z =>
   obtain⟨t1,ns1⟩:=z;rw[hs]at h;obtain⟨⟨m1,a1,a2⟩,lv1⟩:=abI (k:=k) T lv J (hl (k,p) (by simp)).1 (hl (k,p) (by simp)).2 hs;have a3:m1<=k.length:=a2;obtain⟨⟨m2,b1,b2⟩,lv2⟩:=Un many own (b :: r) t1 ns1 ns' t' (fun x hx=>hl x (by simp only[List.mem_cons]at hx ⊢;exact Or.inr hx)) ⟨_,a1.tv T⟩ lv1 (AZ J hs).1 h;refine⟨⟨m1+m2,a1.trans b1,?_⟩,lv2⟩;have e:pW ((k,p) :: b :: r)=k.length+pW (b :: r):=by simp[pW]
   omega
theorem Uo(l:List UInt8)(i:Nat)(k:List UInt8)(j:Nat)(hi:i<=l.length)(h:bY l i=.ok (k,j)):k.length+i<=j:=by
 unfold bY at h;split at h
 ·rename_i hx;have hlt:=bH (l:=l) (i:=i) (by rw[hx];decide);obtain⟨a,b,c⟩:=Gv l _ (i+1) [] k j (by omega) h;simp at c;omega
 ·split at h
  ·cases h
  ·have:=pI aO l i hi
   cases h
   unfold ag;simp;omega
theorem abL(l:List UInt8):∀(f i:Nat) (acc ks:List (List UInt8 × Nat)) (j:Nat),i<=l.length->fP l f i acc=.ok (ks,j)->pW ks+i<=pW acc+j:=by
 intro f
 induction f with
 | zero=>intro i acc ks j hi h;cases h
 | succ f ih =>
  intro i acc ks j hi h;rw[Df]at h;have b1:=jP l i hi
  cases hk:bY l (bl l i) with
  | error e=>rw[hk]at h;cases h
  | ok q =>
   obtain⟨k,j1⟩:=q;rw[hk]at h;simp only[]at h;obtain⟨k1,k2,k3⟩:=ww l (bl l i) k j1 b1.2 hk;have k4:=Uo l (bl l i) k j1 b1.2 hk;have b2:=jP l j1 k2;have e:pW (acc++[(k,bl l i)])=pW acc+k.length:=by simp[pW]
   split at h
   ·rename_i hx;have hlt:=bH (l:=l) (i:=bl l j1) (by rw[hx];decide);have:=ih (bl l j1+1) (acc++[(k,bl l i)]) ks j (by omega) h;omega
   ·cases h
    omega
theorem abM(l:List UInt8):∀(f i:Nat) (acc ks:List (List UInt8 × Nat)) (j:Nat),(∀x∈acc,Us x.1)->fP l f i acc=.ok (ks,j)->∀x∈ks,Us x.1:=by
 intro f
 induction f with
 | zero=>intro i acc ks j ha h;cases h
 | succ f ih =>
  intro i acc ks j ha h;rw[Df]at h
  cases hk:bY l (bl l i) with
  | error e=>rw[hk]at h;cases h
  | ok q =>
   obtain⟨k,j1⟩:=q;rw[hk]at h;simp only[]at h;have ha':∀x∈acc++[(k,bl l i)],Us x.1:=fun x hx=>by
    rcases List.mem_append.1 hx with hx|hx
    ·exact ha x hx
    ·rw[List.mem_singleton.1 hx];exact Um l _ k j1 hk
   split at h
   ·exact ih _ _ ks j ha' h
   ·cases h
    exact ha'
def Gi(l:List UInt8)(d d':Sd):Prop:=(∃m,GrT l.length d.ns d'.ns m/\m+d.i<=d'.i)/\Live d'.ns d'.now
def Gf(l:List UInt8)(d:Sd):Prop:=(∃S,Tv l.length d.ns S)/\Live d.ns d.now
theorem abN(l:List UInt8)(d d':Sd)(L:Li l d)(F:Gf l d)(h:rdPair l d=.ok d'):Gi l d d':=by
 obtain⟨i,ns,own,now⟩:=d;have L1:=L.jt;have L3:=L.le;simp only[]at L1 L3;rw[Me]at h
 cases hk:bY l i with
 | error e=>rw[hk]at h;cases h
 | ok q =>
  obtain⟨k,j⟩:=q;rw[hk]at h;simp only[]at h;obtain⟨k1,k2,k3⟩:=ww l i k j L3 hk;have k4:=Uo l i k j L3 hk;have b1:=jP l j k2
  cases hm:must l (bl l j) 61 with
  | error e=>rw[hm]at h;cases h
  | ok j1 =>
   rw[hm]at h;simp only[]at h;obtain⟨m1,m2⟩:=wO l _ _ 61 (by decide) hm;have b2:=jP l j1 (by omega)
   cases hq:ai ns now k with
   | some q=>rw[hq]at h;cases h
   | none =>
    rw[hq]at h;simp only[]at h
    cases hv:val l (2*l.length+2) (bl l j1) now k i 0 ns with
    | error e=>rw[hv]at h;cases h
    | ok z =>
     obtain⟨j2,ns'⟩:=z;rw[hv]at h;have A:=(GG l own _).1 (bl l j1) now k i 0 ns j2 ns' b2.2 L1.wf L1.wt L1.lt (by rw[L1.kd];decide) hv;have a3:=A.fw;obtain⟨v1,v2,v3⟩:=(abH l _).1 (bl l j1) now k i 0 ns j2 ns' b2.2 L1.lt (Or.inl ⟨L1.kd,Um l i k j hk⟩) (Ld.top now L1.kd) (by omega) (fun _=>hq) k3 F.1 F.2 hv
     cases h
     exact⟨⟨_,v2,by simp only[];omega⟩,v3 _ F.2⟩
theorem abO(l:List UInt8)(d d':Sd)(L:Li l d)(F:Gf l d)(hi:d.i<l.length)(h:gI l d=.ok d'):Gi l d d':=by
 obtain⟨i,ns,own,now⟩:=d;have L1:=L.jt;have L2:=L.rt;simp only[]at L1 L2 hi;obtain⟨many,sO⟩:=zN (decide (nx l (i+1)=91));rw[Dj l i ns own now many sO]at h;have ha:i+1<=(if many=true then i+2 else i+1)/\(if many=true then i+2 else i+1)<=l.length:=by
  cases many with
  | false=>simp;omega
  | true =>
   have hx:=of_decide_eq_true sO;have:=bH (l:=l) (i:=i+1) (by rw[hx];decide);simp;omega
 generalize (if many=true then i+2 else i+1)=a at h ha
 cases hk:fP l (l.length+1) a [] with
 | error e=>rw[hk]at h;cases h
 | ok q =>
  obtain⟨ks,j⟩:=q;rw[hk]at h;simp only[]at h;obtain⟨k1,k2,k3,k4⟩:=G6 l _ a [] ks j ha.2 (by simp) hk;have k5:=abL l _ a [] ks j ha.2 hk;have e0:pW []=0:=rfl
  cases hm:must l j 93 with
  | error e=>rw[hm]at h;cases h
  | ok j1 =>
   rw[hm]at h;simp only[]at h;obtain⟨m1,m2⟩:=wO l _ _ 93 (by decide) hm;have hj2:∀j2,(if many=true then must l j1 93 else(.ok j1:Rs Nat))=.ok j2->j1<=j2:=fun j2 hh=>by
    split at hh
    ·obtain⟨n1,n2⟩:=wO l _ _ 93 (by decide) hh;omega
    ·cases hh
     omega
   cases hc:(if many=true then must l j1 93 else(.ok j1:Rs Nat)) with
   | error e=>rw[hc]at h;cases h
   | ok j2 =>
    rw[hc]at h;simp only[]at h;have c1:=hj2 j2 hc
    cases hw:way many own ks 0 ns with
    | error e=>rw[hw]at h;cases h
    | ok z =>
     obtain⟨t,ns'⟩:=z;rw[hw]at h;obtain⟨⟨m,g1,g2⟩,g3⟩:=Un many own ks 0 ns ns' t (fun x hx=>⟨k1 x hx,abM l _ a [] ks j (by simp) hk x hx⟩) F.1 Live.root ⟨L1.wf,L1.wt,by have:=L1.lt;omega,L2⟩ hw
     cases h
     exact⟨⟨m,g1,by simp only[];omega⟩,g3⟩
theorem abP(l:List UInt8)(d d':Sd)(L:Li l d)(F:Gf l d)(hi:d.i<l.length)(h:iR l d=.ok d'):Gi l d d':=by
 obtain⟨i,ns,own,now⟩:=d;simp only[]at hi;rw[MQ]at h;have b1:=jP l i (by omega);have L':Li l ⟨bl l i,ns,own,now⟩:=Dw L (bl l i) b1.1 b1.2
 cases hm:(if nx l (bl l i)=91 then gI l ⟨bl l i,ns,own,now⟩ else if nx l (bl l i)=34\/aO (nx l (bl l i))=true then rdPair l ⟨bl l i,ns,own,now⟩ else .ok ⟨bl l i,ns,own,now⟩) with
 | error e=>rw[hm]at h;cases h
 | ok d1 =>
  rw[hm]at h;have mid:Gi l ⟨bl l i,ns,own,now⟩ d1/\d1.i<=l.length:=by
   split at hm
   ·rename_i hx;have hlt:=bH (l:=l) (i:=bl l i) (by rw[hx];decide);exact⟨abO l _ d1 L' F hlt hm,(MO l _ d1 L' hlt hm).1.le⟩
   ·split at hm
    ·exact⟨abN l _ d1 L' F hm,(MM l _ d1 L' hm).1.le⟩
    ·cases hm
     exact⟨⟨⟨0,GrT.refl _,by simp only[];omega⟩,F.2⟩,b1.2⟩
  obtain⟨⟨⟨m,g1,g2⟩,g3⟩,hle⟩:=mid;simp only[]at g1 g2;have h2:rq l d1 (bu l (bl l d1.i))=.ok d':=h;have b2:=jP l d1.i hle;have c2:=Bh l (bl l d1.i) b2.2;unfold rq at h2;split at h2
  ·cases h2
  ·split at h2
   ·cases h2
    exact⟨⟨m,g1,by simp only[];omega⟩,g3⟩
   ·cases hq:must l (bu l (bl l d1.i)).2 10 with
    | error e=>rw[hq]at h2;cases h2
    | ok q =>
     rw[hq]at h2;obtain⟨m1,m2⟩:=wO l _ _ 10 (by decide) hq
     cases h2
     exact⟨⟨m,g1,by simp only[];omega⟩,g3⟩
theorem Ur(l:List UInt8):∀(f:Nat) (d d':Sd),Li l d->Gf l d->jw l f d=.ok d'->Gi l d d'
 | 0,d,d',L,F,h=>by cases h;exact⟨⟨0,GrT.refl _,by omega⟩,F.2⟩
 | f+1,d,d',L,F,h=>by
  rw[Ha]at h;split at h
  ·cases h;exact⟨⟨0,GrT.refl _,by omega⟩,F.2⟩
  ·cases hr:iR l d with
   | error e=>rw[hr]at h;cases h
   | ok d1 =>
    rw[hr]at h;obtain⟨⟨m1,a1,a2⟩,a3⟩:=abP l d d1 L F (by omega) hr;obtain⟨S,T⟩:=F.1;obtain⟨⟨m2,b1,b2⟩,b3⟩:=Ur l f d1 d' (G9 l d d1 L (by omega) hr).1 ⟨⟨_,a1.tv T⟩,a3⟩ h;exact⟨⟨m1+m2,a1.trans b1,by omega⟩,b3⟩
theorem Hg(l:List UInt8)(ns:List Tn)(h:jL l=.ok ns):Tv 100000 ns 100000/\∃own,WF ns own/\ns.length<=200001:=by
 obtain⟨own,now,J,-,hn,hl⟩:=Uj l ns h;refine⟨?_,own,J.wf,hn⟩;rw[He]at h;split at h
 ·cases h
 ·cases ha:jw l (l.length+1) ⟨0,[⟨0,[],[],0,[],0⟩],[],0⟩ with
  | error e=>rw[ha]at h;cases h
  | ok d =>
   rw[ha]at h
   cases h
   obtain⟨⟨m,g1,g2⟩,-⟩:=Ur l _ _ _ (Dx l) ⟨⟨0,RF l.length⟩,Live.root⟩ ha;have hle:=(Nh l _ _ _ (Dx l) ha).le;have T:=g1.tv (RF l.length);exact⟨T.lt,T.gt,T.nod,T.kdd,T.two,T.root,fun x hx=>by
    obtain⟨a,b,c⟩:=T.txt x hx;exact⟨by omega,by omega,c⟩,by have:=T.sum;simp only[]at g2;omega,T.shp,T.dep,T.par,T.rt,T.uni,T.inc,T.sep⟩
open Go.RowKit Go.Joins
def dV(l:List Nat)(i:Nat):List Nat:=l.takeWhile fun q=>decide (¬q=i)
def lo(q:Nat)(l:List Nat):List Nat:=l.filter fun x=>decide (x<q)
def aT(ns:List Tn)(q:Nat):ByteArray:=match ns[q]? with|some x=>dn x|none=>⟨#[]⟩
def pX(ns:List Tn)(i:Nat):Nat:=((List.range ns.length).find? fun k=>decide (i∈ae ns k)).getD 0
def uC(x:Tn):Int:=if x.ky=jV then(if ¬x.kd=4 then 7 else if ¬x.nu=1 then 3 else 0) else if x.ky=jk/\x.kd=2 then 0 else 7
def kC(ns:List Tn)(n:ByteArray)(k:Nat):Bool:=match ai ns k fG with|some y=>decide (aT ns y=n)|none=>false
noncomputable def mF(ns:List Tn)(all t:Nat)(x:Tn):Int :=
 if x.ky=fG then(if takeD x nameB=0 then(if(dV (ae ns all) t).any (kC ns (dn x))=true then 5 else 0) else takeD x nameB)
 else if x.ky=iI then takeD x okV
 else if x.ky=iH then takeD x pF
 else if x.ky=dY/\x.kd=1 then 0 else 7
noncomputable def pY(ns:List Tn)(ls i:Nat)(x:Tn):Int :=
 if takeD x nameB=0 then(if(dV (ae ns ls) i).any (fun k=>decide (aT ns k=dn x))=true then 5 else if 20<=(dV (ae ns ls) i).length then 4 else 0) else takeD x nameB
noncomputable def iZ(ns:List Tn)(i:Nat)(x:Tn):Int :=
 if pX ns i=0 then uC x
 else if pX ns (pX ns i)=0/\ak ns (pX ns i)=2 then(if 50<=(dV (ae ns (pX ns i)) i).length then 4 else 0)
 else if ak ns (pX ns i)=0 then mF ns (pX ns (pX ns i)) (pX ns i) x
 else pY ns (pX ns i) i x
noncomputable def lS(ns:List Tn):Nat->Rs Unit
 | 0=>.ok ()
 | n+1=>match ns[ns.length-(n+1)]? with
  | none=>.ok ()
  | some x=>if iZ ns (ns.length-(n+1)) x=0 then lS ns n else .error (iZ ns (ns.length-(n+1)) x,x.pl)
def kx(ns:List Tn)(t:Nat)(k:List UInt8):ByteArray:=match ai ns t k with|some y=>aT ns y|none=>⟨#[]⟩
def kl(ns:List Tn)(t:Nat):List Nat:=match ai ns t dY with|some y=>ae ns y|none=>[]
def ja(ns:List Tn)(t:Nat):En:=⟨kx ns t fG,kx ns t iI,kx ns t iH,(kl ns t).map (aT ns)⟩
def jJ(ns:List Tn)(t:Nat):Bool:=(ai ns t fG).isSome && (ai ns t iI).isSome && (ai ns t iH).isSome && (ai ns t dY).isSome
def wR(ns:List Tn)(L:List Nat):Rs (List En):=match L.find? (fun t=>!jJ ns t) with
 | some t=>.error (6,iJ ns t)
 | none=>match (L.flatMap (kl ns)).find? (fun y=>!aZ (L.map (ja ns)) (aT ns y)) with
  | some y=>.error (6,iJ ns y)
  | none=>.ok (L.map (ja ns))
noncomputable def zM(ns:List Tn):Rs (List En):=match lS ns (ns.length-1) with
 | .error e=>.error e
 | .ok _=>match ai ns 0 jV with
  | none=>.error (6,0)
  | some _=>match ai ns 0 jk with
   | none=>.ok []
   | some p=>wR ns (ae ns p)
theorem wU:∀(l:List Nat) (i:Nat),l.Pairwise (· < ·)->i∈l->dV l i=lo i l
 | [],i,_,h=>by cases h
 | a :: r,i,h,hi=>by
  rw[List.pairwise_cons]at h;unfold dV lo;rw[List.takeWhile_cons,List.filter_cons]
  by_cases e:a=i
  ·rw[decide_eq_false (by simpa using e),decide_eq_false (by omega)];simp only[Bool.false_eq_true,if_false];symm;rw[List.filter_eq_nil_iff];intro b hb;have:=h.1 b hb;simp;omega
  ·have hr:i∈r:=by rcases List.mem_cons.1 hi with h1|h1;exact absurd h1.symm e;exact h1
   have:=h.1 i hr;rw[decide_eq_true (by simpa using e),decide_eq_true (by omega)];simp only[if_true];exact congrArg _ (wU r i h.2 hr)
theorem Hl{q:Nat}{l:List Nat}(h:¬q∈l):lo (q+1) l=lo q l:=by
 unfold lo;apply List.filter_congr;intro x hx;have:¬x=q:=fun e=>h (e ▸ hx)
 simp;omega
theorem Hm{q:Nat}:∀{l:List Nat},l.Pairwise (· < ·)->q∈l->lo (q+1) l=lo q l++[q]
 | [],_,h=>by cases h
 | a :: r,h,hq=>by
  rw[List.pairwise_cons]at h;unfold lo;rw[List.filter_cons,List.filter_cons]
  by_cases e:a=q
  ·rw[decide_eq_true (show a<q+1 by omega),decide_eq_false (show ¬a<q by omega)];simp only[if_true,Bool.false_eq_true,if_false];have e1:r.filter (fun x=>decide (x<q+1))=[]:=by rw[List.filter_eq_nil_iff];intro b hb;have:=h.1 b hb;simp;omega
   have e2:r.filter (fun x=>decide (x<q))=[]:=by rw[List.filter_eq_nil_iff];intro b hb;have:=h.1 b hb;simp;omega
   rw[e1,e2,e];rfl
  ·have hr:q∈r:=by rcases List.mem_cons.1 hq with h1|h1;exact absurd h1.symm e;exact h1
   have:=h.1 q hr;rw[decide_eq_true (show a<q+1 by omega),decide_eq_true (show a<q by omega)];simp only[if_true,List.cons_append];exact congrArg _ (Hm h.2 hr)
theorem abQ{q:Nat}{l:List Nat}(h:∀x∈l,x<q):lo q l=l:=by
 unfold lo;rw[List.filter_eq_self];intro x hx;simpa using h x hx
theorem Ut{q:Nat}{l:List Nat}(h:∀x∈l,q<=x):lo q l=[]:=by
 unfold lo;rw[List.filter_eq_nil_iff];intro x hx;simpa using h x hx
theorem uD{q x:Nat}{l:List Nat}:x∈lo q l↔x∈l/\x<q:=by unfold lo;rw[List.mem_filter];simp
theorem Nj{α:Type}[BEq α][LawfulBEq α]:∀(l m:List α),l.Nodup->(∀x∈l,x∈m)->l.length<=m.length
 | [],m,_,_=>Nat.zero_le _
 | a :: r,m,h,hs=>by
  rw[List.nodup_cons]at h;have h1:=Nj r (m.erase a) h.2 fun x hx=>(List.mem_erase_of_ne (fun e=>h.1 (by rw[<-e];exact hx))).2 (hs x (by simp[hx]))
  have h2:=List.length_erase_of_mem (hs a (by simp));have h3:0<m.length:=List.length_pos_of_mem (hs a (by simp));rw[List.length_cons];omega
section
variable {n S:Nat} {ns:List Tn}
theorem uF(T:Tv n ns S){p q:Nat}(h:q∈ae ns p):pX ns q=p:=by
 unfold pX
 cases hf:(List.range ns.length).find? fun k=>decide (q∈ae ns k) with
 | none =>
  rw[List.find?_eq_none]at hf;exact absurd h (by simpa using hf p (List.mem_range.2 (xP h)))
 | some k=>exact T.uni _ _ q (by simpa using List.find?_some hf) h
theorem yx(T:Tv n ns S){t y:Nat}{k:List UInt8}(ht:ak ns t=0)(hy:y∈ae ns t)(hk:iG ns y=k):ai ns t k=some y:=by
 rw[qI];have hb:∀q∈ae ns t,(iw ns k q=true↔iG ns q=k):=fun q hq=>by
  unfold iw iG;rw[List.getElem?_eq_getElem (T.lt _ _ hq)];simp
 have key:∀l:List Nat,(∀q∈l,q∈ae ns t)->l.Pairwise (fun a b=>iG ns a≠iG ns b)->y∈l->l.find? (iw ns k)=some y:=fun l=>by
  induction l with
  | nil=>intro _ _ h;cases h
  | cons a r ih =>
   intro hl hp hm;rw[List.pairwise_cons]at hp;rw[List.find?_cons]
   by_cases e:y=a
   ·rw[<-e,(hb y hy).2 hk]
   ·have hr:y∈r:=by rcases List.mem_cons.1 hm with h|h;exact absurd h e;exact h
    have:iw ns k a=false:=by
     rw[Bool.eq_false_iff];intro h2;exact hp.1 y hr (((hb a (hl a (by simp))).1 h2).trans hk.symm)
    rw[this];exact ih (fun q hq=>hl q (by simp[hq])) hp.2 hr
 exact key _ (fun q hq=>hq) (T.kdd t ht) hy
theorem iY{t y:Nat}{k:List UInt8}(h:ai ns t k=some y):y∈ae ns t/\iG ns y=k:=by
 obtain⟨h1,h2⟩:=qJ h;refine⟨h1,?_⟩;unfold iw at h2;unfold iG
 cases hx:ns[y]? with
 | none=>rw[hx]at h2;cases h2
 | some x=>rw[hx]at h2;exact of_decide_eq_true h2
theorem Ho(T:Tv n ns S){q:Nat}(h:2<ak ns q):ae ns q=[]:=by
 apply List.eq_nil_iff_forall_not_mem.2;intro y hy;have:=(T.shp q y hy (ns[y]'(T.lt _ _ hy)) (List.getElem?_eq_getElem (T.lt _ _ hy))).par;omega
end
open Go.RowKit Go.Joins
def aX(ns:List Tn):List Nat:=match ai ns 0 jk with|some p=>ae ns p|none=>[]
def jc(ns:List Tn)(q t:Nat)(k:List UInt8):ByteArray:=match ai ns t k with|some y=>if y<q then aT ns y else⟨#[]⟩|none=>⟨#[]⟩
def fD(ns:List Tn)(q t:Nat):En:=⟨jc ns q t fG,jc ns q t iI,jc ns q t iH,(lo q (kl ns t)).map (aT ns)⟩
def oQ(ns:List Tn)(q t:Nat):List (ByteArray × Nat):=(lo q (kl ns t)).map fun y=>(aT ns y,iJ ns y)
def Hq(ns:List Tn)(p:Nat)(k:Option iT):Prop:=(p=0/\k=some .root)\/(ai ns 0 jk=some p/\ak ns p=2/\k=some .tabs)\/(p∈aX ns/\k=some (.key (dV (aX ns) p).length))\/(∃t,t∈aX ns/\ai ns t dY=some p/\ak ns p=1/\k=some (.val (dV (aX ns) t).length))
structure Sk(ns:List Tn)(q:Nat)(d:Dr):Prop where
 z:d.lk 0=none
 no:∀p i,i∈ae ns p->q<=p->d.lk i=none
 kin:∀p i,i∈ae ns p->p<q->Hq ns p (d.lk i)
 fm:d.fm=(match ai ns 0 jV with|some i=>decide (i<q)|none=>false)
 tb:d.tb=lo q (aX ns)
 es:d.es=(lo q (aX ns)).map (fD ns q)
 wt:d.wt=(lo q (aX ns)).flatMap (oQ ns q)
 le:(lo q (aX ns)).length<=50
 nl:∀t,(lo q (kl ns t)).length<=20\/¬t∈aX ns
 k4:∀t∈aX ns,∀i∈ae ns t,i<q->iG ns i∈[fG,iI,iH,dY]
 pk:∀p,ai ns 0 jk=some p->p<q->ak ns p=2
section
variable {n S:Nat} {ns:List Tn} {q p:Nat} {d:Dr}
theorem yz{t:Nat}(h:t∈aX ns):∃p0,ai ns 0 jk=some p0/\t∈ae ns p0/\p0∈ae ns 0/\aX ns=ae ns p0:=by
 unfold aX at h ⊢
 cases hk:ai ns 0 jk with
 | none=>rw[hk]at h;cases h
 | some p0=>rw[hk]at h;exact⟨p0,rfl,h,(iY hk).1,rfl⟩
theorem wV(T:Tv n ns S):(aX ns).Pairwise (· < ·):=by
 unfold aX;split
 ·exact T.inc _
 ·exact List.Pairwise.nil
theorem uG{t:Nat}{k:List UInt8}(h:¬iG ns q=k):jc ns (q+1) t k=jc ns q t k:=by
 unfold jc
 cases hk:ai ns t k with
 | none=>rfl
 | some y =>
  have:¬y=q:=fun e=>h (by rw[<-e];exact(iY hk).2)
  simp only[]
  by_cases h2:y<q
  ·rw[if_pos h2,if_pos (by omega)]
  ·rw[if_neg h2,if_neg (by omega)]
theorem zO(T:Tv n ns S)(hp:q∈ae ns p){t:Nat}(ht:¬t=p)(k:List UInt8):jc ns (q+1) t k=jc ns q t k:=by
 unfold jc
 cases hk:ai ns t k with
 | none=>rfl
 | some y =>
  have:¬y=q:=fun e=>ht (T.uni _ _ q (by rw[<-e];exact(iY hk).1) hp)
  simp only[]
  by_cases h2:y<q
  ·rw[if_pos h2,if_pos (by omega)]
  ·rw[if_neg h2,if_neg (by omega)]
theorem DD(T:Tv n ns S)(hp:q∈ae ns p){t:Nat}(ht:¬ai ns t dY=some p):lo (q+1) (kl ns t)=lo q (kl ns t):=by
 refine Hl fun h=>ht ?_
 unfold kl at h
 cases hk:ai ns t dY with
 | none=>rw[hk]at h;cases h
 | some y=>rw[hk]at h;rw[T.uni _ _ q h hp]
theorem Hr(T:Tv n ns S)(hp:q∈ae ns p){t:Nat}(ht:¬t=p)(ht2:¬ai ns t dY=some p):fD ns (q+1) t=fD ns q t/\oQ ns (q+1) t=oQ ns q t:=by
 unfold fD oQ;rw[zO T hp ht,zO T hp ht,zO T hp ht,DD T hp ht2];exact⟨rfl,rfl⟩
theorem zQ(T:Tv n ns S){t:Nat}(h:t∈aX ns):0<t/\(∀p0,ai ns 0 jk=some p0->p0<t/\0<p0/\¬ai ns t dY=some p0)/\∀t',t'∈aX ns->¬ai ns t' dY=some t:=by
 obtain⟨p0,h1,h2,h3,h4⟩:=yz h;have g0:=T.gt _ _ h2;have g1:=T.gt _ _ h3;refine⟨by omega,fun p1 hp1=>?_,fun t' ht' hk=>?_⟩
 ·rw[h1]at hp1
  cases hp1
  refine⟨g0,g1,fun hk=>?_⟩;have:=T.uni _ _ _ (iY hk).1 h3;omega
 ·have:=T.uni _ _ _ (iY hk).1 h2;rw[h4]at ht';have:=T.gt _ _ ht';omega
theorem Ht{f g:Nat->En}{u v:Nat->List (ByteArray × Nat)}{l:List Nat}(h:∀t∈l,f t=g t/\u t=v t):l.map f=l.map g/\l.flatMap u=l.flatMap v :=
 ⟨List.map_congr_left fun t ht=>(h t ht).1,by rw[List.flatMap,List.flatMap,List.map_congr_left fun t ht=>(h t ht).2]⟩
theorem Uu(T:Tv n ns S){t:Nat}(ht:t∈aX ns)(hd:kP ns t q)(hlt:t<q)(pk:∀p,ai ns 0 jk=some p->ak ns p=2):lo q (aX ns)=dV (aX ns) t++[t]:=by
 obtain⟨p0,h1,h2,h3,h4⟩:=yz ht;rw[wU _ t (wV T) ht,<-Hm (wV T) ht];unfold lo;apply List.filter_congr;intro x hx
 by_cases hx2:t<x
 ·rw[h4]at hx;have:=T.sep p0 t x q (pk p0 h1) h2 hx hx2 hd;simp;omega
 ·simp;omega
theorem Sk.next(T:Tv n ns S)(H:Sk ns q d)(hq:0<q)(d':Dr)(kp:Option iT)(hlk:∀i,d'.lk i=if i∈ae ns q then kp else d.lk i)(hk:∀i∈ae ns q,Hq ns q kp)
  (fm:d'.fm=(match ai ns 0 jV with|some i=>decide (i<q+1)|none=>false)) (tb:d'.tb=lo (q+1) (aX ns)) (es:d'.es=(lo (q+1) (aX ns)).map (fD ns (q+1))) (wt:d'.wt=(lo (q+1) (aX ns)).flatMap (oQ ns (q+1)))
  (le:(lo (q+1) (aX ns)).length<=50) (nl:∀t,(lo (q+1) (kl ns t)).length<=20\/¬t∈aX ns) (k4:∀t∈aX ns,q∈ae ns t->iG ns q∈[fG,iI,iH,dY]) (pk:ai ns 0 jk=some q->ak ns q=2):Sk ns (q+1) d':=by
 refine⟨?_,fun p i hi hp=>?_,fun p i hi hp=>?_,fm,tb,es,wt,le,nl,fun t ht i hi hl=>?_,fun p hp hl=>?_⟩
 ·rw[hlk,if_neg (fun h=>by have:=T.gt _ _ h;omega)];exact H.z
 ·rw[hlk,if_neg (fun h=>by have:=T.uni _ _ _ h hi;omega)];exact H.no p i hi (by omega)
 ·rw[hlk]
  by_cases e:p=q
  ·rw[e]at hi;rw[if_pos hi,e];exact hk i hi
  ·rw[if_neg (fun h=>e (T.uni _ _ _ hi h))];exact H.kin p i hi (by omega)
 ·by_cases e:i=q
  ·rw[e]at hi ⊢;exact k4 t ht hi
  ·exact H.k4 t ht i hi (by omega)
 ·by_cases e:p=q
  ·rw[e]at hp ⊢;exact pk hp
  ·exact H.pk p hp (by omega)
theorem DF(h:ae ns q=[])(d:Dr)(kp:Option iT):∀i,d.lk i=if i∈ae ns q then kp else d.lk i:=fun i=>by rw[h,if_neg (by simp)]
theorem Nk{x:Tn}{is:ByteArray->Bool}(h:takeD x is=0):x.kd=3/\is (dn x)=true:=by
 unfold takeD at h
 by_cases h3:x.kd=3
 ·rw[if_neg (by simpa using h3)]at h
  by_cases h2:is (dn x)=true
  ·exact⟨h3,h2⟩
  ·rw[if_neg h2]at h;exact absurd h (by decide)
 ·rw[if_pos h3]at h;exact absurd h (by decide)
def Goes(ns:List Tn)(q:Nat)(x:Tn)(r:Except Int Dr):Prop:=(iZ ns q x=0->∃d',r=.ok d'/\Sk ns (q+1) d')/\(¬iZ ns q x=0->r=.error (iZ ns q x))
end
open Go.RowKit Go.Joins
section
variable {n S:Nat} {ns:List Tn} {q p:Nat} {d:Dr}
theorem Hu{x:Tn}(h:ns[q]?=some x):iG ns q=x.ky/\ak ns q=x.kd/\ae ns q=x.ks/\aT ns q=dn x/\iJ ns q=x.pl:=by
 unfold iG ak ae aT iJ;rw[h];exact⟨rfl,rfl,rfl,rfl,rfl⟩
theorem Nl(T:Tv n ns S)(H:Sk ns q d)(hp:q∈ae ns p)(h:∀t∈aX ns,¬ai ns t dY=some p):∀t,(lo (q+1) (kl ns t)).length<=20\/¬t∈aX ns:=fun t=>by
 by_cases ht:t∈aX ns
 ·rw[DD T hp (h t ht)];exact H.nl t
 ·exact Or.inr ht
theorem abR(T:Tv n ns S)(H:Sk ns q d)(hp:q∈ae ns 0){x:Tn}(hx:ns[q]?=some x):Goes ns q x (gJ d q x .root):=by
 have h0:=T.gt _ _ hp;obtain⟨k1,k2,k3,-,-⟩:=Hu hx;have hN:iZ ns q x=uC x:=by unfold iZ;rw[uF T hp,if_pos rfl]
 have hnt:∀t∈aX ns,¬t=0/\¬ai ns t dY=some 0:=fun t ht=>⟨by have:=(zQ T ht).1;omega,fun hk=>by have:=T.gt _ _ (iY hk).1;omega⟩
 have hout:¬q∈aX ns:=fun h=>by
  obtain⟨p0,-,h2,h3,-⟩:=yz h;have e1:=T.uni _ _ _ h2 hp;have:=T.gt _ _ h3;omega
 have hsame:=Ht (l:=lo q (aX ns)) (fun t ht=>Hr T hp (hnt t (uD.1 ht).1).1 (hnt t (uD.1 ht).1).2);have hlo:=Hl hout;have fin:∀(d':Dr) (kp:Option iT),(∀i,d'.lk i=if i∈ae ns q then kp else d.lk i)->(∀i∈ae ns q,Hq ns q kp)->d'.fm=(match ai ns 0 jV with|some i=>decide (i<q+1)|none=>false)->d'.tb=d.tb->d'.es=d.es->d'.wt=d.wt->(ai ns 0 jk=some q->ak ns q=2)->Sk ns (q+1) d':=fun d' kp a b c e f g i =>
  H.next T h0 d' kp a b c (by rw[e,hlo];exact H.tb) (by rw[f,hlo,hsame.1];exact H.es) (by rw[g,hlo,hsame.2];exact H.wt) (by rw[hlo];exact H.le) (Nl T H hp fun t ht=>(hnt t ht).2) (fun t ht jX=>absurd (T.uni _ _ _ jX hp) (hnt t ht).1) i
 have kf:¬iG ns q=jV->(match ai ns 0 jV with|some i=>decide (i<q+1)|none=>false)=d.fm:=fun hne=>by
  rw[H.fm]
  cases hk:ai ns 0 jV with
  | none=>rfl
  | some i =>
   have:¬i=q:=fun e=>hne (by rw[<-e];exact(iY hk).2)
   simp only[]
   by_cases h2:i<q
   ·rw[decide_eq_true h2,decide_eq_true (by omega)]
   ·rw[decide_eq_false h2,decide_eq_false (by omega)]
 unfold Goes;rw[hN];unfold uC gJ;simp only[]
 by_cases e1:x.ky=jV
 ·rw[if_pos e1,if_pos e1]
  by_cases e2:x.kd=4
  ·rw[if_neg (show ¬¬x.kd=4 by simpa using e2),if_neg (show ¬¬x.kd=4 by simpa using e2)]
   by_cases e3:x.nu=1
   ·rw[if_neg (show ¬¬x.nu=1 by simpa using e3),if_neg (show ¬¬x.nu=1 by simpa using e3)];refine⟨fun _=>⟨_,rfl,fin _ none (DF (Ho T (by rw[k2,e2];decide)) _ _) (fun i hi=>by rw[Ho T (by rw[k2,e2];decide)]at hi;cases hi) ?_ rfl rfl rfl fun hk=>?_⟩,fun h=>absurd rfl h⟩
    ·rw[yx T T.root.2 hp (k1.trans e1)];exact(decide_eq_true (by omega)).symm
    ·have:=(iY hk).2;rw[k1,e1]at this;exact absurd this (by decide)
   ·rw[if_pos e3,if_pos e3];exact⟨fun h=>absurd h (by decide),fun _=>rfl⟩
  ·rw[if_pos e2,if_pos e2];exact⟨fun h=>absurd h (by decide),fun _=>rfl⟩
 ·rw[if_neg e1,if_neg e1]
  by_cases e2:x.ky=jk/\x.kd=2
  ·rw[if_pos e2,if_pos e2];have hpk:=yx T T.root.2 hp (k1.trans e2.1);exact⟨fun _=>⟨_,rfl,fin _ (some .tabs) (fun i=>by rw[k3];rfl) (fun i _=>Or.inr (Or.inl ⟨hpk,by rw[k2,e2.2],rfl⟩)) (kf (by rw[k1];exact e1)).symm rfl rfl rfl fun _=>by rw[k2,e2.2]⟩,fun h=>absurd rfl h⟩
  ·rw[if_neg e2,if_neg e2];exact⟨fun h=>absurd h (by decide),fun _=>rfl⟩
theorem Np(T:Tv n ns S)(H:Sk ns q d)(hp:q∈ae ns p)(h0:0<p):(match ai ns 0 jV with|some i=>decide (i<q+1)|none=>false)=d.fm:=by
 rw[H.fm]
 cases hk:ai ns 0 jV with
 | none=>rfl
 | some i =>
  have:¬i=q:=fun e=>by have:=T.uni _ _ _ (iY hk).1 (by rw[e];exact hp);omega
  simp only[]
  by_cases h2:i<q
  ·rw[decide_eq_true h2,decide_eq_true (by omega)]
  ·rw[decide_eq_false h2,decide_eq_false (by omega)]
theorem Nq(T:Tv n ns S)(hp:q∈ae ns p)(h0:0<p):ai ns 0 jk=some q->ak ns q=2:=fun hk=>by
 have:=T.uni _ _ _ (iY hk).1 hp;omega
theorem abS(T:Tv n ns S)(H:Sk ns q d)(hp:q∈ae ns p)(hpk:ai ns 0 jk=some p)(hk2:ak ns p=2){x:Tn}(hx:ns[q]?=some x):Goes ns q x (gJ d q x .tabs):=by
 have hp0:=T.gt _ _ (iY hpk).1;have hpq:=T.gt _ _ hp;obtain⟨k1,k2,k3,-,-⟩:=Hu hx;have hL:aX ns=ae ns p:=by unfold aX;rw[hpk]
 have jU:q∈aX ns:=by rw[hL];exact hp
 have hah:(dV (ae ns p) q).length=d.tb.length:=by rw[<-hL,wU _ q (wV T) jU,H.tb]
 have hN:iZ ns q x=if 50<=d.tb.length then 4 else 0:=by
  unfold iZ;rw[uF T hp,if_neg (by omega),uF T (iY hpk).1,if_pos ⟨rfl,hk2⟩,hah]
 have hle:=H.le;rw[<-H.tb]at hle;unfold Goes;rw[hN];unfold gJ;simp only[]
 by_cases e:d.tb.length=50
 ·rw[if_pos (by omega),if_pos e];exact⟨fun h=>absurd h (by decide),fun _=>rfl⟩
 ·rw[if_neg (by omega),if_neg e];refine⟨fun _=>⟨_,rfl,?_⟩,fun h=>absurd rfl h⟩;have hin:=Hm (wV T) jU;have hnt:∀t∈aX ns,¬t=p/\¬ai ns t dY=some p:=fun t ht=>⟨by have:=((zQ T ht).2.1 p hpk).1;omega,((zQ T ht).2.1 p hpk).2.2⟩
  have hsame:=Ht (l:=lo q (aX ns)) (fun t ht=>Hr T hp (hnt t (uD.1 ht).1).1 (hnt t (uD.1 ht).1).2);have hgt:∀k y,ai ns q k=some y->q<y:=fun k y h=>T.gt _ _ (iY h).1
  have hkx:∀k,jc ns (q+1) q k=⟨#[]⟩:=fun k=>by
   unfold jc
   cases hk:ai ns q k with
   | none=>rfl
   | some y=>simp only[];rw[if_neg (by have:=hgt k y hk;omega)]
  have hkl:lo (q+1) (kl ns q)=[]:=Ut fun z hz=>by
   unfold kl at hz
   cases hk:ai ns q dY with
   | none=>rw[hk]at hz;cases hz
   | some y=>rw[hk]at hz;have:=hgt _ y hk;have:=T.gt _ _ hz;omega
  have hnew:fD ns (q+1) q=en0/\oQ ns (q+1) q=[]:=by
   unfold fD oQ;rw[hkx,hkx,hkx,hkl];exact⟨rfl,rfl⟩
  have hel:d.es.length=d.tb.length:=by rw[H.es,H.tb,List.length_map]
  refine H.next T (by omega) _ (some (.key d.es.length)) (fun i=>by rw[k3];rfl) (fun i _=>Or.inr (Or.inr (Or.inl ⟨jU,?_⟩))) ?_ ?_ ?_ ?_ ?_ (Nl T H hp fun t ht=>(hnt t ht).2) (fun t ht jX=>absurd (T.uni _ _ _ jX hp) (hnt t ht).1) (Nq T hp hp0)
  ·rw[hel,hL,hah]
  ·exact(Np T H hp hp0).symm
  ·show d.tb++[q]=_;rw[hin,H.tb]
  ·show d.es++[en0]=_;rw[hin,List.map_append,hsame.1,H.es];simp[hnew.1]
  ·show d.wt=_;rw[hin,List.flatMap_append,hsame.2,H.wt];simp[hnew.2]
  ·rw[hin,List.length_append,<-H.tb];simp;omega
end
open Go.RowKit Go.Joins
theorem abT{s:ByteArray}(h:nameB s=true):¬s=⟨#[]⟩:=fun e=>by
 rw[rM (fun hp=>by have:=hp.1;rw[e]at this;exact absurd this (by decide))]at h
 cases h
section
variable {n S:Nat} {ns:List Tn} {q p:Nat} {d:Dr}
theorem abU(T:Tv n ns S)(H:Sk ns q d)(hp:q∈ae ns p)(hL:p∈aX ns){x:Tn}(hx:ns[q]?=some x):Goes ns q x (gJ d q x (.key (dV (aX ns) p).length)):=by
 obtain⟨p0,hpk,hpp,hp0,DI⟩:=yz hL;have g0:=T.gt _ _ hp0;have g1:=T.gt _ _ hpp;have g2:=T.gt _ _ hp;obtain⟨k1,k2,k3,k4,-⟩:=Hu hx;have pk:∀p,ai ns 0 jk=some p->ak ns p=2:=fun p1 h=>H.pk p1 h (by rw[hpk]at h;cases h;omega)
 have hkd:ak ns p=0:=T.two p0 p (pk p0 hpk) hpp;have hlast:=Uu T hL (kP.kid _ _ kP.self hp) g2 pk;have hN:iZ ns q x=mF ns p0 p x:=by
  unfold iZ;rw[uF T hp,if_neg (by omega),uF T hpp,if_neg (fun h=>by omega),if_pos hkd]
 have hne:∀t∈aX ns,¬ai ns t dY=some p:=fun t ht=>(zQ T hL).2.2 t ht
 have hout:¬q∈aX ns:=fun h=>by rw[DI]at h;have:=T.uni _ _ _ h hp;omega
 have hlo:=Hl hout;have hsA:=Ht (l:=dV (aX ns) p) (fun t ht=>Hr T hp (t:=t) (fun e=>by
  rw[wU _ p (wV T) hL,uD]at ht;omega) (hne t (by rw[wU _ p (wV T) hL,uD]at ht;exact ht.1)))
 obtain⟨A,hA⟩:=zN (dV (aX ns) p);have hAm:∀t∈A,t∈aX ns/\t<p:=fun t ht=>by rw[<-hA,wU _ p (wV T) hL,uD]at ht;exact ht
 rw[hA]at hlast hsA ⊢;have hes:d.es=A.map (fD ns q)++[fD ns q p]:=by rw[H.es,hlast,List.map_append];rfl
 have hwp:oQ ns (q+1) p=oQ ns q p:=by unfold oQ;rw[DD T hp (hne p hL)]
 have hkl:=DD T hp (hne p hL);have hent:bn d.es A.length=fD ns q p:=by
  rw[hes];have:=Qv (A.map (fD ns q)) (fD ns q p)
  rwa [List.length_map]at this
 have hset:∀y,d.es.set A.length y=A.map (fD ns q)++[y]:=fun y=>by
  rw[hes];have:=Qw (A.map (fD ns q)) (fD ns q p) y
  rwa [List.length_map]at this
 have fin:∀(d':Dr) (kp:Option iT),(∀i,d'.lk i=if i∈ae ns q then kp else d.lk i)->(∀i∈ae ns q,Hq ns q kp)->d'.fm=d.fm->d'.tb=d.tb->d'.es=A.map (fD ns q)++[fD ns (q+1) p]->d'.wt=d.wt->iG ns q∈[fG,iI,iH,dY]->Sk ns (q+1) d':=fun d' kp a b c e f g i =>
  H.next T (by omega) d' kp a b (by rw[c];exact(Np T H hp (by omega)).symm) (by rw[e,hlo];exact H.tb) (by rw[f,hlo,hlast,List.map_append,hsA.1];rfl) (by
   rw[g,hlo,H.wt,hlast,List.flatMap_append,List.flatMap_append,hsA.2,List.flatMap_singleton,List.flatMap_singleton,hwp]) (by rw[hlo];exact H.le) (Nl T H hp hne) (fun t ht jX=>i) (Nq T hp (by omega))
 have leaf:∀{is:ByteArray->Bool},takeD x is=0->ae ns q=[]:=fun h=>Ho T (by rw[k2,(Nk h).1];decide)
 unfold Goes;rw[hN];unfold mF gJ lY;simp only[]
 by_cases e1:x.ky=fG
 ·rw[if_pos e1,if_pos e1]
  by_cases e2:takeD x nameB=0
  ·rw[if_pos e2,if_pos e2];have hnn:=abT (Nk e2).2;have hkq:=yx T hkd hp (k1.trans e1);have hhas:aZ d.es (dn x)=(dV (ae ns p0) p).any (kC ns (dn x)):=by
    rw[<-DI,hA,hes];unfold aZ;rw[List.any_append,List.any_map];have h1:([fD ns q p].any fun e=>decide (e.nm=dn x))=false:=by
     have:(fD ns q p).nm=⟨#[]⟩:=by
      show jc ns q p fG=_;unfold jc;rw[hkq];simp only[];rw[if_neg (by omega)]
     simp only[List.any_cons,List.any_nil,Bool.or_false,this];exact decide_eq_false fun h=>hnn h.symm
    rw[h1,Bool.or_false];have key:∀t∈A,decide ((fD ns q t).nm=dn x)=kC ns (dn x) t:=fun t ht=>by
     have e1:(fD ns q t).nm=jc ns q t fG:=rfl;unfold kC
     cases hk:ai ns t fG with
     | none =>
      have e2:jc ns q t fG=⟨#[]⟩:=by unfold jc;rw[hk]
      exact decide_eq_false fun h=>hnn (h.symm.trans (e1.trans e2))
     | some y =>
      have hy:=(iY hk).1;have htp:=hAm t ht;have:y<p:=T.sep p0 t p y (pk p0 hpk) (by rw[<-DI];exact htp.1) hpp htp.2 (kP.kid _ _ kP.self hy);have e2:jc ns q t fG=aT ns y:=by
       unfold jc;rw[hk];simp only[];rw[if_pos (by omega)]
      simp only[e1,e2]
    have any_c:∀(f g:Nat->Bool) (l:List Nat),(∀t∈l,f t=g t)->l.any f=l.any g:=fun f g l h=>by
     induction l with
     | nil=>rfl
     | cons a r ih=>rw[List.any_cons,List.any_cons,h a (by simp),ih fun t ht=>h t (by simp[ht])]
    exact any_c _ _ A key
   rw[hhas]
   by_cases e3:(dV (ae ns p0) p).any (kC ns (dn x))=true
   ·rw[if_pos e3,if_pos e3];exact⟨fun h=>absurd h (by decide),fun _=>rfl⟩
   ·rw[if_neg e3,if_neg e3];refine⟨fun _=>⟨_,rfl,fin _ none (DF (leaf e2) _ _) (fun i hi=>by rw[leaf e2]at hi;cases hi) rfl rfl ?_ rfl (by rw[k1,e1];simp)⟩,fun h=>absurd rfl h⟩;show d.es.set A.length _=_;rw[hset,hent];unfold fD;rw[hkl,uG (k:=iI) (by rw[k1,e1];decide),uG (k:=iH) (by rw[k1,e1];decide)];have:jc ns (q+1) p fG=dn x:=by
     unfold jc;rw[hkq];simp only[];rw[if_pos (by omega),k4]
    rw[this]
  ·rw[if_neg e2,if_neg e2];exact⟨fun h=>absurd h e2,fun _=>rfl⟩
 ·rw[if_neg e1,if_neg e1]
  by_cases e2:x.ky=iI
  ·rw[if_pos e2,if_pos e2];unfold oC
   by_cases e3:takeD x okV=0
   ·rw[if_pos e3];have hkq:=yx T hkd hp (k1.trans e2);refine⟨fun _=>⟨_,rfl,fin _ none (DF (leaf e3) _ _) (fun i hi=>by rw[leaf e3]at hi;cases hi) rfl rfl ?_ rfl (by rw[k1,e2];simp)⟩,fun h=>absurd e3 h⟩;show d.es.set A.length _=_;rw[hset,hent];unfold fD;rw[hkl,uG (k:=fG) (by rw[k1,e2];decide),uG (k:=iH) (by rw[k1,e2];decide)];have:jc ns (q+1) p iI=dn x:=by
     unfold jc;rw[hkq];simp only[];rw[if_pos (by omega),k4]
    rw[this]
   ·rw[if_neg e3];exact⟨fun h=>absurd h e3,fun _=>rfl⟩
  ·rw[if_neg e2,if_neg e2]
   by_cases e3:x.ky=iH
   ·rw[if_pos e3,if_pos e3];unfold oC
    by_cases e4:takeD x pF=0
    ·rw[if_pos e4];have hkq:=yx T hkd hp (k1.trans e3);refine⟨fun _=>⟨_,rfl,fin _ none (DF (leaf e4) _ _) (fun i hi=>by rw[leaf e4]at hi;cases hi) rfl rfl ?_ rfl (by rw[k1,e3];simp)⟩,fun h=>absurd e4 h⟩;show d.es.set A.length _=_;rw[hset,hent];unfold fD;rw[hkl,uG (k:=fG) (by rw[k1,e3];decide),uG (k:=iI) (by rw[k1,e3];decide)];have:jc ns (q+1) p iH=dn x:=by
      unfold jc;rw[hkq];simp only[];rw[if_pos (by omega),k4]
     rw[this]
    ·rw[if_neg e4];exact⟨fun h=>absurd h e4,fun _=>rfl⟩
   ·rw[if_neg e3,if_neg e3]
    by_cases e4:x.ky=dY/\x.kd=1
    ·rw[if_pos e4,if_pos e4];have hkq:=yx T hkd hp (k1.trans e4.1);refine⟨fun _=>⟨_,rfl,fin _ (some (.val A.length)) (fun i=>by rw[k3];rfl) (fun i _=>Or.inr (Or.inr (Or.inr ⟨p,hL,hkq,by rw[k2,e4.2],by rw[hA]⟩))) rfl rfl ?_ rfl (by rw[k1,e4.1];simp)⟩,fun h=>absurd rfl h⟩;show d.es=_;rw[hes];unfold fD;rw[hkl,uG (k:=fG) (by rw[k1,e4.1];decide),uG (k:=iI) (by rw[k1,e4.1];decide),uG (k:=iH) (by rw[k1,e4.1];decide)]
    ·rw[if_neg e4,if_neg e4];exact⟨fun h=>absurd h (by decide),fun _=>rfl⟩
theorem abV(T:Tv n ns S)(H:Sk ns q d)(hp:q∈ae ns p){t:Nat}(hL:t∈aX ns)(hkn:ai ns t dY=some p)(hk1:ak ns p=1){x:Tn}(hx:ns[q]?=some x):Goes ns q x (gJ d q x (.val (dV (aX ns) t).length)):=by
 obtain⟨p0,hpk,hpp,hp0,DI⟩:=yz hL;have hpt:=(iY hkn).1;have g0:=T.gt _ _ hp0;have g1:=T.gt _ _ hpp;have g2:=T.gt _ _ hpt;have g3:=T.gt _ _ hp;obtain⟨k1,k2,k3,k4,k5⟩:=Hu hx;have pk:∀p,ai ns 0 jk=some p->ak ns p=2:=fun p1 h=>H.pk p1 h (by rw[hpk]at h;cases h;omega)
 have hlast:=Uu T hL (kP.kid _ _ (kP.kid _ _ kP.self hpt) hp) (by omega) pk;have hN:iZ ns q x=pY ns p q x:=by
  unfold iZ;rw[uF T hp,if_neg (by omega),uF T hpt,if_neg (fun h=>by omega),if_neg (by rw[hk1];decide)]
 have zS:¬p∈aX ns:=fun h=>(zQ T h).2.2 t hL hkn
 have hne:∀t'∈aX ns,¬t'=t->¬t'=p/\¬ai ns t' dY=some p:=fun t' ht hn=>⟨fun e=>zS (by rw[<-e];exact ht),fun hk=>hn (T.uni _ _ _ (iY hk).1 hpt)⟩
 have hout:¬q∈aX ns:=fun h=>by
  rw[DI]at h;have:=T.uni _ _ _ h hp;omega
 have hlo:=Hl hout;have hAm:∀t'∈dV (aX ns) t,t'∈aX ns/\t'<t:=fun t' ht=>by rw[wU _ t (wV T) hL,uD]at ht;exact ht
 have hsA:=Ht (l:=dV (aX ns) t) (fun t' ht=>Hr T hp (hne t' (hAm t' ht).1 (by have:=(hAm t' ht).2;omega)).1 (hne t' (hAm t' ht).1 (by have:=(hAm t' ht).2;omega)).2);obtain⟨A,hA⟩:=zN (dV (aX ns) t);rw[hA]at hlast hsA ⊢;have hes:d.es=A.map (fD ns q)++[fD ns q t]:=by rw[H.es,hlast,List.map_append];rfl
 have hkl:kl ns t=ae ns p:=by unfold kl;rw[hkn]
 have hah:dV (ae ns p) q=lo q (kl ns t):=by rw[hkl,wU _ q (T.inc p) hp]
 have hnew:lo (q+1) (kl ns t)=lo q (kl ns t)++[q]:=by rw[hkl];exact Hm (T.inc p) hp
 have hent:bn d.es A.length=fD ns q t:=by
  rw[hes];have:=Qv (A.map (fD ns q)) (fD ns q t)
  rwa [List.length_map]at this
 have hset:∀y,d.es.set A.length y=A.map (fD ns q)++[y]:=fun y=>by
  rw[hes];have:=Qw (A.map (fD ns q)) (fD ns q t) y
  rwa [List.length_map]at this
 have hnd:(fD ns q t).nd=(lo q (kl ns t)).map (aT ns):=rfl;have afG:(lo q (kl ns t)).length<=20:=by rcases H.nl t with h|h;exact h;exact absurd hL h
 unfold Goes;rw[hN];unfold pY gJ oD;simp only[];rw[hah,hent,hnd,List.any_map,List.length_map]
 by_cases e1:takeD x nameB=0
 ·rw[if_pos e1,if_pos e1];have hf:((fun y=>decide (y=dn x)) ∘ aT ns)=fun k=>decide (aT ns k=dn x):=rfl
  rw[hf]
  by_cases e2:(lo q (kl ns t)).any (fun k=>decide (aT ns k=dn x))=true
  ·rw[if_pos e2,if_pos e2];exact⟨fun h=>absurd h (by decide),fun _=>rfl⟩
  ·rw[if_neg e2,if_neg e2]
   by_cases e3:(lo q (kl ns t)).length=20
   ·rw[if_pos (by omega),if_pos e3];exact⟨fun h=>absurd h (by decide),fun _=>rfl⟩
   ·rw[if_neg (by omega),if_neg e3];have leaf:ae ns q=[]:=Ho T (by rw[k2,(Nk e1).1];decide);refine⟨fun _=>⟨_,rfl,H.next T (by omega) _ none (DF leaf _ _) (fun i hi=>by rw[leaf]at hi;cases hi) (Np T H hp (by omega)).symm ?_ ?_ ?_ (by rw[hlo];exact H.le) (fun t'=>?_) (fun t' ht jX=>?_) (Nq T hp (by omega))⟩,fun h=>absurd rfl h⟩
    ·show d.tb=_;rw[hlo];exact H.tb
    ·show d.es.set A.length _=_;rw[hset,hlo,hlast,List.map_append,hsA.1];congr 1;show _=[fD ns (q+1) t];unfold fD;rw[hnew,zO T hp (by omega),zO T hp (by omega),zO T hp (by omega),List.map_append];simp only[List.map_cons,List.map_nil,k4]
    ·show d.wt++[(dn x,x.pl)]=_;rw[hlo,hlast,List.flatMap_append,hsA.2,List.flatMap_singleton,H.wt,hlast,List.flatMap_append,List.flatMap_singleton,List.append_assoc];congr 1;unfold oQ;rw[hnew,List.map_append];simp only[List.map_cons,List.map_nil,k4,k5]
    ·by_cases ht:t'∈aX ns
     ·by_cases e:t'=t
      ·rw[e,hnew,List.length_append];simp only[List.length_cons,List.length_nil];omega
      ·rw[DD T hp (hne t' ht e).2];exact H.nl t'
     ·exact Or.inr ht
    ·exact absurd (T.uni _ _ _ jX hp) (fun e=>zS (by rw[<-e];exact ht))
 ·rw[if_neg e1,if_neg e1];exact⟨fun h=>absurd h e1,fun _=>rfl⟩
end
end Go.Proofs.YtnnbgjaphfhibaaGreatDoor
