import Derived.Test.YtnnbgjaphfhibaaGreatDoorN33
import Derived.Test.YtnnbgjaphfhibaaGreatDoorN10
import Derived.Test.YtnnbgjaphfhibaaGreatDoorN32
import Derived.Test.YtnnbgjaphfhibaaGreatDoorN29
set_option linter.unusedVariables false
set_option linter.unusedSimpArgs false
set_option maxRecDepth 100000
set_option maxHeartbeats 6400000
namespace Go.Proofs.YtnnbgjaphfhibaaGreatDoor
def DD(ns:List Tn)(own:List Nat)(now:Nat):Rs Nat->Rs Sd
 | .error e=>.error e
 | .ok j=>.ok ⟨j,ns,own,now⟩
def sS(l:List UInt8)(ns:List Tn)(own:List Nat)(now:Nat):Rs Nat->Rs Sd
 | .error e=>.error e
 | .ok m=>if l.length<=m then .ok ⟨m,ns,own,now⟩ else DD ns own now (must l m 10)
theorem ade(l:List UInt8)(ns:List Tn)(own:List Nat)(now m:Nat)(h:m<l.length):sS l ns own now (.ok m)=DD ns own now (must l m 10):=by
 show(if _ then _ else _)=_;rw[if_neg (by omega)]
theorem adf(l:List UInt8)(ns:List Tn)(own:List Nat)(now m:Nat)(h:l.length<=m):sS l ns own now (.ok m)=.ok ⟨m,ns,own,now⟩:=by
 show(if _ then _ else _)=_;rw[if_pos h]
def x9(l:List UInt8):Rs Sd->Rs Sd
 | .error e=>.error e
 | .ok d=>sS l d.ns d.own d.now ((Except.bind (.ok d.i) fun i=>.ok (bl l i):Rs Nat).bind (gz l))
theorem adg(l:List UInt8)(d:Sd):(if(bi l (bl l d.i)).1=false then .error (2,(bi l (bl l d.i)).2)
  else if nx l (bi l (bl l d.i)).2=-1 then .ok ⟨(bi l (bl l d.i)).2,d.ns,d.own,d.now⟩
  else DD d.ns d.own d.now (must l (bi l (bl l d.i)).2 10):Rs Sd)=x9 l (.ok d):=by
 show _=sS l d.ns d.own d.now (gz l (bl l d.i));unfold gz
 cases hc:(bi l (bl l d.i)).1 with
 | false=>rw[if_pos rfl,if_neg (by decide)];rfl
 | true =>
  rw[if_neg (by decide),if_pos rfl];show _=if _ then _ else _
  by_cases h:nx l (bi l (bl l d.i)).2=-1
  ·rw[if_pos h,if_pos (zW h)]
  ·rw[if_neg h,if_neg (fun hh=>h (ji _ _ hh))]
theorem adh(l:List UInt8)(d:Sd):iF l d=x9 l (if nx l (bl l d.i)=91 then fQ l ⟨bl l d.i,d.ns,d.own,d.now⟩ else if nx l (bl l d.i)=34\/aN (nx l (bl l d.i))=true then rdPair l ⟨bl l d.i,d.ns,d.own,d.now⟩ else .ok ⟨bl l d.i,d.ns,d.own,d.now⟩):=by
 unfold iF;simp only[];generalize (if nx l (bl l d.i)=91 then fQ l ⟨bl l d.i,d.ns,d.own,d.now⟩ else if nx l (bl l d.i)=34\/aN (nx l (bl l d.i))=true then rdPair l ⟨bl l d.i,d.ns,d.own,d.now⟩ else .ok ⟨bl l d.i,d.ns,d.own,d.now⟩:Rs Sd)=X
 cases X with
 | error e=>rfl
 | ok d1 =>
  rw[<-adg];simp only[];split
  ·rfl
  ·split
   ·rfl
   ·cases must l (bi l (bl l d1.i)).2 10<;>rfl
theorem run_stop(p:UInt8->Bool):∀(l:List UInt8),(l.drop (l.takeWhile p).length).takeWhile p=[]
 | []=>rfl
 | c :: r=>by
  rw[List.takeWhile_cons]
  cases h:p c with
  | true=>simp only[if_true,List.length_cons,List.drop_succ_cons];exact run_stop p r
  | false=>simp[h]
theorem adi(p:Int->Bool)(l:List UInt8)(i:Nat):toR p l (toR p l i)=toR p l i:=by
 have h:=run_stop (fun c=>p (c.toNat:Int)) (l.drop i);have e:runN (fun c=>p (c.toNat:Int)) l (i+runN (fun c=>p (c.toNat:Int)) l i)=0:=by
  unfold runN;rw[List.drop_drop]at h;rw[h];rfl
 unfold toR;rw[e];rfl
theorem adk(l:List UInt8)(i:Nat):bl l (bl l i)=bl l i:=adi fC l i
theorem adl(l:List UInt8)(d:Sd)(h34:¬nx l d.i=34)(hba:aN (nx l d.i)=false):rdPair l d=.error (2,d.i):=by
 have e:toR aN l d.i=d.i:=lG aN l d.i hba;have hk:bW l d.i=.error (2,d.i):=by unfold bW;rw[if_neg h34,if_pos e]
 unfold rdPair;rw[hk]
theorem adm(l:List UInt8)(d:Sd):iF l d=x9 l (if nx l (bl l d.i)=91 then fQ l ⟨bl l d.i,d.ns,d.own,d.now⟩ else if ¬nx l (bl l d.i)=-1/\¬nx l (bl l d.i)=35/\¬nx l (bl l d.i)=10 then rdPair l ⟨bl l d.i,d.ns,d.own,d.now⟩ else .ok ⟨bl l d.i,d.ns,d.own,d.now⟩):=by
 rw[adh]
 by_cases jQ:nx l (bl l d.i)=91
 ·rw[if_pos jQ,if_pos jQ]
 ·rw[if_neg jQ,if_neg jQ]
  by_cases hp:nx l (bl l d.i)=34\/aN (nx l (bl l d.i))=true
  ·rw[if_pos hp,if_pos];refine⟨fun e=>?_,fun e=>?_,fun e=>?_⟩<;>(rw[e]at hp;revert hp;decide)
  ·rw[if_neg hp]
   by_cases ho:¬nx l (bl l d.i)=-1/\¬nx l (bl l d.i)=35/\¬nx l (bl l d.i)=10
   ·rw[if_pos ho,adl l ⟨bl l d.i,d.ns,d.own,d.now⟩ (fun e=>hp (Or.inl e)) (by cases hh:aN (nx l (bl l d.i));rfl;exact(hp (Or.inr hh)).elim)];show sS l d.ns d.own d.now (gz l (bl l (bl l d.i)))=.error (2,bl l d.i);rw[adk,PS l _ ho.2.1];show(if _ then _ else _)=_;rw[if_neg (fun hh=>ho.1 (ji _ _ hh))];unfold must;rw[if_neg ho.2.2];rfl
   ·rw[if_neg ho]
open Go.RowKit Go.Joins
theorem adn(l:List UInt8)(i:Nat)(n:Int)(j:Nat)(hi:i<l.length)(h:iQ l i=.ok (n,j)):-1000000000000000000<n/\n<1000000000000000000:=by
 unfold iQ at h;simp only[]at h;have ha:(if ax (nx l i)=true then i else i+1)<=l.length:=by split<;>omega
 generalize (if ax (nx l i)=true then i else i+1)=a at h ha;have hj:=oQ ax l a ha;split at h
 ·cases h
 ·split at h
  ·cases h
  ·have hb:=(TJ l a (toR ax l a) (fun c hc=>by
    have:=Jl ax l a c hc;unfold ax at this;have:=of_decide_eq_true this;omega) hj.1 hj.2 (by omega)).2
   cases h
   split<;>omega
theorem ado(l:List UInt8)(i:Nat)(n:Int)(j:Nat)(h:kH l i=.ok (n,j)):n=0\/n=1:=by
 rw[EF]at h;split at h
 ·cases h;decide
 ·split at h
  ·cases h;decide
  ·cases h
theorem Vq:∀(s:List UInt8),(∀c∈s,c.toNat<128)->Us s
 | [],_=>Us.nil
 | c :: s,h=>(J6 c (h c (by simp))).app (Vq s fun b hb=>h b (by simp[hb]))
theorem Vr(l:List UInt8)(i:Nat)(k:List UInt8)(j:Nat)(h:bW l i=.ok (k,j)):Us k:=by
 unfold bW at h;split at h
 ·exact FI l _ _ [] k j Us.nil h
 ·split at h
  ·cases h
  ·injection h with h
   injection h with h1 h2
   rw[<-h1];refine Vq _ fun c hc=>?_
   have:=Jl aN l i c hc;unfold aN aZ ax at this;simp at this;omega
theorem adp(l:List UInt8):∀f:Nat,(∀i up k p d ns j ns',i<=l.length->up<ns.length->((aj ns up=0/\Us k)\/(aj ns up=1/\k=[]))->Ld ns up d->d<=8->(aj ns up=0->ah ns up k=none)->k.length<=l.length->(∃S,Tv l.length ns S)->Live ns up->val l f i up k p d ns=.ok (j,ns')->j<=l.length/\GrT l.length ns ns' k.length/\∀r,Live ns r->Live ns' r)/\(∀i up d ns j ns',i<=l.length->up<ns.length->aj ns up=1->Ld ns up d->d<=8->(∃S,Tv l.length ns S)->Live ns up->lst l f i up d ns=.ok (j,ns')->j<=l.length/\GrT l.length ns ns' 0/\∀r,Live ns r->Live ns' r):=by
 intro f
 induction f with
 | zero =>
  refine⟨fun i up k p d ns j ns' _ _ _ _ _ _ _ _ _ h=>?_,fun i up d ns j ns' _ _ _ _ _ _ _ h=>?_⟩
  ·rw[val]at h;cases h
  ·rw[lst]at h;cases h
 | succ f ih =>
  refine⟨fun i up k p d ns j ns' hi hu h2 hld hd hf hk ⟨S,T⟩ lv h=>?_,fun i up d ns j ns' hi hu h1 hld hd ⟨S,T⟩ lv h=>?_⟩
  ·have one:∀x:Tn,x.ks=[]->x.ky=k->x.tx.length<=l.length->-1000000000000000000<=x.nu/\x.nu<=1000000000000000000->(x.kd=1\/x.kd=3\/x.kd=4\/x.kd=5)->(if x.kd=3 then Us x.tx else x.tx=[])->(if x.kd=4 then -1000000000000000000<x.nu/\x.nu<1000000000000000000 else if x.kd=5 then x.nu=0\/x.nu=1 else x.nu=0)->(x.kd=1->d<8)->GrT l.length ns (addN ns up x) k.length/\∀r,Live ns r->Live (addN ns up x) r:=fun x a b c e f g g2 g3=>by
    have:=GrT.one (n:=l.length) (x:=x) hu ⟨a,by rw[b];exact hk,c,e,fun e=>by rw[b];exact hf e,fun e=>(by rcases h2 with h2|h2<;>rw[e]at h2<;>exact absurd h2.1 (by decide)),⟨by
     rw[b]
     rcases h2 with⟨h2,h3⟩|⟨h2,h3⟩
     ·exact Or.inl ⟨h2,h3,by omega,by omega⟩
     ·exact Or.inr (Or.inl ⟨h2,h3,f⟩),g,g2⟩,fun e=>⟨d,g3 e,hld⟩,lv⟩
    rw[b]at this;exact⟨this,fun r hr=>UL hu a T.gt hr (Or.inr (by rcases h2 with h2|h2<;>rw[h2.1]<;>decide))⟩
   rw[rJ]at h;split at h
   ·rename_i hx;have hlt:=bu (l:=l) (i:=i) (by rw[hx];decide)
    cases hs:str l (l.length+1) (i+1) [] with
    | error e=>rw[hs]at h;cases h
    | ok q =>
     obtain⟨t,j'⟩:=q;rw[hs]at h;obtain⟨a,b,c⟩:=EX l _ (i+1) [] t j' (by omega) hs;simp only[List.length_nil]at c;have hus:=FI l _ _ [] t j' Us.nil hs
     cases h
     exact⟨b,one ⟨3,k,t,0,[],p⟩ rfl rfl (by simp only[];omega) (by simp) (by simp) (by simpa using hus) (by simp) (by simp)⟩
   ·split at h
    ·rename_i hx;have hlt:i<l.length:=by
      apply bu
      rcases hx with hx|hx|hx
      ·rw[hx];decide
      ·rw[hx];decide
      ·have:=of_decide_eq_true hx;omega
     cases hs:iQ l i with
     | error e=>rw[hs]at h;cases h
     | ok q =>
      obtain⟨t,j'⟩:=q;rw[hs]at h;obtain⟨a,b⟩:=Qk l i t j' hlt hs;have c:=adn l i t j' hlt hs
      cases h
      exact⟨b,one ⟨4,k,[],t,[],p⟩ rfl rfl (by simp) (by simp only[];omega) (by simp) (by simp) (by simpa using c) (by simp)⟩
    ·split at h
     ·cases hs:kH l i with
      | error e=>rw[hs]at h;cases h
      | ok q =>
       obtain⟨t,j'⟩:=q;rw[hs]at h;obtain⟨a,b⟩:=Ql l i t j' hi hs;have c:=ado l i t j' hs
       cases h
       exact⟨b,one ⟨5,k,[],t,[],p⟩ rfl rfl (by simp) (by simp only[];omega) (by simp) (by simp) (by simpa using c) (by simp)⟩
     ·split at h
      ·rename_i hx;have hlt:=bu (l:=l) (i:=i) (by rw[hx];decide);split at h
       ·cases h
       ·rename_i hd8;have A:=one ⟨1,k,[],0,[],p⟩ rfl rfl (by simp) (by simp) (by simp) (by simp) (by simp) (fun _=>by omega);have k1:aj (addN ns up ⟨1,k,[],0,[],p⟩) ns.length=1:=by rw[eQ ns up _ hu,if_pos rfl]
        obtain⟨a1,a2⟩:=ih.2 (i+1) ns.length (d+1) _ j ns' (by omega) (by rw[bZ];omega) k1 (Ld.kid up ns.length d k1 (by rw[jB ns up _ hu,if_neg (by omega),if_pos rfl];simp) (hld.addN hu)) (by omega) ⟨_,A.1.tv T⟩ (zx hu rfl T.gt T.lt lv) h;exact⟨a1,A.1.trans a2.1,fun r hr=>a2.2 r (A.2 r hr)⟩
      ·cases h
  ·rw[AA]at h
   cases hg:gap l (l.length+1) i with
   | error e=>rw[hg]at h;cases h
   | ok j0 =>
    rw[hg]at h;simp only[]at h;obtain⟨g1,g2⟩:=vg l _ i j0 hi hg;split at h
    ·rename_i hx;have hlt:=bu (l:=l) (i:=j0) (by rw[hx];decide)
     cases h
     exact⟨by omega,GrT.refl _,fun _ h=>h⟩
    ·cases hv:val l f j0 up [] j0 d ns with
     | error e=>rw[hv]at h;cases h
     | ok q =>
      obtain⟨j1,ns1⟩:=q;rw[hv]at h;simp only[]at h;obtain⟨v1,v2,v3⟩:=ih.1 j0 up [] j0 d ns j1 ns1 g2 hu (Or.inr ⟨h1,rfl⟩) hld hd (fun e=>by rw[h1]at e;exact absurd e (by decide)) (by simp) ⟨S,T⟩ lv hv
      cases hg2:gap l (l.length+1) j1 with
      | error e=>rw[hg2]at h;cases h
      | ok j2 =>
       rw[hg2]at h;simp only[]at h;obtain⟨g3,g4⟩:=vg l _ j1 j2 v1 hg2;split at h
       ·rename_i hx;have hlt:=bu (l:=l) (i:=j2) (by rw[hx];decide);have hlen:=v2.len;obtain⟨a1,a2⟩:=ih.2 (j2+1) up d ns1 j ns' (by omega) (by omega) (by rw[v2.kd hu];exact h1) (v2.ld hld) hd ⟨_,v2.tv T⟩ (v3 _ lv) h;exact⟨a1,v2.trans a2.1,fun r hr=>a2.2 r (v3 r hr)⟩
       ·split at h
        ·rename_i hx;have hlt:=bu (l:=l) (i:=j2) (by rw[hx];decide)
         cases h
         exact⟨by omega,v2,v3⟩
        ·cases h
theorem adq{n:Nat}{ns ns':List Tn}{own:List Nat}{t t' p:Nat}{k:List UInt8}{S:Nat}(T:Tv n ns S)(lv:Live ns t)(J:Jt ns own t)(hk:k.length<=n)(hus:Us k)(h:fD ns t k p=.ok (t',ns')):(∃m,GrT n ns ns' m/\m<=k.length)/\Live ns' t':=by
 unfold fD at h
 cases hq:ah ns t k with
 | none =>
  rw[hq]at h
  cases h
  exact⟨⟨_,GrT.one (x:=⟨0,k,[],0,[],p⟩) J.lt ⟨rfl,hk,by simp,by simp,fun _=>hq,fun _=>rfl,Cc (Or.inl ⟨J.kd,hus,Or.inl rfl⟩),fun e=>absurd (show(0:Int)=1 from e) (by decide),lv⟩,Nat.le_refl _⟩,zx J.lt rfl T.gt T.lt lv⟩
 | some q =>
  rw[hq]at h;simp only[]at h;have hm:=(qw hq).1;split at h
  ·cases h
   exact⟨⟨0,GrT.refl _,Nat.zero_le _⟩,Live.kid t _ lv hm fun e=>by rw[J.kd]at e;exact absurd e (by decide)⟩
  ·split at h
   ·rename_i h2;have hl:=nz h2 (by omega);have lq:Live ns q:=Live.kid t q lv hm fun e=>by rw[J.kd]at e;exact absurd e (by decide)
    have hks:ae ns q=ns[q].ks:=by unfold ae;rw[List.getElem?_eq_getElem hl]
    have hne:=(J.wt q h2).1;have hin:=T.inc q;rw[hks]at hne hin;rw[List.getElem?_eq_getElem hl]at h;simp only[]at h;have hla:ns[q].ks.getLastD 0=ns[q].ks.getLast hne:=by rw[List.getLastD_eq_getLast?,List.getLast?_eq_some_getLast hne];rfl
    rw[hla]at h
    cases h
    refine⟨⟨0,GrT.refl _,Nat.zero_le _⟩,Live.kid q _ lq (by rw[hks];exact List.getLast_mem hne) fun _ b hb=>?_⟩;rw[hks,<-List.dropLast_concat_getLast hne,List.mem_append,List.mem_singleton]at hb;rw[<-List.dropLast_concat_getLast hne,List.pairwise_append]at hin
    rcases hb with hb|hb
    ·exact Nat.le_of_lt (hin.2.2 b hb _ (by simp))
    ·omega
   ·cases h
theorem adr{n:Nat}{ns ns':List Tn}{own:List Nat}{t t' p:Nat}{k:List UInt8}{S:Nat}(T:Tv n ns S)(lv:Live ns t)(J:Jt ns own t)(hk:k.length<=n)(hus:Us k)(h:fJ ns own t k p=.ok (t',ns')):(∃m,GrT n ns ns' m/\m<=k.length)/\Live ns' t':=by
 unfold fJ at h
 cases hq:ah ns t k with
 | none =>
  rw[hq]at h
  cases h
  exact⟨⟨_,GrT.one (x:=⟨0,k,[],0,[],p⟩) J.lt ⟨rfl,hk,by simp,by simp,fun _=>hq,fun _=>rfl,Cc (Or.inl ⟨J.kd,hus,Or.inl rfl⟩),fun e=>absurd (show(0:Int)=1 from e) (by decide),lv⟩,Nat.le_refl _⟩,zx J.lt rfl T.gt T.lt lv⟩
 | some q =>
  rw[hq]at h;simp only[]at h;split at h
  ·cases h
   exact⟨⟨0,GrT.refl _,Nat.zero_le _⟩,Live.kid t _ lv (qw hq).1 fun e=>by rw[J.kd]at e;exact absurd e (by decide)⟩
  ·cases h
theorem ads{n:Nat}{ns ns':List Tn}{own:List Nat}{t t' p:Nat}{k:List UInt8}{S:Nat}(T:Tv n ns S)(lv:Live ns t)(J:Jt ns own t)(hk:k.length<=n)(hus:Us k)(h:fK ns t k p=.ok (t',ns')):(∃m,GrT n ns ns' m/\m<=k.length)/\Live ns' t':=by
 unfold fK at h
 cases hq:ah ns t k with
 | none =>
  rw[hq]at h
  cases h
  have A:GrT n ns (addN ns t ⟨2,k,[],0,[],p⟩) k.length:=GrT.one (x:=⟨2,k,[],0,[],p⟩) J.lt ⟨rfl,hk,by simp,by simp,fun _=>hq,fun e=>by rw[J.kd]at e;exact absurd e (by decide),Cc (Or.inl ⟨J.kd,hus,Or.inr rfl⟩),fun e=>absurd (show(2:Int)=1 from e) (by decide),lv⟩;have lv1:=zx (x:=⟨2,k,[],0,[],p⟩) J.lt rfl T.gt T.lt lv;have T1:=A.tv T;have e2:aj (addN ns t ⟨2,k,[],0,[],p⟩) ns.length=2:=by rw[eQ ns t _ J.lt,if_pos rfl]
  have B:GrT n (addN ns t ⟨2,k,[],0,[],p⟩) (addN (addN ns t ⟨2,k,[],0,[],p⟩) ns.length ⟨0,[],[],0,[],p⟩) 0:=GrT.one (x:=⟨0,[],[],0,[],p⟩) (by rw[bZ];omega) ⟨rfl,by simp,by simp,by simp,fun e=>by rw[e2]at e;exact absurd e (by decide),fun _=>rfl,Cc (Or.inr ⟨e2,rfl,rfl⟩),fun e=>absurd (show(0:Int)=1 from e) (by decide),lv1⟩;have l2:=zx (x:=⟨0,[],[],0,[],p⟩) (by rw[bZ];omega) rfl T1.gt T1.lt lv1;rw[bZ]at l2;exact⟨⟨_,A.trans B,Nat.le_refl _⟩,l2⟩
 | some q =>
  rw[hq]at h;simp only[]at h;have lq:Live ns q:=Live.kid t q lv (qw hq).1 fun e=>by rw[J.kd]at e;exact absurd e (by decide)
  split at h
  ·rename_i h2
   cases h
   refine⟨⟨0,?_,Nat.zero_le _⟩,zx (nz h2 (by omega)) rfl T.gt T.lt lq⟩;exact GrT.one (x:=⟨0,[],[],0,[],p⟩) (nz h2 (by omega)) ⟨rfl,by simp,by simp,by simp,fun e=>by rw[h2]at e;exact absurd e (by decide),fun _=>rfl,Cc (Or.inr ⟨h2,rfl,rfl⟩),fun e=>absurd (show(0:Int)=1 from e) (by decide),lq⟩
  ·cases h
def pR(l:List (List UInt8 × Nat)):Nat:=(l.map fun x=>x.1.length).sum
theorem Vs{n:Nat}(many:Bool)(own:List Nat):∀(l:List (List UInt8 × Nat)) (t:Nat) (ns ns':List Tn) (t':Nat),(∀x∈l,x.1.length<=n/\Us x.1)->(∃S,Tv n ns S)->Live ns t->Jt ns own t->way many own l t ns=.ok (t',ns')->(∃m,GrT n ns ns' m/\m<=pR l)/\Live ns' t'
 | [],t,ns,ns',t',hl,⟨S,T⟩,lv,J,h=>by
  cases h
  exact⟨⟨0,GrT.refl _,Nat.zero_le _⟩,lv⟩
 | [(k,p)],t,ns,ns',t',hl,⟨S,T⟩,lv,J,h=>by
  rw[Ai]at h;obtain⟨hk,hus⟩:=hl (k,p) (by simp);have e:pR [(k,p)]=k.length:=by simp[pR]
  rw[e];split at h
  ·exact ads T lv J hk hus h
  ·exact adr T lv J hk hus h
 | (k,p) :: b :: r,t,ns,ns',t',hl,⟨S,T⟩,lv,J,h=>by
  rw[Aj]at h
  cases hs:fD ns t k p with
  | error e=>rw[hs]at h;cases h
  | ok z =>
   obtain⟨t1,ns1⟩:=z;rw[hs]at h;obtain⟨⟨m1,a1,a2⟩,lv1⟩:=adq (k:=k) T lv J (hl (k,p) (by simp)).1 (hl (k,p) (by simp)).2 hs;have a3:m1<=k.length:=a2;obtain⟨⟨m2,b1,b2⟩,lv2⟩:=Vs many own (b :: r) t1 ns1 ns' t' (fun x hx=>hl x (by simp only[List.mem_cons]at hx ⊢;exact Or.inr hx)) ⟨_,a1.tv T⟩ lv1 (Ah J hs).1 h;refine⟨⟨m1+m2,a1.trans b1,?_⟩,lv2⟩;have e:pR ((k,p) :: b :: r)=k.length+pR (b :: r):=by simp[pR]
   omega
theorem Vt(l:List UInt8)(i:Nat)(k:List UInt8)(j:Nat)(hi:i<=l.length)(h:bW l i=.ok (k,j)):k.length+i<=j:=by
 unfold bW at h;split at h
 ·rename_i hx;have hlt:=bu (l:=l) (i:=i) (by rw[hx];decide);obtain⟨a,b,c⟩:=EX l _ (i+1) [] k j (by omega) h;simp at c;omega
 ·split at h
  ·cases h
  ·have:=oQ aN l i hi
   cases h
   unfold ag;simp;omega
theorem adt(l:List UInt8):∀(f i:Nat) (acc ks:List (List UInt8 × Nat)) (j:Nat),i<=l.length->fF l f i acc=.ok (ks,j)->pR ks+i<=pR acc+j:=by
 intro f
 induction f with
 | zero=>intro i acc ks j hi h;cases h
 | succ f ih =>
  intro i acc ks j hi h;rw[BV]at h;have b1:=jA l i hi
  cases hk:bW l (bl l i) with
  | error e=>rw[hk]at h;cases h
  | ok q =>
   obtain⟨k,j1⟩:=q;rw[hk]at h;simp only[]at h;obtain⟨k1,k2,k3⟩:=uZ l (bl l i) k j1 b1.2 hk;have k4:=Vt l (bl l i) k j1 b1.2 hk;have b2:=jA l j1 k2;have e:pR (acc++[(k,bl l i)])=pR acc+k.length:=by simp[pR]
   split at h
   ·rename_i hx;have hlt:=bu (l:=l) (i:=bl l j1) (by rw[hx];decide);have:=ih (bl l j1+1) (acc++[(k,bl l i)]) ks j (by omega) h;omega
   ·cases h
    omega
theorem adu(l:List UInt8):∀(f i:Nat) (acc ks:List (List UInt8 × Nat)) (j:Nat),(∀x∈acc,Us x.1)->fF l f i acc=.ok (ks,j)->∀x∈ks,Us x.1:=by
 intro f
 induction f with
 | zero=>intro i acc ks j ha h;cases h
 | succ f ih =>
  intro i acc ks j ha h;rw[BV]at h
  cases hk:bW l (bl l i) with
  | error e=>rw[hk]at h;cases h
  | ok q =>
   obtain⟨k,j1⟩:=q;rw[hk]at h;simp only[]at h;have ha':∀x∈acc++[(k,bl l i)],Us x.1:=fun x hx=>by
    rcases List.mem_append.1 hx with hx|hx
    ·exact ha x hx
    ·rw[List.mem_singleton.1 hx];exact Vr l _ k j1 hk
   split at h
   ·exact ih _ _ ks j ha' h
   ·cases h
    exact ha'
def Gi(l:List UInt8)(d d':Sd):Prop:=(∃m,GrT l.length d.ns d'.ns m/\m+d.i<=d'.i)/\Live d'.ns d'.now
def Gf(l:List UInt8)(d:Sd):Prop:=(∃S,Tv l.length d.ns S)/\Live d.ns d.now
theorem adv(l:List UInt8)(d d':Sd)(L:Li l d)(F:Gf l d)(h:rdPair l d=.ok d'):Gi l d d':=by
 obtain⟨i,ns,own,now⟩:=d;have L1:=L.jt;have L3:=L.le;simp only[]at L1 L3;rw[LK]at h
 cases hk:bW l i with
 | error e=>rw[hk]at h;cases h
 | ok q =>
  obtain⟨k,j⟩:=q;rw[hk]at h;simp only[]at h;obtain⟨k1,k2,k3⟩:=uZ l i k j L3 hk;have k4:=Vt l i k j L3 hk;have b1:=jA l j k2
  cases hm:must l (bl l j) 61 with
  | error e=>rw[hm]at h;cases h
  | ok j1 =>
   rw[hm]at h;simp only[]at h;obtain⟨m1,m2⟩:=wK l _ _ 61 (by decide) hm;have b2:=jA l j1 (by omega)
   cases hq:ah ns now k with
   | some q=>rw[hq]at h;cases h
   | none =>
    rw[hq]at h;simp only[]at h
    cases hv:val l (2*l.length+2) (bl l j1) now k i 0 ns with
    | error e=>rw[hv]at h;cases h
    | ok z =>
     obtain⟨j2,ns'⟩:=z;rw[hv]at h;have A:=(EY l own _).1 (bl l j1) now k i 0 ns j2 ns' b2.2 L1.wf L1.wt L1.lt (by rw[L1.kd];decide) hv;have a3:=A.fw;obtain⟨v1,v2,v3⟩:=(adp l _).1 (bl l j1) now k i 0 ns j2 ns' b2.2 L1.lt (Or.inl ⟨L1.kd,Vr l i k j hk⟩) (Ld.top now L1.kd) (by omega) (fun _=>hq) k3 F.1 F.2 hv
     cases h
     exact⟨⟨_,v2,by simp only[];omega⟩,v3 _ F.2⟩
theorem adw(l:List UInt8)(d d':Sd)(L:Li l d)(F:Gf l d)(hi:d.i<l.length)(h:fQ l d=.ok d'):Gi l d d':=by
 obtain⟨i,ns,own,now⟩:=d;have L1:=L.jt;have L2:=L.rt;simp only[]at L1 L2 hi;obtain⟨many,sK⟩:=zN (decide (nx l (i+1)=91));rw[Cf l i ns own now many sK]at h;have ha:i+1<=(if many=true then i+2 else i+1)/\(if many=true then i+2 else i+1)<=l.length:=by
  cases many with
  | false=>simp;omega
  | true =>
   have hx:=of_decide_eq_true sK;have:=bu (l:=l) (i:=i+1) (by rw[hx];decide);simp;omega
 generalize (if many=true then i+2 else i+1)=a at h ha
 cases hk:fF l (l.length+1) a [] with
 | error e=>rw[hk]at h;cases h
 | ok q =>
  obtain⟨ks,j⟩:=q;rw[hk]at h;simp only[]at h;obtain⟨k1,k2,k3,k4⟩:=G6 l _ a [] ks j ha.2 (by simp) hk;have k5:=adt l _ a [] ks j ha.2 hk;have e0:pR []=0:=rfl
  cases hm:must l j 93 with
  | error e=>rw[hm]at h;cases h
  | ok j1 =>
   rw[hm]at h;simp only[]at h;obtain⟨m1,m2⟩:=wK l _ _ 93 (by decide) hm;have hj2:∀j2,(if many=true then must l j1 93 else(.ok j1:Rs Nat))=.ok j2->j1<=j2:=fun j2 hh=>by
    split at hh
    ·obtain⟨n1,n2⟩:=wK l _ _ 93 (by decide) hh;omega
    ·cases hh
     omega
   cases hc:(if many=true then must l j1 93 else(.ok j1:Rs Nat)) with
   | error e=>rw[hc]at h;cases h
   | ok j2 =>
    rw[hc]at h;simp only[]at h;have c1:=hj2 j2 hc
    cases hw:way many own ks 0 ns with
    | error e=>rw[hw]at h;cases h
    | ok z =>
     obtain⟨t,ns'⟩:=z;rw[hw]at h;obtain⟨⟨m,g1,g2⟩,g3⟩:=Vs many own ks 0 ns ns' t (fun x hx=>⟨k1 x hx,adu l _ a [] ks j (by simp) hk x hx⟩) F.1 Live.root ⟨L1.wf,L1.wt,by have:=L1.lt;omega,L2⟩ hw
     cases h
     exact⟨⟨m,g1,by simp only[];omega⟩,g3⟩
theorem adx(l:List UInt8)(d d':Sd)(L:Li l d)(F:Gf l d)(hi:d.i<l.length)(h:iF l d=.ok d'):Gi l d d':=by
 obtain⟨i,ns,own,now⟩:=d;simp only[]at hi;rw[MS]at h;have b1:=jA l i (by omega);have L':Li l ⟨bl l i,ns,own,now⟩:=Di L (bl l i) b1.1 b1.2
 cases hm:(if nx l (bl l i)=91 then fQ l ⟨bl l i,ns,own,now⟩ else if nx l (bl l i)=34\/aN (nx l (bl l i))=true then rdPair l ⟨bl l i,ns,own,now⟩ else .ok ⟨bl l i,ns,own,now⟩) with
 | error e=>rw[hm]at h;cases h
 | ok d1 =>
  rw[hm]at h;have mid:Gi l ⟨bl l i,ns,own,now⟩ d1/\d1.i<=l.length:=by
   split at hm
   ·rename_i hx;have hlt:=bu (l:=l) (i:=bl l i) (by rw[hx];decide);exact⟨adw l _ d1 L' F hlt hm,(MO l _ d1 L' hlt hm).1.le⟩
   ·split at hm
    ·exact⟨adv l _ d1 L' F hm,(MM l _ d1 L' hm).1.le⟩
    ·cases hm
     exact⟨⟨⟨0,GrT.refl _,by simp only[];omega⟩,F.2⟩,b1.2⟩
  obtain⟨⟨⟨m,g1,g2⟩,g3⟩,hle⟩:=mid;simp only[]at g1 g2;have h2:qX l d1 (bi l (bl l d1.i))=.ok d':=h;have b2:=jA l d1.i hle;have c2:=Aa l (bl l d1.i) b2.2;unfold qX at h2;split at h2
  ·cases h2
  ·split at h2
   ·cases h2
    exact⟨⟨m,g1,by simp only[];omega⟩,g3⟩
   ·cases hq:must l (bi l (bl l d1.i)).2 10 with
    | error e=>rw[hq]at h2;cases h2
    | ok q =>
     rw[hq]at h2;obtain⟨m1,m2⟩:=wK l _ _ 10 (by decide) hq
     cases h2
     exact⟨⟨m,g1,by simp only[];omega⟩,g3⟩
theorem Vu(l:List UInt8):∀(f:Nat) (d d':Sd),Li l d->Gf l d->jc l f d=.ok d'->Gi l d d'
 | 0,d,d',L,F,h=>by cases h;exact⟨⟨0,GrT.refl _,by omega⟩,F.2⟩
 | f+1,d,d',L,F,h=>by
  rw[Ha]at h;split at h
  ·cases h;exact⟨⟨0,GrT.refl _,by omega⟩,F.2⟩
  ·cases hr:iF l d with
   | error e=>rw[hr]at h;cases h
   | ok d1 =>
    rw[hr]at h;obtain⟨⟨m1,a1,a2⟩,a3⟩:=adx l d d1 L F (by omega) hr;obtain⟨S,T⟩:=F.1;obtain⟨⟨m2,b1,b2⟩,b3⟩:=Vu l f d1 d' (G9 l d d1 L (by omega) hr).1 ⟨⟨_,a1.tv T⟩,a3⟩ h;exact⟨⟨m1+m2,a1.trans b1,by omega⟩,b3⟩
theorem Hz(l:List UInt8)(ns:List Tn)(h:jy l=.ok ns):Tv 100000 ns 100000/\∃own,WF ns own/\ns.length<=200001:=by
 obtain⟨own,now,J,-,hn,hl⟩:=U4 l ns h;refine⟨?_,own,J.wf,hn⟩;rw[He]at h;split at h
 ·cases h
 ·cases ha:jc l (l.length+1) ⟨0,[⟨0,[],[],0,[],0⟩],[],0⟩ with
  | error e=>rw[ha]at h;cases h
  | ok d =>
   rw[ha]at h
   cases h
   obtain⟨⟨m,g1,g2⟩,-⟩:=Vu l _ _ _ (Dj l) ⟨⟨0,UM l.length⟩,Live.root⟩ ha;have hle:=(Nk l _ _ _ (Dj l) ha).le;have T:=g1.tv (UM l.length);exact⟨T.lt,T.gt,T.nod,T.kdd,T.two,T.root,fun x hx=>by
    obtain⟨a,b,c⟩:=T.txt x hx;exact⟨by omega,by omega,c⟩,by have:=T.sum;simp only[]at g2;omega,T.shp,T.dep,T.par,T.rt,T.uni,T.inc,T.sep⟩
open Go.RowKit Go.Joins
def dU(l:List Nat)(i:Nat):List Nat:=l.takeWhile fun q=>decide (¬q=i)
def lo(q:Nat)(l:List Nat):List Nat:=l.filter fun x=>decide (x<q)
def aQ(ns:List Tn)(q:Nat):ByteArray:=match ns[q]? with|some x=>dh x|none=>⟨#[]⟩
def pU(ns:List Tn)(i:Nat):Nat:=((List.range ns.length).find? fun k=>decide (i∈ae ns k)).getD 0
def uD(x:Tn):Int:=if x.ky=jO then(if ¬x.kd=4 then 7 else if ¬x.nu=1 then 3 else 0) else if x.ky=iY/\x.kd=2 then 0 else 7
def jS(ns:List Tn)(n:ByteArray)(k:Nat):Bool:=match ah ns k fA with|some y=>decide (aQ ns y=n)|none=>false
noncomputable def lY(ns:List Tn)(all t:Nat)(x:Tn):Int :=
 if x.ky=fA then(if takeD x nameB=0 then(if(dU (ae ns all) t).any (jS ns (dh x))=true then 5 else 0) else takeD x nameB)
 else if x.ky=iC then takeD x okV
 else if x.ky=iy then takeD x pK
 else if x.ky=dV/\x.kd=1 then 0 else 7
noncomputable def pV(ns:List Tn)(ls i:Nat)(x:Tn):Int :=
 if takeD x nameB=0 then(if(dU (ae ns ls) i).any (fun k=>decide (aQ ns k=dh x))=true then 5 else if 20<=(dU (ae ns ls) i).length then 4 else 0) else takeD x nameB
noncomputable def iM(ns:List Tn)(i:Nat)(x:Tn):Int :=
 if pU ns i=0 then uD x
 else if pU ns (pU ns i)=0/\aj ns (pU ns i)=2 then(if 50<=(dU (ae ns (pU ns i)) i).length then 4 else 0)
 else if aj ns (pU ns i)=0 then lY ns (pU ns (pU ns i)) (pU ns i) x
 else pV ns (pU ns i) i x
noncomputable def lC(ns:List Tn):Nat->Rs Unit
 | 0=>.ok ()
 | n+1=>match ns[ns.length-(n+1)]? with
  | none=>.ok ()
  | some x=>if iM ns (ns.length-(n+1)) x=0 then lC ns n else .error (iM ns (ns.length-(n+1)) x,x.pl)
def kx(ns:List Tn)(t:Nat)(k:List UInt8):ByteArray:=match ah ns t k with|some y=>aQ ns y|none=>⟨#[]⟩
def kl(ns:List Tn)(t:Nat):List Nat:=match ah ns t dV with|some y=>ae ns y|none=>[]
def iO(ns:List Tn)(t:Nat):En:=⟨kx ns t fA,kx ns t iC,kx ns t iy,(kl ns t).map (aQ ns)⟩
def jv(ns:List Tn)(t:Nat):Bool:=(ah ns t fA).isSome && (ah ns t iC).isSome && (ah ns t iy).isSome && (ah ns t dV).isSome
def wP(ns:List Tn)(L:List Nat):Rs (List En):=match L.find? (fun t=>!jv ns t) with
 | some t=>.error (6,iD ns t)
 | none=>match (L.flatMap (kl ns)).find? (fun y=>!aW (L.map (iO ns)) (aQ ns y)) with
  | some y=>.error (6,iD ns y)
  | none=>.ok (L.map (iO ns))
noncomputable def zD(ns:List Tn):Rs (List En):=match lC ns (ns.length-1) with
 | .error e=>.error e
 | .ok _=>match ah ns 0 jO with
  | none=>.error (6,0)
  | some _=>match ah ns 0 iY with
   | none=>.ok []
   | some p=>wP ns (ae ns p)
theorem wQ:∀(l:List Nat) (i:Nat),l.Pairwise (· < ·)->i∈l->dU l i=lo i l
 | [],i,_,h=>by cases h
 | a :: r,i,h,hi=>by
  rw[List.pairwise_cons]at h;unfold dU lo;rw[List.takeWhile_cons,List.filter_cons]
  by_cases e:a=i
  ·rw[decide_eq_false (by simpa using e),decide_eq_false (by omega)];simp only[Bool.false_eq_true,if_false];symm;rw[List.filter_eq_nil_iff];intro b hb;have:=h.1 b hb;simp;omega
  ·have hr:i∈r:=by rcases List.mem_cons.1 hi with h1|h1;exact absurd h1.symm e;exact h1
   have:=h.1 i hr;rw[decide_eq_true (by simpa using e),decide_eq_true (by omega)];simp only[if_true];exact congrArg _ (wQ r i h.2 hr)
theorem H5{q:Nat}{l:List Nat}(h:¬q∈l):lo (q+1) l=lo q l:=by
 unfold lo;apply List.filter_congr;intro x hx;have:¬x=q:=fun e=>h (e ▸ hx)
 simp;omega
theorem H6{q:Nat}:∀{l:List Nat},l.Pairwise (· < ·)->q∈l->lo (q+1) l=lo q l++[q]
 | [],_,h=>by cases h
 | a :: r,h,hq=>by
  rw[List.pairwise_cons]at h;unfold lo;rw[List.filter_cons,List.filter_cons]
  by_cases e:a=q
  ·rw[decide_eq_true (show a<q+1 by omega),decide_eq_false (show ¬a<q by omega)];simp only[if_true,Bool.false_eq_true,if_false];have e1:r.filter (fun x=>decide (x<q+1))=[]:=by rw[List.filter_eq_nil_iff];intro b hb;have:=h.1 b hb;simp;omega
   have e2:r.filter (fun x=>decide (x<q))=[]:=by rw[List.filter_eq_nil_iff];intro b hb;have:=h.1 b hb;simp;omega
   rw[e1,e2,e];rfl
  ·have hr:q∈r:=by rcases List.mem_cons.1 hq with h1|h1;exact absurd h1.symm e;exact h1
   have:=h.1 q hr;rw[decide_eq_true (show a<q+1 by omega),decide_eq_true (show a<q by omega)];simp only[if_true,List.cons_append];exact congrArg _ (H6 h.2 hr)
theorem ady{q:Nat}{l:List Nat}(h:∀x∈l,x<q):lo q l=l:=by
 unfold lo;rw[List.filter_eq_self];intro x hx;simpa using h x hx
theorem Vw{q:Nat}{l:List Nat}(h:∀x∈l,q<=x):lo q l=[]:=by
 unfold lo;rw[List.filter_eq_nil_iff];intro x hx;simpa using h x hx
theorem uF{q x:Nat}{l:List Nat}:x∈lo q l↔x∈l/\x<q:=by unfold lo;rw[List.mem_filter];simp
theorem ND{α:Type}[BEq α][LawfulBEq α]:∀(l m:List α),l.Nodup->(∀x∈l,x∈m)->l.length<=m.length
 | [],m,_,_=>Nat.zero_le _
 | a :: r,m,h,hs=>by
  rw[List.nodup_cons]at h;have h1:=ND r (m.erase a) h.2 fun x hx=>(List.mem_erase_of_ne (fun e=>h.1 (by rw[<-e];exact hx))).2 (hs x (by simp[hx]))
  have h2:=List.length_erase_of_mem (hs a (by simp));have h3:0<m.length:=List.length_pos_of_mem (hs a (by simp));rw[List.length_cons];omega
section
variable {n S:Nat} {ns:List Tn}
theorem uG(T:Tv n ns S){p q:Nat}(h:q∈ae ns p):pU ns q=p:=by
 unfold pU
 cases hf:(List.range ns.length).find? fun k=>decide (q∈ae ns k) with
 | none =>
  rw[List.find?_eq_none]at hf;exact absurd h (by simpa using hf p (List.mem_range.2 (xw h)))
 | some k=>exact T.uni _ _ q (by simpa using List.find?_some hf) h
theorem yc(T:Tv n ns S){t y:Nat}{k:List UInt8}(ht:aj ns t=0)(hy:y∈ae ns t)(hk:ig ns y=k):ah ns t k=some y:=by
 rw[qp];have hb:∀q∈ae ns t,(gK ns k q=true↔ig ns q=k):=fun q hq=>by
  unfold gK ig;rw[List.getElem?_eq_getElem (T.lt _ _ hq)];simp
 have key:∀l:List Nat,(∀q∈l,q∈ae ns t)->l.Pairwise (fun a b=>ig ns a≠ig ns b)->y∈l->l.find? (gK ns k)=some y:=fun l=>by
  induction l with
  | nil=>intro _ _ h;cases h
  | cons a r ih =>
   intro hl hp hm;rw[List.pairwise_cons]at hp;rw[List.find?_cons]
   by_cases e:y=a
   ·rw[<-e,(hb y hy).2 hk]
   ·have hr:y∈r:=by rcases List.mem_cons.1 hm with h|h;exact absurd h e;exact h
    have:gK ns k a=false:=by
     rw[Bool.eq_false_iff];intro h2;exact hp.1 y hr (((hb a (hl a (by simp))).1 h2).trans hk.symm)
    rw[this];exact ih (fun q hq=>hl q (by simp[hq])) hp.2 hr
 exact key _ (fun q hq=>hq) (T.kdd t ht) hy
theorem iK{t y:Nat}{k:List UInt8}(h:ah ns t k=some y):y∈ae ns t/\ig ns y=k:=by
 obtain⟨h1,h2⟩:=qw h;refine⟨h1,?_⟩;unfold gK at h2;unfold ig
 cases hx:ns[y]? with
 | none=>rw[hx]at h2;cases h2
 | some x=>rw[hx]at h2;exact of_decide_eq_true h2
theorem H7(T:Tv n ns S){q:Nat}(h:2<aj ns q):ae ns q=[]:=by
 apply List.eq_nil_iff_forall_not_mem.2;intro y hy;have:=(T.shp q y hy (ns[y]'(T.lt _ _ hy)) (List.getElem?_eq_getElem (T.lt _ _ hy))).par;omega
end
end Go.Proofs.YtnnbgjaphfhibaaGreatDoor
