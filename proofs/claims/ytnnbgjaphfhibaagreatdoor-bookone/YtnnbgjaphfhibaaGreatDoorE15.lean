import Derived.Test.YtnnbgjaphfhibaaGreatDoorE09
import Derived.Test.YtnnbgjaphfhibaaGreatDoorE10
set_option linter.all false
set_option maxRecDepth 100000
set_option maxHeartbeats 0
namespace Go.Proofs.YtnnbgjaphfhibaaGreatDoor
open Go.RowKit Go.Joins
theorem xy(l:List UInt8):∀(f i j:Nat),i<=l.length->gap l f i=.ok j->i<=j/\j<=l.length:=by
 intro f
 induction f with
 | zero=>intro i j hi h;cases h
 | succ f ih =>
  intro i j hi h;rw[uP]at h;have h1:=jR l i hi;have h2:=Cf l (bl l i) h1.2;split at h
  ·cases h
  ·split at h
   ·rename_i hx;have h3:=aY (l:=l) (i:=(aZ l (bl l i)).2) (by rw[hx];decide);have:=ih _ j (by omega) h;omega
   ·cases h
    omega
theorem UY(l:List UInt8)(i:Nat)(n:Int)(j:Nat)(hi:i<l.length)(h:jc l i=.ok (n,j)):i<j/\j<=l.length:=by
 unfold jc at h;simp only[]at h;have ha:i<=(if aA (nx l i)=true then i else i+1)/\(if aA (nx l i)=true then i else i+1)<=l.length:=by split<;>omega
 generalize (if aA (nx l i)=true then i else i+1)=a at h ha;have hj:=pY aA l a ha.2;split at h
 ·cases h
 ·rename_i hn;split at h
  ·cases h
  ·have hne:¬toR aA l a=a:=fun e=>hn (Or.inl e)
   cases h
   omega
theorem UZ(l:List UInt8)(i:Nat)(n:Int)(j:Nat)(hi:i<=l.length)(h:lQ l i=.ok (n,j)):i<j/\j<=l.length:=by
 rw[GK]at h;have hj:=pY dH l i hi;have key:∀t:List UInt8,aj l i (toR dH l i-i)=t->t≠[]->i<toR dH l i:=fun t e ht=>by
  apply Classical.byContradiction;intro hn;apply ht;rw[<-e];unfold aj;rw[show toR dH l i-i=0 by omega];simp
 split at h
 ·rename_i e;have:=key _ e (by simp)
  cases h
  omega
 ·split at h
  ·rename_i e;have:=key _ e (by simp)
   cases h
   omega
  ·cases h
structure Ad(ns ns':List Tn)(own:List Nat)(i j n:Nat):Prop where
 wf:WF ns' own
 wt:WT ns'
 lo:ns.length<=ns'.length
 hi:ns'.length+i<=ns.length+j
 kd:∀q,q<ns.length->ak ns' q=ak ns q
 fw:i<j
 en:j<=n
theorem Az{ns:List Tn}{own:List Nat}{up i j n:Nat}{x:Tn}(W:WF ns own)(V:WT ns)(hu:up<ns.length)(h2:¬ak ns up=2)(hx:x.ks=[])(hk:¬x.kd=2)(hij:i<j)(hjn:j<=n):Ad ns (addN ns up x) own i j n :=
 ⟨ru ns own up x hx hu W,LG ns own W up x hu V hk (Or.inl h2),by rw[bY];omega,by rw[bY];omega,fun q hq=>by rw[fF ns up x hu,if_neg (by omega)],hij,hjn⟩
theorem Ad.trans{a b c:List Tn}{own:List Nat}{i j k n:Nat}(h:Ad a b own i j n)(h':Ad b c own j k n):Ad a c own i k n :=
 ⟨h'.wf,h'.wt,Nat.le_trans h.lo h'.lo,by have:=h.hi;have:=h'.hi;omega,fun q hq=>(h'.kd q (Nat.lt_of_lt_of_le hq h.lo)).trans (h.kd q hq),Nat.lt_trans h.fw h'.fw,h'.en⟩
theorem Ad.wide{a b:List Tn}{own:List Nat}{i i' j j' n:Nat}(h:Ad a b own i j n)(hi:i'<=i)(hj:j<=j')(hn:j'<=n):Ad a b own i' j' n :=
 ⟨h.wf,h.wt,h.lo,by have:=h.hi;omega,h.kd,by have:=h.fw;omega,hn⟩
theorem o9(l:List UInt8)(f i up:Nat)(k:List UInt8)(p d:Nat)(ns:List Tn):val l (f+1) i up k p d ns =
  if nx l i=34 then(match str l (l.length+1) (i+1) [] with | .error e=>.error e | .ok (t,j)=>.ok (j,addN ns up ⟨3,k,t,0,[],p⟩))
  else if nx l i=43\/nx l i=45\/aA (nx l i)=true then(match jc l i with | .error e=>.error e | .ok (n,j)=>.ok (j,addN ns up ⟨4,k,[],n,[],p⟩))
  else if nx l i=116\/nx l i=102 then(match lQ l i with | .error e=>.error e | .ok (n,j)=>.ok (j,addN ns up ⟨5,k,[],n,[],p⟩))
  else if nx l i=91 then(if d=8 then .error (4,i) else lst l f (i+1) ns.length (d+1) (addN ns up ⟨1,k,[],0,[],p⟩))
  else .error (2,i):=by
 rw[val];rfl
theorem yV(l:List UInt8)(f i up d:Nat)(ns:List Tn):lst l (f+1) i up d ns =
  match gap l (l.length+1) i with
  | .error e=>.error e
  | .ok j =>
   if nx l j=93 then .ok (j+1,ns)
   else match val l f j up [] j d ns with
    | .error e=>.error e
    | .ok (j1,ns1)=>match gap l (l.length+1) j1 with
     | .error e=>.error e
     | .ok j2=>if nx l j2=44 then lst l f (j2+1) up d ns1 else if nx l j2=93 then .ok (j2+1,ns1) else .error (2,j2):=by
 rw[lst];rfl
theorem Ic(l:List UInt8)(own:List Nat):∀f:Nat,(∀i up k p d ns j ns',i<=l.length->WF ns own->WT ns->up<ns.length->¬ak ns up=2->val l f i up k p d ns=.ok (j,ns')->Ad ns ns' own i j l.length)/\(∀i up d ns j ns',i<=l.length->WF ns own->WT ns->up<ns.length->¬ak ns up=2->lst l f i up d ns=.ok (j,ns')->WF ns' own/\WT ns'/\ns.length<=ns'.length/\ns'.length+i<=ns.length+j/\(∀q,q<ns.length->ak ns' q=ak ns q)/\i<j/\j<=l.length):=by
 intro f
 induction f with
 | zero =>
  refine⟨fun i up k p d ns j ns' _ _ _ _ _ h=>?_,fun i up d ns j ns' _ _ _ _ _ h=>?_⟩
  ·rw[val]at h;cases h
  ·rw[lst]at h;cases h
 | succ f ih =>
  refine⟨fun i up k p d ns j ns' hi W V hu h2 h=>?_,fun i up d ns j ns' hi W V hu h2 h=>?_⟩
  ·rw[o9]at h;split at h
   ·rename_i hx;have hlt:=aY (l:=l) (i:=i) (by rw[hx];decide)
    cases hs:str l (l.length+1) (i+1) [] with
    | error e=>rw[hs]at h;cases h
    | ok q =>
     obtain⟨t,j'⟩:=q;rw[hs]at h;obtain⟨a,b,-⟩:=Hf l _ (i+1) [] t j' (by omega) hs
     cases h
     exact Az W V hu h2 rfl (fun e=>absurd (show(3:Int)=2 from e) (by decide)) (by omega) b
   ·split at h
    ·rename_i hx;have hlt:i<l.length:=by
      apply aY
      rcases hx with hx|hx|hx
      ·rw[hx];decide
      ·rw[hx];decide
      ·have:=of_decide_eq_true hx;omega
     cases hs:jc l i with
     | error e=>rw[hs]at h;cases h
     | ok q =>
      obtain⟨t,j'⟩:=q;rw[hs]at h;obtain⟨a,b⟩:=UY l i t j' hlt hs
      cases h
      exact Az W V hu h2 rfl (fun e=>absurd (show(4:Int)=2 from e) (by decide)) a b
    ·split at h
     ·cases hs:lQ l i with
      | error e=>rw[hs]at h;cases h
      | ok q =>
       obtain⟨t,j'⟩:=q;rw[hs]at h;obtain⟨a,b⟩:=UZ l i t j' hi hs
       cases h
       exact Az W V hu h2 rfl (fun e=>absurd (show(5:Int)=2 from e) (by decide)) a b
     ·split at h
      ·rename_i hx;have hlt:=aY (l:=l) (i:=i) (by rw[hx];decide);split at h
       ·cases h
       ·have A:=Az (i:=i) (j:=i+1) (n:=l.length) (x:=⟨1,k,[],0,[],p⟩) W V hu h2 rfl (fun e=>absurd (show(1:Int)=2 from e) (by decide)) (by omega) (by omega);obtain⟨a1,a2,a3,a4,a5,a6,a7⟩:=ih.2 (i+1) ns.length (d+1) _ j ns' (by omega) A.wf A.wt (by rw[bY];omega) (by rw[fF ns up _ hu,if_pos rfl];exact fun e=>absurd (show(1:Int)=2 from e) (by decide)) h;have e1:=A.hi;have e2:=A.lo;exact⟨a1,a2,by omega,by omega,fun q hq=>(a5 q (by omega)).trans (A.kd q hq),by omega,a7⟩
      ·cases h
  ·rw[yV]at h
   cases hg:gap l (l.length+1) i with
   | error e=>rw[hg]at h;cases h
   | ok j0 =>
    rw[hg]at h;simp only[]at h;obtain⟨g1,g2⟩:=xy l _ i j0 hi hg;split at h
    ·rename_i hx;have hlt:=aY (l:=l) (i:=j0) (by rw[hx];decide)
     cases h
     exact⟨W,V,Nat.le_refl _,by omega,fun _ _=>rfl,by omega,by omega⟩
    ·cases hv:val l f j0 up [] j0 d ns with
     | error e=>rw[hv]at h;cases h
     | ok q =>
      obtain⟨j1,ns1⟩:=q;rw[hv]at h;simp only[]at h;have A:=ih.1 j0 up [] j0 d ns j1 ns1 g2 W V hu h2 hv;have e1:=A.hi;have e2:=A.lo;have e3:=A.fw;have e4:=A.en
      cases hg2:gap l (l.length+1) j1 with
      | error e=>rw[hg2]at h;cases h
      | ok j2 =>
       rw[hg2]at h;simp only[]at h;obtain⟨g3,g4⟩:=xy l _ j1 j2 A.en hg2;split at h
       ·rename_i hx;have hlt:=aY (l:=l) (i:=j2) (by rw[hx];decide);obtain⟨a1,a2,a3,a4,a5,a6,a7⟩:=ih.2 (j2+1) up d ns1 j ns' (by omega) A.wf A.wt (by omega) (by rw[A.kd up hu];exact h2) h;exact⟨a1,a2,by omega,by omega,fun q hq=>(a5 q (by omega)).trans (A.kd q hq),by omega,a7⟩
       ·split at h
        ·rename_i hx;have hlt:=aY (l:=l) (i:=j2) (by rw[hx];decide)
         cases h
         exact⟨A.wf,A.wt,A.lo,by omega,A.kd,by omega,by omega⟩
        ·cases h
open Go.RowKit Go.Joins
theorem AA(l:List UInt8)(i k:Nat):nx l (i+k)=nx (l.drop i) k:=by unfold nx;rw[List.getElem?_drop]
theorem jV{l:List UInt8}{i:Nat}{c:UInt8}{r:List UInt8}(h:l.drop i=c :: r):nx l i=(c.toNat:Int):=by
 have:=AA l i 0;rw[h]at this;simpa [nx] using this
theorem acI{l:List UInt8}{i:Nat}{r:List UInt8}(h:l.drop i=r):nx l i=nx r 0:=by
 have:=AA l i 0;rw[h]at this;simpa using this
theorem gY{l:List UInt8}{i:Nat}{a r:List UInt8}(h:l.drop i=a++r):l.drop (i+a.length)=r:=by
 rw[<-List.drop_drop,h,List.drop_left' rfl]
theorem MZ{l:List UInt8}{i:Nat}{a r:List UInt8}(h:l.drop i=a++r):aj l i a.length=a:=by
 unfold aj;rw[h,List.take_left' rfl]
theorem Na{p:Int->Bool}{l:List UInt8}{i:Nat}{a r:List UInt8}(h:l.drop i=a++r)(ha:∀c∈a,p (c.toNat:Int)=true)(hr:p (nx r 0)=false):toR p l i=i+a.length:=by
 unfold toR runN;rw[h,List.takeWhile_append_of_pos ha,List.length_append];have:(r.takeWhile fun c=>p (c.toNat:Int))=[]:=by
  match r,hr with
  | [],_=>rfl
  | c :: r,hr =>
   rw[List.takeWhile_cons];have hc:p (c.toNat:Int)=false:=hr;simp[hc]
 rw[this];simp
theorem AB{l:List UInt8}{i:Nat}{r:List UInt8}(h:l.drop i=r)(hr:eU (nx r 0)=false):bl l i=i:=kX eU l i (by rw[acI h];exact hr)
theorem Nb{l:List UInt8}{i:Nat}{r:List UInt8}(h:l.drop i=32 :: r)(hr:eU (nx r 0)=false):bl l i=i+1:=Na (a:=[32]) h (by intro c hc;rw[List.mem_singleton.1 hc];decide) hr
def DT(c a b d:Int):Nat :=
 if c<0 then 0
 else if c<128 then 1
 else if c<194\/244<c then 0
 else if decide ((if c=224 then 160 else if c=240 then 144 else 128)<=a/\a<=(if c=237 then 159 else if c=244 then 143 else 191))=false then 0
 else if c<224 then 2
 else if decide (128<=b/\b<=191)=false then 0
 else if c<240 then 3
 else if decide (128<=d/\d<=191)=false then 0
 else 4
theorem acJ(l:List UInt8)(i:Nat):aJ l i=DT (nx l i) (nx l (i+1)) (nx l (i+2)) (nx l (i+3)):=rfl
theorem acK{a b c d a' b' c' d':Int}(h1:a=a')(h2:b=b')(h3:c=c')(h4:d=d'):DT a b c d=DT a' b' c' d':=by subst h1 h2 h3 h4;rfl
theorem acL(l:List UInt8)(i:Nat):aJ l i=aJ (l.drop i) 0:=acK (AA l i 0) (AA l i 1) (AA l i 2) (AA l i 3)
theorem xA(c:UInt8)(s:List UInt8):aJ (c :: s) 0=if(c.toNat:Int)<128 then 1
 else if(c.toNat:Int)<194\/244<(c.toNat:Int) then 0
 else if decide ((if(c.toNat:Int)=224 then 160 else if(c.toNat:Int)=240 then 144 else 128)<=nx s 0/\nx s 0<=(if(c.toNat:Int)=237 then 159 else if(c.toNat:Int)=244 then 143 else 191))=false then 0
 else if(c.toNat:Int)<224 then 2
 else if decide (128<=nx s 1/\nx s 1<=191)=false then 0
 else if(c.toNat:Int)<240 then 3
 else if decide (128<=nx s 2/\nx s 2<=191)=false then 0
 else 4:=by
 have e:aJ (c :: s) 0=DT (c.toNat:Int) (nx s 0) (nx s 1) (nx s 2):=acJ _ _;rw[e,DT,if_neg (by omega)]
theorem acM(s:List UInt8)(h:0<aJ s 0):∃q r,s=q++r/\q.length=aJ s 0/\(∀r',aJ (q++r') 0=q.length)/\((∃c,q=[c]/\c.toNat<128)\/∃c q',q=c :: q'/\128<=c.toNat/\∀b∈q,128<=b.toNat):=by
 match s,h with
 | [],h=>exact absurd h (by decide)
 | c :: s,h =>
  rw[xA]at h ⊢
  by_cases h1:(c.toNat:Int)<128
  ·exact⟨[c],s,rfl,by rw[if_pos h1];rfl,fun r'=>by show aJ (c :: r') 0=1;rw[xA,if_pos h1],Or.inl ⟨c,rfl,by omega⟩⟩
  ·rw[if_neg h1]at h ⊢
   by_cases h2:(c.toNat:Int)<194\/244<(c.toNat:Int)
   ·rw[if_pos h2]at h;exact absurd h (by decide)
   ·rw[if_neg h2]at h ⊢
    match s,h with
    | [],h =>
     rw[if_pos]at h
     ·exact absurd h (by decide)
     ·apply decide_eq_false;intro hh;have:nx [] 0=-1:=rfl;rw[this]at hh;have:=hh.1;split at this
      ·omega
      ·split at this<;>omega
    | b :: s,h =>
     have e0:∀r,nx (b :: r) 0=(b.toNat:Int):=fun _=>rfl
     rw[e0]at h ⊢
     by_cases h3:decide ((if(c.toNat:Int)=224 then 160 else if(c.toNat:Int)=240 then 144 else 128)<=(b.toNat:Int)/\(b.toNat:Int)<=(if(c.toNat:Int)=237 then 159 else if(c.toNat:Int)=244 then 143 else 191))=false
     ·rw[if_pos h3]at h;exact absurd h (by decide)
     ·rw[if_neg h3]at h ⊢;have hb:128<=b.toNat:=by
       have:=(of_decide_eq_true ((Bool.not_eq_false _).mp h3)).1;split at this
       ·omega
       ·split at this<;>omega
      by_cases h4:(c.toNat:Int)<224
      ·refine⟨[c,b],s,rfl,by rw[if_pos h4];rfl,fun r'=>?_,Or.inr ⟨c,[b],rfl,by omega,?_⟩⟩
       ·show aJ (c :: (b :: r')) 0=2;rw[xA,if_neg h1,if_neg h2,e0,if_neg h3,if_pos h4]
       ·intro x hx;simp only[List.mem_cons,List.not_mem_nil,or_false]at hx
        rcases hx with rfl|rfl<;>omega
      ·rw[if_neg h4]at h ⊢
       match s,h with
       | [],h =>
        rw[if_pos]at h
        ·exact absurd h (by decide)
        ·apply decide_eq_false;intro hh;have:nx [b] 1=-1:=rfl;omega
       | d :: s,h =>
        have e1:∀r,nx (b :: d :: r) 1=(d.toNat:Int):=fun _=>rfl
        rw[e1]at h ⊢
        by_cases h5:decide (128<=(d.toNat:Int)/\(d.toNat:Int)<=191)=false
        ·rw[if_pos h5]at h;exact absurd h (by decide)
        ·rw[if_neg h5]at h ⊢;have hd:128<=d.toNat:=by
          have:=(of_decide_eq_true ((Bool.not_eq_false _).mp h5)).1;omega
         by_cases h6:(c.toNat:Int)<240
         ·refine⟨[c,b,d],s,rfl,by rw[if_pos h6];rfl,fun r'=>?_,Or.inr ⟨c,[b,d],rfl,by omega,?_⟩⟩
          ·show aJ (c :: (b :: d :: r')) 0=3;rw[xA,if_neg h1,if_neg h2,e0,if_neg h3,if_neg h4,e1,if_neg h5,if_pos h6]
          ·intro x hx;simp only[List.mem_cons,List.not_mem_nil,or_false]at hx
           rcases hx with rfl|rfl|rfl<;>omega
         ·rw[if_neg h6]at h ⊢
          match s,h with
          | [],h =>
           rw[if_pos]at h
           ·exact absurd h (by decide)
           ·apply decide_eq_false;intro hh;have:nx [b,d] 2=-1:=rfl;omega
          | x :: s,h =>
           have e2:∀r,nx (b :: d :: x :: r) 2=(x.toNat:Int):=fun _=>rfl
           rw[e2]at h ⊢
           by_cases h7:decide (128<=(x.toNat:Int)/\(x.toNat:Int)<=191)=false
           ·rw[if_pos h7]at h;exact absurd h (by decide)
           ·rw[if_neg h7]at h ⊢;have hx':128<=x.toNat:=by
             have:=(of_decide_eq_true ((Bool.not_eq_false _).mp h7)).1;omega
            refine⟨[c,b,d,x],s,rfl,rfl,fun r'=>?_,Or.inr ⟨c,[b,d,x],rfl,by omega,?_⟩⟩
            ·show aJ (c :: (b :: d :: x :: r')) 0=4;rw[xA,if_neg h1,if_neg h2,e0,if_neg h3,if_neg h4,e1,if_neg h5,if_neg h6,e2,if_neg h7]
            ·intro y hy;simp only[List.mem_cons,List.not_mem_nil,or_false]at hy
             rcases hy with rfl|rfl|rfl|rfl<;>omega
inductive Us:List UInt8->Prop
 | nil:Us []
 | cons (q r:List UInt8):0<q.length->(∀r',aJ (q++r') 0=q.length)->((∃c,q=[c]/\c.toNat<128)\/∃c q',q=c :: q'/\128<=c.toNat/\∀b∈q,128<=b.toNat)->Us r->Us (q++r)
theorem Us.app{a b:List UInt8}(ha:Us a)(hb:Us b):Us (a++b):=by
 induction ha with
 | nil=>exact hb
 | cons q r h1 h2 h3 _ ih=>rw[List.append_assoc];exact Us.cons q _ h1 h2 h3 ih
theorem U0(s:List UInt8)(h:0<aJ s 0):Us (s.take (aJ s 0)):=by
 obtain⟨q,r,h1,h2,h3,h4⟩:=acM s h;rw[<-h2,h1,List.take_left' rfl];have:=Us.cons q [] (by omega) h3 h4 Us.nil;simpa using this
theorem Nc(c:UInt8)(h:c.toNat<128):Us [c]:=Us.cons [c] [] (by simp) (fun r'=>by show aJ (c :: r') 0=1;rw[xA,if_pos (by omega)]) (Or.inl ⟨c,rfl,h⟩) Us.nil
theorem U4(s:List UInt8)(h:aJ s 0=s.length)(h0:0<s.length):Us s:=by
 have:=U0 s (by omega);rw[h,List.take_length]at this;exact this
theorem acN(n:Nat)(h:n<65536)(hs:¬(55296<=n/\n<=57343)):Us (iE n):=by
 unfold iE;have tn:∀m,m<256->((UInt8.ofNat m).toNat:Int)=(m:Int):=fun m hm=>by
  rw[UInt8.toNat_ofNat_of_lt' (by simpa using hm)]
 split
 ·exact Nc _ (by rw[UInt8.toNat_ofNat_of_lt' (by show n<256;omega)];assumption)
 ·split
  ·refine U4 _ ?_ (by simp);rw[xA,tn _ (by omega),if_neg (by omega),if_neg (by omega),if_neg,if_pos (by omega)]
   ·rfl
   ·rw[decide_eq_false_iff_not,Classical.not_not];have e:nx [UInt8.ofNat (128+n % 64)] 0=((UInt8.ofNat (128+n % 64)).toNat:Int):=rfl;rw[e,tn _ (by omega),if_neg (by omega),if_neg (by omega),if_neg (by omega),if_neg (by omega)];omega
  ·refine U4 _ ?_ (by simp);have e0:∀r,nx (UInt8.ofNat (128+n / 64 % 64) :: r) 0=((UInt8.ofNat (128+n / 64 % 64)).toNat:Int):=fun _=>rfl
   have e1:∀b,nx [b,UInt8.ofNat (128+n % 64)] 1=((UInt8.ofNat (128+n % 64)).toNat:Int):=fun _=>rfl
   rw[xA,tn _ (by omega),if_neg (by omega),if_neg (by omega),if_neg,if_neg (by omega),if_neg,if_pos (by omega)]
   ·rfl
   ·rw[decide_eq_false_iff_not,Classical.not_not,e1,tn _ (by omega)];omega
   ·rw[decide_eq_false_iff_not,Classical.not_not,e0,tn _ (by omega)];split
    ·rw[if_neg (by omega)];rw[if_neg (by omega)];omega
    ·rw[if_neg (by omega)];split
     ·omega
     ·rw[if_neg (by omega)];omega
open Go.RowKit Go.Joins
theorem acO(l:List UInt8)(i:Nat)(b:List UInt8)(j:Nat)(h:esc l i=.ok (b,j)):Us b:=by
 unfold esc at h;have one:∀c:UInt8,c.toNat<128->∀m,(Except.ok ([c],m):Rs (List UInt8 × Nat))=.ok (b,j)->Us b:=fun c hc m hh=>by
  injection hh with hh
  injection hh with h1 h2
  rw[<-h1];exact Nc c hc
 split at h
 ·rename_i hu;have hl:i+1<l.length:=aY (by omega);split at h
  ·cases h
  ·rename_i n m hf;split at h
   ·cases h
   ·rename_i hs;injection h with h
    injection h with h1 h2
    rw[<-h1];have:=(LH l 4 (i+2) 0 n m (by omega) hf).2.2;exact acN n (by omega) hs
 ·split at h
  ·exact one _ (by decide) _ h
  ·split at h
   ·exact one _ (by decide) _ h
   ·split at h
    ·exact one _ (by decide) _ h
    ·split at h
     ·exact one _ (by decide) _ h
     ·split at h
      ·exact one _ (by decide) _ h
      ·split at h
       ·exact one _ (by decide) _ h
       ·split at h
        ·exact one _ (by decide) _ h
        ·cases h
theorem Ie(l:List UInt8):∀(f i:Nat) (acc t:List UInt8) (j:Nat),Us acc->str l f i acc=.ok (t,j)->Us t
 | 0,i,acc,t,j,_,h=>by cases h
 | f+1,i,acc,t,j,ha,h=>by
  rw[yN]at h;split at h
  ·injection h with h
   injection h with h1 h2
   rw[<-h1];exact ha
  ·split at h
   ·split at h
    ·cases h
    ·rename_i b k he;exact Ie l f k _ t j (ha.app (acO l i b k he)) h
   ·split at h
    ·cases h
    ·split at h
     ·cases h
     ·rename_i hs;refine Ie l f _ _ t j (ha.app ?_) h;have h0:=acL l i;unfold aj;rw[h0];exact U0 _ (by omega)
end Go.Proofs.YtnnbgjaphfhibaaGreatDoor
