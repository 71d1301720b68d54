import Derived.Test.YtmkjelchiacogaaGreatDoorM03
import Derived.Test.YtmkjelchiacogaaGreatDoorM11
import Derived.Test.YtmkjelchiacogaaGreatDoorM13
import Derived.Test.YtmkjelchiacogaaGreatDoorM10
import Derived.Test.YtmkjelchiacogaaGreatDoorM06
set_option linter.unusedVariables false
set_option linter.unusedSimpArgs false
set_option maxRecDepth 100000
set_option maxHeartbeats 6400000
namespace Go.Proofs.YtmkjelchiacogaaGreatDoor
open Go.RowKit Go.Joins
theorem Af(l:List UInt8)(i k:Nat):nx l (i+k)=nx (l.drop i) k:=by unfold nx;rw[List.getElem?_drop]
theorem fV{l:List UInt8}{i:Nat}{c:UInt8}{r:List UInt8}(h:l.drop i=c :: r):nx l i=(c.toNat:Int):=by
 have:=Af l i 0;rw[h]at this;simpa [nx] using this
theorem ab7{l:List UInt8}{i:Nat}{r:List UInt8}(h:l.drop i=r):nx l i=nx r 0:=by
 have:=Af l i 0;rw[h]at this;simpa using this
theorem cO{l:List UInt8}{i:Nat}{a r:List UInt8}(h:l.drop i=a++r):l.drop (i+a.length)=r:=by
 rw[<-List.drop_drop,h,List.drop_left' rfl]
theorem Hm{l:List UInt8}{i:Nat}{a r:List UInt8}(h:l.drop i=a++r):ah l i a.length=a:=by
 unfold ah;rw[h,List.take_left' rfl]
theorem LC{p:Int->Bool}{l:List UInt8}{i:Nat}{a r:List UInt8}(h:l.drop i=a++r)(ha:∀c∈a,p (c.toNat:Int)=true)(hr:p (nx r 0)=false):toR p l i=i+a.length:=by
 unfold toR runN;rw[h,List.takeWhile_append_of_pos ha,List.length_append];have:(r.takeWhile fun c=>p (c.toNat:Int))=[]:=by
  match r,hr with
  | [],_=>rfl
  | c :: r,hr =>
   rw[List.takeWhile_cons];have hc:p (c.toNat:Int)=false:=hr;simp[hc]
 rw[this];simp
theorem wE{l:List UInt8}{i:Nat}{r:List UInt8}(h:l.drop i=r)(hr:je (nx r 0)=false):bl l i=i:=xB je l i (by rw[ab7 h];exact hr)
theorem LD{l:List UInt8}{i:Nat}{r:List UInt8}(h:l.drop i=32 :: r)(hr:je (nx r 0)=false):bl l i=i+1:=LC (a:=[32]) h (by intro c hc;rw[List.mem_singleton.1 hc];decide) hr
def Dt(c a b d:Int):Nat :=
 if c<0 then 0
 else if c<128 then 1
 else if c<194\/244<c then 0
 else if decide ((if c=224 then 160 else if c=240 then 144 else 128)<=a/\a<=(if c=237 then 159 else if c=244 then 143 else 191))=false then 0
 else if c<224 then 2
 else if decide (128<=b/\b<=191)=false then 0
 else if c<240 then 3
 else if decide (128<=d/\d<=191)=false then 0
 else 4
theorem ab8(l:List UInt8)(i:Nat):aX l i=Dt (nx l i) (nx l (i+1)) (nx l (i+2)) (nx l (i+3)):=rfl
theorem ab9{a b c d a' b' c' d':Int}(h1:a=a')(h2:b=b')(h3:c=c')(h4:d=d'):Dt a b c d=Dt a' b' c' d':=by subst h1 h2 h3 h4;rfl
theorem Ho(l:List UInt8)(i:Nat):aX l i=aX (l.drop i) 0:=ab9 (Af l i 0) (Af l i 1) (Af l i 2) (Af l i 3)
theorem wF(c:UInt8)(s:List UInt8):aX (c :: s) 0=if(c.toNat:Int)<128 then 1
 else if(c.toNat:Int)<194\/244<(c.toNat:Int) then 0
 else if decide ((if(c.toNat:Int)=224 then 160 else if(c.toNat:Int)=240 then 144 else 128)<=nx s 0/\nx s 0<=(if(c.toNat:Int)=237 then 159 else if(c.toNat:Int)=244 then 143 else 191))=false then 0
 else if(c.toNat:Int)<224 then 2
 else if decide (128<=nx s 1/\nx s 1<=191)=false then 0
 else if(c.toNat:Int)<240 then 3
 else if decide (128<=nx s 2/\nx s 2<=191)=false then 0
 else 4:=by
 have e:aX (c :: s) 0=Dt (c.toNat:Int) (nx s 0) (nx s 1) (nx s 2):=ab8 _ _;rw[e,Dt,if_neg (by omega)]
theorem aca(s:List UInt8)(h:0<aX s 0):∃q r,s=q++r/\q.length=aX s 0/\(∀r',aX (q++r') 0=q.length)/\((∃c,q=[c]/\c.toNat<128)\/∃c q',q=c :: q'/\128<=c.toNat/\∀b∈q,128<=b.toNat):=by
 match s,h with
 | [],h=>exact absurd h (by decide)
 | c :: s,h =>
  rw[wF]at h ⊢
  by_cases h1:(c.toNat:Int)<128
  ·exact⟨[c],s,rfl,by rw[if_pos h1];rfl,fun r'=>by show aX (c :: r') 0=1;rw[wF,if_pos h1],Or.inl ⟨c,rfl,by omega⟩⟩
  ·rw[if_neg h1]at h ⊢
   by_cases h2:(c.toNat:Int)<194\/244<(c.toNat:Int)
   ·rw[if_pos h2]at h;exact absurd h (by decide)
   ·rw[if_neg h2]at h ⊢
    match s,h with
    | [],h =>
     rw[if_pos]at h
     ·exact absurd h (by decide)
     ·apply decide_eq_false;intro hh;have:nx [] 0=-1:=rfl;rw[this]at hh;have:=hh.1;split at this
      ·omega
      ·split at this<;>omega
    | b :: s,h =>
     have e0:∀r,nx (b :: r) 0=(b.toNat:Int):=fun _=>rfl
     rw[e0]at h ⊢
     by_cases h3:decide ((if(c.toNat:Int)=224 then 160 else if(c.toNat:Int)=240 then 144 else 128)<=(b.toNat:Int)/\(b.toNat:Int)<=(if(c.toNat:Int)=237 then 159 else if(c.toNat:Int)=244 then 143 else 191))=false
     ·rw[if_pos h3]at h;exact absurd h (by decide)
     ·rw[if_neg h3]at h ⊢;have hb:128<=b.toNat:=by
       have:=(of_decide_eq_true ((Bool.not_eq_false _).mp h3)).1;split at this
       ·omega
       ·split at this<;>omega
      by_cases h4:(c.toNat:Int)<224
      ·refine⟨[c,b],s,rfl,by rw[if_pos h4];rfl,fun r'=>?_,Or.inr ⟨c,[b],rfl,by omega,?_⟩⟩
       ·show aX (c :: (b :: r')) 0=2;rw[wF,if_neg h1,if_neg h2,e0,if_neg h3,if_pos h4]
       ·intro x hx;simp only[List.mem_cons,List.not_mem_nil,or_false]at hx
        rcases hx with rfl|rfl<;>omega
      ·rw[if_neg h4]at h ⊢
       match s,h with
       | [],h =>
        rw[if_pos]at h
        ·exact absurd h (by decide)
        ·apply decide_eq_false;intro hh;have:nx [b] 1=-1:=rfl;omega
       | d :: s,h =>
        have e1:∀r,nx (b :: d :: r) 1=(d.toNat:Int):=fun _=>rfl
        rw[e1]at h ⊢
        by_cases h5:decide (128<=(d.toNat:Int)/\(d.toNat:Int)<=191)=false
        ·rw[if_pos h5]at h;exact absurd h (by decide)
        ·rw[if_neg h5]at h ⊢;have hd:128<=d.toNat:=by
          have:=(of_decide_eq_true ((Bool.not_eq_false _).mp h5)).1;omega
         by_cases h6:(c.toNat:Int)<240
         ·refine⟨[c,b,d],s,rfl,by rw[if_pos h6];rfl,fun r'=>?_,Or.inr ⟨c,[b,d],rfl,by omega,?_⟩⟩
          ·show aX (c :: (b :: d :: r')) 0=3;rw[wF,if_neg h1,if_neg h2,e0,if_neg h3,if_neg h4,e1,if_neg h5,if_pos h6]
          ·intro x hx;simp only[List.mem_cons,List.not_mem_nil,or_false]at hx
           rcases hx with rfl|rfl|rfl<;>omega
         ·rw[if_neg h6]at h ⊢
          match s,h with
          | [],h =>
           rw[if_pos]at h
           ·exact absurd h (by decide)
           ·apply decide_eq_false;intro hh;have:nx [b,d] 2=-1:=rfl;omega
          | x :: s,h =>
           have e2:∀r,nx (b :: d :: x :: r) 2=(x.toNat:Int):=fun _=>rfl
           rw[e2]at h ⊢
           by_cases h7:decide (128<=(x.toNat:Int)/\(x.toNat:Int)<=191)=false
           ·rw[if_pos h7]at h;exact absurd h (by decide)
           ·rw[if_neg h7]at h ⊢;have hx':128<=x.toNat:=by
             have:=(of_decide_eq_true ((Bool.not_eq_false _).mp h7)).1;omega
            refine⟨[c,b,d,x],s,rfl,rfl,fun r'=>?_,Or.inr ⟨c,[b,d,x],rfl,by omega,?_⟩⟩
            ·show aX (c :: (b :: d :: x :: r')) 0=4;rw[wF,if_neg h1,if_neg h2,e0,if_neg h3,if_neg h4,e1,if_neg h5,if_neg h6,e2,if_neg h7]
            ·intro y hy;simp only[List.mem_cons,List.not_mem_nil,or_false]at hy
             rcases hy with rfl|rfl|rfl|rfl<;>omega
inductive Us:List UInt8->Prop
 | nil:Us []
 | cons (q r:List UInt8):0<q.length->(∀r',aX (q++r') 0=q.length)->((∃c,q=[c]/\c.toNat<128)\/∃c q',q=c :: q'/\128<=c.toNat/\∀b∈q,128<=b.toNat)->Us r->Us (q++r)
theorem Us.app{a b:List UInt8}(ha:Us a)(hb:Us b):Us (a++b):=by
 induction ha with
 | nil=>exact hb
 | cons q r h1 h2 h3 _ ih=>rw[List.append_assoc];exact Us.cons q _ h1 h2 h3 ih
theorem Un(s:List UInt8)(h:0<aX s 0):Us (s.take (aX s 0)):=by
 obtain⟨q,r,h1,h2,h3,h4⟩:=aca s h;rw[<-h2,h1,List.take_left' rfl];have:=Us.cons q [] (by omega) h3 h4 Us.nil;simpa using this
theorem Hq(c:UInt8)(h:c.toNat<128):Us [c]:=Us.cons [c] [] (by simp) (fun r'=>by show aX (c :: r') 0=1;rw[wF,if_pos (by omega)]) (Or.inl ⟨c,rfl,h⟩) Us.nil
theorem Uo(s:List UInt8)(h:aX s 0=s.length)(h0:0<s.length):Us s:=by
 have:=Un s (by omega);rw[h,List.take_length]at this;exact this
theorem acb(n:Nat)(h:n<65536)(hs:¬(55296<=n/\n<=57343)):Us (jV n):=by
 unfold jV;have tn:∀m,m<256->((UInt8.ofNat m).toNat:Int)=(m:Int):=fun m hm=>by
  rw[UInt8.toNat_ofNat_of_lt' (by simpa using hm)]
 split
 ·exact Hq _ (by rw[UInt8.toNat_ofNat_of_lt' (by show n<256;omega)];assumption)
 ·split
  ·refine Uo _ ?_ (by simp);rw[wF,tn _ (by omega),if_neg (by omega),if_neg (by omega),if_neg,if_pos (by omega)]
   ·rfl
   ·rw[decide_eq_false_iff_not,Classical.not_not];have e:nx [UInt8.ofNat (128+n % 64)] 0=((UInt8.ofNat (128+n % 64)).toNat:Int):=rfl;rw[e,tn _ (by omega),if_neg (by omega),if_neg (by omega),if_neg (by omega),if_neg (by omega)];omega
  ·refine Uo _ ?_ (by simp);have e0:∀r,nx (UInt8.ofNat (128+n / 64 % 64) :: r) 0=((UInt8.ofNat (128+n / 64 % 64)).toNat:Int):=fun _=>rfl
   have e1:∀b,nx [b,UInt8.ofNat (128+n % 64)] 1=((UInt8.ofNat (128+n % 64)).toNat:Int):=fun _=>rfl
   rw[wF,tn _ (by omega),if_neg (by omega),if_neg (by omega),if_neg,if_neg (by omega),if_neg,if_pos (by omega)]
   ·rfl
   ·rw[decide_eq_false_iff_not,Classical.not_not,e1,tn _ (by omega)];omega
   ·rw[decide_eq_false_iff_not,Classical.not_not,e0,tn _ (by omega)];split
    ·rw[if_neg (by omega)];rw[if_neg (by omega)];omega
    ·rw[if_neg (by omega)];split
     ·omega
     ·rw[if_neg (by omega)];omega
open Go.RowKit Go.Joins
theorem acd(l:List UInt8)(i:Nat)(b:List UInt8)(j:Nat)(h:esc l i=.ok (b,j)):Us b:=by
 unfold esc at h;have one:∀c:UInt8,c.toNat<128->∀m,(Except.ok ([c],m):Rs (List UInt8 × Nat))=.ok (b,j)->Us b:=fun c hc m hh=>by
  injection hh with hh
  injection hh with h1 h2
  rw[<-h1];exact Hq c hc
 split at h
 ·rename_i hu;have hl:i+1<l.length:=cZ (by omega);split at h
  ·cases h
  ·rename_i n m hf;split at h
   ·cases h
   ·rename_i hs;injection h with h
    injection h with h1 h2
    rw[<-h1];have:=(Jp l 4 (i+2) 0 n m (by omega) hf).2.2;exact acb n (by omega) hs
 ·split at h
  ·exact one _ (by decide) _ h
  ·split at h
   ·exact one _ (by decide) _ h
   ·split at h
    ·exact one _ (by decide) _ h
    ·split at h
     ·exact one _ (by decide) _ h
     ·split at h
      ·exact one _ (by decide) _ h
      ·split at h
       ·exact one _ (by decide) _ h
       ·split at h
        ·exact one _ (by decide) _ h
        ·cases h
theorem Hr(l:List UInt8):∀(f i:Nat) (acc t:List UInt8) (j:Nat),Us acc->str l f i acc=.ok (t,j)->Us t
 | 0,i,acc,t,j,_,h=>by cases h
 | f+1,i,acc,t,j,ha,h=>by
  rw[y9]at h;split at h
  ·injection h with h
   injection h with h1 h2
   rw[<-h1];exact ha
  ·split at h
   ·split at h
    ·cases h
    ·rename_i b k he;exact Hr l f k _ t j (ha.app (acd l i b k he)) h
   ·split at h
    ·cases h
    ·split at h
     ·cases h
     ·rename_i hs;refine Hr l f _ _ t j (ha.app ?_) h;have h0:aX l i=aX (l.drop i) 0:=Ho l i;unfold ah;rw[h0];exact Un _ (by omega)
theorem ace(b:UInt8)(h:128<=b.toNat):qc b=[b]:=by
 have key:∀n:Fin 256,128<=n.val->qc (UInt8.ofNat n.val)=[UInt8.ofNat n.val]:=by decide
 have:=key ⟨b.toNat,b.toNat_lt⟩ h;simpa using this
theorem acf(c:UInt8)(h:c.toNat<128):(qc c=[c]/\c.toNat≠34/\c.toNat≠92/\nG (c.toNat:Int)=false)\/(qc c=[92,117,48,48,hexS.getD (c.toNat / 16) 0,hexS.getD (c.toNat % 16) 0]/\hexV ((hexS.getD (c.toNat / 16) 0).toNat:Int)=(c.toNat / 16:Nat)/\hexV ((hexS.getD (c.toNat % 16) 0).toNat:Int)=(c.toNat % 16:Nat)/\jV c.toNat=[c])\/∃x,qc c=[92,x]/\((c=8/\x=98)\/(c=9/\x=116)\/(c=10/\x=110)\/(c=12/\x=102)\/(c=13/\x=114)\/(c=34/\x=34)\/(c=92/\x=92)):=by
 have key:∀n:Fin 128,(let c:=UInt8.ofNat n.val;(qc c=[c]/\c.toNat≠34/\c.toNat≠92/\nG (c.toNat:Int)=false)\/(qc c=[92,117,48,48,hexS.getD (c.toNat / 16) 0,hexS.getD (c.toNat % 16) 0]/\hexV ((hexS.getD (c.toNat / 16) 0).toNat:Int)=(c.toNat / 16:Nat)/\hexV ((hexS.getD (c.toNat % 16) 0).toNat:Int)=(c.toNat % 16:Nat)/\jV c.toNat=[c])\/(qc c=[92,pU.getD (Lib.indexByte lG c).toNat 0]/\((c=8/\pU.getD (Lib.indexByte lG c).toNat 0=98)\/(c=9/\pU.getD (Lib.indexByte lG c).toNat 0=116)\/(c=10/\pU.getD (Lib.indexByte lG c).toNat 0=110)\/(c=12/\pU.getD (Lib.indexByte lG c).toNat 0=102)\/(c=13/\pU.getD (Lib.indexByte lG c).toNat 0=114)\/(c=34/\pU.getD (Lib.indexByte lG c).toNat 0=34)\/(c=92/\pU.getD (Lib.indexByte lG c).toNat 0=92)))):=by decide
 have:=key ⟨c.toNat,h⟩;simp only[UInt8.ofNat_toNat]at this
 rcases this with h1|h1|h1
 ·exact Or.inl h1
 ·exact Or.inr (Or.inl h1)
 ·exact Or.inr (Or.inr ⟨_,h1⟩)
theorem acg{l:List UInt8}{i:Nat}{c x:UInt8}{r:List UInt8}(h:l.drop i=92 :: x :: r)(hc:(c=8/\x=98)\/(c=9/\x=116)\/(c=10/\x=110)\/(c=12/\x=102)\/(c=13/\x=114)\/(c=34/\x=34)\/(c=92/\x=92)):esc l i=.ok ([c],i+2):=by
 have h1:nx l (i+1)=(x.toNat:Int):=fV (cO (a:=[92]) h);unfold esc;rw[h1]
 rcases hc with⟨rfl,rfl⟩|⟨rfl,rfl⟩|⟨rfl,rfl⟩|⟨rfl,rfl⟩|⟨rfl,rfl⟩|⟨rfl,rfl⟩|⟨rfl,rfl⟩<;>rfl
theorem Ht(l:List UInt8)(k i n:Nat)(c:UInt8)(r:List UInt8)(m:Nat)(h:l.drop i=c :: r)(hv:hexV (c.toNat:Int)=(m:Nat)):four l (k+1) i n=four l k (i+1) (16*n+m):=by
 show(if hexV (nx l i)<0 then _ else _)=_;rw[fV h,hv,if_neg (by omega)];rfl
theorem ach{l:List UInt8}{i:Nat}{x y:UInt8}{r:List UInt8}{a b:Nat}(h:l.drop i=92 :: 117 :: 48 :: 48 :: x :: y :: r)(hx:hexV (x.toNat:Int)=(a:Nat))(hy:hexV (y.toNat:Int)=(b:Nat))(hn:16*a+b<128):esc l i=.ok (jV (16*a+b),i+6):=by
 have d1:l.drop (i+1)=_:=cO (a:=[92]) h;have d2:l.drop (i+2)=_:=cO (a:=[92,117]) h;have d3:l.drop (i+2+1)=_:=cO (a:=[92,117,48]) h;have d4:l.drop (i+2+1+1)=_:=cO (a:=[92,117,48,48]) h;have d5:l.drop (i+2+1+1+1)=_:=cO (a:=[92,117,48,48,x]) h;have h1:nx l (i+1)=117:=fV d1;have hf:four l 4 (i+2) 0=.ok (16*a+b,i+6):=by
  rw[Ht l 3 (i+2) 0 48 _ 0 d2 (by decide),Ht l 2 _ _ 48 _ 0 d3 (by decide),Ht l 1 _ _ x _ a d4 hx,Ht l 0 _ _ y _ b d5 hy];show Except.ok (_,_)=_;simp
 unfold esc;rw[if_pos h1,hf];show(if 55296<=_/\_ then _ else _)=_;rw[if_neg (by omega)]
theorem Ur(l:List UInt8)(s:List UInt8)(hs:Us s):∀(f i:Nat) (acc r:List UInt8),l.drop i=s.flatMap qc++34 :: r->(s.flatMap qc).length<f->str l f i acc=.ok (acc++s,i+(s.flatMap qc).length+1):=by
 induction hs with
 | nil =>
  intro f i acc r h hf
  match f,hf with
  | f+1,_ =>
   have h0:nx l i=34:=fV (c:=34) (r:=r) h;rw[y9,if_pos h0];simp
 | cons q s h1 h2 h3 hs ih =>
  intro f i acc r h hf
  match f,hf with
  | 0,hf=>exact absurd hf (by omega)
  | f+1,hf =>
   rw[List.flatMap_append,List.append_assoc]at h;rw[List.flatMap_append,List.length_append]at hf ⊢;rw[y9]
   rcases h3 with⟨c,rfl,hc⟩|⟨c,q',hq,hc,hall⟩
   ·have e1:List.flatMap qc [c]=qc c:=by simp
    rw[e1]at h hf ⊢
    rcases acf c hc with⟨e,n1,n2,n3⟩|⟨e,x1,x2,x3⟩|⟨x,e,hx⟩
    ·rw[e]at h hf ⊢;have h0:nx l i=(c.toNat:Int):=fV (c:=c) h;rw[h0,if_neg (by omega),if_neg (by omega),if_neg,if_neg]
     ·have hq:aX l i=1:=by rw[Ho,h];exact h2 _
      rw[hq];have hd:=cO (a:=[c]) h;have hsub:ah l i 1=[c]:=Hm (a:=[c]) h;rw[hsub,ih f (i+1) _ r hd (by simp only[List.length_cons,List.length_nil]at hf;omega)];simp only[List.append_assoc,List.length_cons,List.length_nil];congr 2;omega
     ·have hq:aX l i=1:=by rw[Ho,h];exact h2 _
      omega
     ·rintro(hh|hh)
      ·omega
      ·unfold lg at hh;rw[n3]at hh
       cases hh
    ·rw[e]at h hf ⊢;have h0:nx l i=92:=fV (c:=92) h;rw[h0,if_neg (by decide),if_pos rfl];have he:=ach (l:=l) (i:=i) h x1 x2 (by omega);rw[show 16*(c.toNat / 16)+c.toNat % 16=c.toNat by omega,x3]at he;rw[he];show str l f (i+6) _=_;rw[ih f (i+6) _ r (cO (a:=[92,117,48,48,_,_]) h) (by simp only[List.length_cons,List.length_nil]at hf;omega)];simp only[List.append_assoc,List.length_cons,List.length_nil];congr 2;omega
    ·rw[e]at h hf ⊢;have h0:nx l i=92:=fV (c:=92) h;rw[h0,if_neg (by decide),if_pos rfl,acg (l:=l) (i:=i) h hx];show str l f (i+2) _=_;rw[ih f (i+2) _ r (cO (a:=[92,x]) h) (by simp only[List.length_cons,List.length_nil]at hf;omega)];simp only[List.append_assoc,List.length_cons,List.length_nil];congr 2;omega
   ·have e1:List.flatMap qc q=q:=by
     have:∀m:List UInt8,(∀b∈m,128<=b.toNat)->m.flatMap qc=m:=fun m=>by
      induction m with
      | nil=>intro _;rfl
      | cons a m ihm =>
       intro hm;rw[List.flatMap_cons,ace a (hm a (by simp)),ihm (fun b hb=>hm b (by simp[hb]))];rfl
     exact this q hall
    rw[e1]at h hf ⊢;have hn:aX l i=q.length:=by rw[Ho,h];exact h2 _
    have h0:nx l i=(c.toNat:Int):=by rw[hq]at h;exact fV (c:=c) h
    rw[h0,if_neg (by omega),if_neg (by omega),if_neg,if_neg (by omega),hn,Hm h,ih f _ _ r (cO h) (by omega)]
    ·simp only[List.append_assoc];congr 2;omega
    ·rintro(hh|hh)
     ·omega
     ·unfold lg nG at hh;simp at hh;omega
open Go.RowKit Go.Joins
inductive Ld(ns:List Tn):Nat->Nat->Prop
 | top (p:Nat):ag ns p=0->Ld ns p 0
 | kid (p q d:Nat):ag ns q=1->q∈ax ns p->Ld ns p d->Ld ns q (d+1)
structure Hu(pk:Int)(x:Tn):Prop where
 par:(pk=0/\Us x.ky/\0<=x.kd/\x.kd<=5)\/(pk=1/\x.ky=[]/\(x.kd=1\/x.kd=3\/x.kd=4\/x.kd=5))\/(pk=2/\x.ky=[]/\x.kd=0)
 txt:if x.kd=3 then Us x.tx else x.tx=[]
 num:if x.kd=4 then -1000000000000000000<x.nu/\x.nu<1000000000000000000 else if x.kd=5 then x.nu=0\/x.nu=1 else x.nu=0
theorem Du{pk:Int}{k:List UInt8}{p:Nat}{z:Int}(h:(pk=0/\Us k/\(z=0\/z=2))\/(pk=2/\k=[]/\z=0)):Hu pk ⟨z,k,[],0,[],p⟩:=by
 have hz:z=0\/z=2:=by rcases h with⟨-,-,h⟩|⟨-,-,h⟩;exact h;exact Or.inl h
 refine⟨?_,?_,?_⟩
 ·rcases h with⟨h1,h2,h3⟩|⟨h1,h2,h3⟩
  ·exact Or.inl ⟨h1,h2,by show 0<=z;omega,by show z<=5;omega⟩
  ·exact Or.inr (Or.inr ⟨h1,h2,h3⟩)
 ·show if z=3 then _ else _;rw[if_neg (by omega)]
 ·show if z=4 then _ else _;rw[if_neg (by omega),if_neg (by show ¬z=5;omega)]
structure LG(n:Nat)(ns:List Tn)(up:Nat)(x:Tn):Prop where
 ks:x.ks=[]
 ky:x.ky.length<=n
 tx:x.tx.length<=n
 nu:-1000000000000000000<=x.nu/\x.nu<=1000000000000000000
 free:ag ns up=0->aG ns up x.ky=none
 two:ag ns up=2->x.kd=0
 shp:Hu (ag ns up) x
 dep:x.kd=1->∃d,d<8/\Ld ns up d
inductive GrT(n:Nat):List Tn->List Tn->Nat->Prop
 | refl (ns:List Tn):GrT n ns ns 0
 | add (ns ns':List Tn) (m up:Nat) (x:Tn):GrT n ns ns' m->up<ns'.length->LG n ns' up x->GrT n ns (addN ns' up x) (m+x.ky.length)
theorem GrT.trans{n:Nat}{a b:List Tn}{m:Nat}(h:GrT n a b m){c:List Tn}{m':Nat}(h':GrT n b c m'):GrT n a c (m+m'):=by
 induction h' with
 | refl=>exact h
 | add ns' m up x h1 h2 h3 ih=>rw[<-Nat.add_assoc];exact GrT.add _ _ _ _ _ ih h2 h3
theorem GrT.one{n:Nat}{ns:List Tn}{up:Nat}{x:Tn}(hu:up<ns.length)(h:LG n ns up x):GrT n ns (addN ns up x) x.ky.length:=by
 have:=GrT.add ns ns 0 up x (GrT.refl ns) hu h
 rwa [Nat.zero_add]at this
theorem GrT.len{n:Nat}{a b:List Tn}{m:Nat}(h:GrT n a b m):a.length<=b.length:=by
 induction h with
 | refl=>exact Nat.le_refl _
 | add ns' m up x h1 h2 h3 ih=>rw[bV];omega
theorem GrT.kd{n:Nat}{a b:List Tn}{m:Nat}(h:GrT n a b m){q:Nat}(hq:q<a.length):ag b q=ag a q:=by
 induction h with
 | refl=>rfl
 | add ns' m up x h1 h2 h3 ih =>
  have:=h1.len;rw[eH _ _ _ h2,if_neg (by omega)];exact ih
theorem Ld.lt{ns:List Tn}{p d:Nat}(h:Ld ns p d):p<ns.length:=by
 induction h with
 | top p h=>exact qM h (by decide)
 | kid p q d h1 h2 h3 _=>exact qM h1 (by decide)
theorem Ld.addN{ns:List Tn}{p d up:Nat}{x:Tn}(hu:up<ns.length)(h:Ld ns p d):Ld (addN ns up x) p d:=by
 induction h with
 | top p h=>exact Ld.top p (by rw[eH ns up x hu,if_neg (by have:=qM h (by decide);omega)];exact h)
 | kid p q d h1 h2 h3 ih =>
  have hq:=qM h1 (by decide);have hp:=h3.lt;refine Ld.kid p q d (by rw[eH ns up x hu,if_neg (by omega)];exact h1) ?_ ih;rw[jX ns up x hu,if_neg (by omega)];split
  ·rename_i e;rw[<-e];simp[h2]
  ·exact h2
theorem GrT.ld{n:Nat}{a b:List Tn}{m:Nat}(h:GrT n a b m){p d:Nat}(hl:Ld a p d):Ld b p d:=by
 induction h with
 | refl=>exact hl
 | add ns' m up x h1 h2 h3 ih=>exact ih.addN h2
structure Tv(n:Nat)(ns:List Tn)(S:Nat):Prop where
 lt:∀p q,q∈ax ns p->q<ns.length
 gt:∀p q,q∈ax ns p->p<q
 nod:∀p,(ax ns p).Nodup
 kdd:∀t,ag ns t=0->KD ns t
 two:∀t q,ag ns t=2->q∈ax ns t->ag ns q=0
 root:0<ns.length/\ag ns 0=0
 txt:∀x∈ns,x.ky.length<=n/\x.tx.length<=n/\-1000000000000000000<=x.nu/\x.nu<=1000000000000000000
 sum:(ns.map fun x=>x.ky.length).sum<=S
 shp:∀p q,q∈ax ns p->∀x,ns[q]?=some x->Hu (ag ns p) x
 dep:∀p q,q∈ax ns p->ag ns q=1->∃d,d<8/\Ld ns p d
 par:∀q,0<q->q<ns.length->∃p,q∈ax ns p
 rt:∀x,ns[0]?=some x->x.ky=[]/\x.tx=[]/\x.nu=0
theorem Hw(ns:List Tn)(up:Nat)(n:Tn)(hu:up<ns.length)(p:Nat):aW (addN ns up n) p=if p=ns.length then n.ky else aW ns p:=by
 unfold aW;rw[ui ns up n hu]
 by_cases h:p=ns.length
 ·simp only[if_pos h]
 ·simp only[if_neg h]
  by_cases h2:p=up
  ·subst h2;simp only[if_true];rw[List.getElem?_eq_getElem hu]
  ·simp only[if_neg h2]
theorem aci(ns:List Tn)(up:Nat)(x:Tn)(hu:up<ns.length):((addN ns up x).map fun y=>y.ky.length)=(ns.map fun y=>y.ky.length)++[x.ky.length]:=by
 apply List.ext_getElem?;intro i;rw[List.getElem?_map,ui ns up x hu]
 by_cases h:i=ns.length
 ·rw[if_pos h,List.getElem?_append_right (by simp[h]),h];simp
 ·rw[if_neg h]
  by_cases h2:i=up
  ·rw[if_pos h2,List.getElem?_append_left (by rw[List.length_map,h2];exact hu),List.getElem?_map,h2,List.getElem?_eq_getElem hu];rfl
  ·rw[if_neg h2]
   by_cases h3:i<ns.length
   ·rw[List.getElem?_append_left (by rw[List.length_map];exact h3),List.getElem?_map]
   ·rw[List.getElem?_eq_none (by omega),List.getElem?_append_right (by rw[List.length_map];omega)];rw[List.length_map,List.getElem?_eq_none (by simp;omega)];rfl
theorem Tv.add{n:Nat}{ns:List Tn}{S up:Nat}{x:Tn}(T:Tv n ns S)(hu:up<ns.length)(h:LG n ns up x):Tv n (addN ns up x) (S+x.ky.length) where
 lt:=fun p q hq=>by
  rw[jX ns up x hu,h.ks]at hq;rw[bV];split at hq
  ·cases hq
  ·split at hq
   ·rw[List.mem_append,List.mem_singleton]at hq
    rcases hq with hq|rfl
    ·have:=T.lt _ _ hq;omega
    ·omega
   ·have:=T.lt _ _ hq;omega
 gt:=fun p q hq=>by
  rw[jX ns up x hu,h.ks]at hq;split at hq
  ·cases hq
  ·split at hq
   ·rename_i e;rw[List.mem_append,List.mem_singleton]at hq
    rcases hq with hq|rfl
    ·rw[e];exact T.gt _ _ hq
    ·omega
   ·exact T.gt _ _ hq
 nod:=fun p=>by
  rw[jX ns up x hu,h.ks];split
  ·exact List.nodup_nil
  ·split
   ·rw[List.nodup_append];refine⟨T.nod up,by simp,fun a ha b hb hab=>?_⟩;rw[List.mem_singleton]at hb;subst hab hb;have:=T.lt _ _ ha;omega
   ·exact T.nod p
 kdd:=fun t ht=>by
  rw[eH ns up x hu]at ht;unfold KD;rw[jX ns up x hu,h.ks];split
  ·exact List.Pairwise.nil
  ·rename_i hne;rw[if_neg hne]at ht;have old:∀p,ag ns p=0->(ax ns p).Pairwise fun a b=>aW (addN ns up x) a≠aW (addN ns up x) b:=fun p hp=>by
    refine List.Pairwise.imp_of_mem ?_ (T.kdd p hp);intro a b ha hb hab;have h1:=T.lt _ _ ha;have h2:=T.lt _ _ hb;rw[Hw ns up x hu,Hw ns up x hu,if_neg (by omega),if_neg (by omega)];exact hab
   split
   ·rename_i e;rw[e]at ht;rw[List.pairwise_append];refine⟨old up ht,List.pairwise_singleton _ _,fun a ha b hb=>?_⟩;rw[List.mem_singleton]at hb;subst hb;have h1:=T.lt _ _ ha;rw[Hw ns up x hu,Hw ns up x hu,if_neg (by omega),if_pos rfl,vW h1];have hf:=h.free ht;rw[uh,List.find?_eq_none]at hf;have:=hf a ha;unfold mi at this;rw[List.getElem?_eq_getElem h1]at this;simpa using this
   ·exact old t ht
 two:=fun t q ht hq=>by
  rw[eH ns up x hu]at ht;rw[jX ns up x hu,h.ks]at hq;split at hq
  ·cases hq
  ·rename_i hne;rw[if_neg hne]at ht;rw[eH ns up x hu];split at hq
   ·rename_i e;rw[e]at ht;rw[List.mem_append,List.mem_singleton]at hq
    rcases hq with hq|rfl
    ·have:=T.lt _ _ hq;rw[if_neg (by omega)];exact T.two _ _ ht hq
    ·rw[if_pos rfl];exact h.two ht
   ·have:=T.lt _ _ hq;rw[if_neg (by omega)];exact T.two _ _ ht hq
 root:=by
  rw[bV,eH ns up x hu,if_neg (by have:=T.root.1;omega)];exact⟨by omega,T.root.2⟩
 txt:=fun y hy=>by
  rw[List.mem_iff_getElem?]at hy;obtain⟨i,hi⟩:=hy;rw[ui ns up x hu]at hi;split at hi
  ·cases hi
   exact⟨h.ky,h.tx,h.nu⟩
  ·split at hi
   ·cases hi
    exact T.txt ns[up] (List.getElem_mem hu)
   ·exact T.txt y (List.mem_of_getElem? hi)
 sum:=by
  rw[aci ns up x hu,List.sum_append];have:=T.sum;simp;omega
 shp:=fun p q hq y hy=>by
  have old:∀p q y,q∈ax ns p->(addN ns up x)[q]?=some y->Hu (ag ns p) y:=fun p q y hq hy=>by
   have h1:=T.lt _ _ hq;rw[ui ns up x hu,if_neg (by omega)]at hy;split at hy
   ·rename_i e;have h2:=T.shp p q hq ns[up] (by rw[e];exact List.getElem?_eq_getElem hu)
    cases hy
    exact⟨h2.par,h2.txt,h2.num⟩
   ·exact T.shp p q hq y hy
  rw[jX ns up x hu,h.ks]at hq;rw[eH ns up x hu];split at hq
  ·cases hq
  ·rename_i hne;rw[if_neg hne];split at hq
   ·rename_i e;rw[List.mem_append,List.mem_singleton]at hq
    rcases hq with hq|rfl
    ·rw[e];exact old up q y hq hy
    ·rw[ui ns up x hu,if_pos rfl]at hy
     cases hy
     rw[e];exact h.shp
   ·exact old p q y hq hy
 dep:=fun p q hq hk=>by
  rw[jX ns up x hu,h.ks]at hq;rw[eH ns up x hu]at hk;split at hq
  ·cases hq
  ·split at hq
   ·rename_i e;rw[List.mem_append,List.mem_singleton]at hq
    rcases hq with hq|rfl
    ·rw[if_neg (by have:=T.lt _ _ hq;omega)]at hk;obtain⟨d,h1,h2⟩:=T.dep up q hq hk;rw[e];exact⟨d,h1,h2.addN hu⟩
    ·rw[if_pos rfl]at hk;obtain⟨d,h1,h2⟩:=h.dep hk;rw[e];exact⟨d,h1,h2.addN hu⟩
   ·rw[if_neg (by have:=T.lt _ _ hq;omega)]at hk;obtain⟨d,h1,h2⟩:=T.dep p q hq hk;exact⟨d,h1,h2.addN hu⟩
 par:=fun q h0 hq=>by
  rw[bV]at hq
  by_cases e:q=ns.length
  ·refine⟨up,?_⟩;rw[jX ns up x hu,if_neg (by omega),if_pos rfl,e];simp
  ·obtain⟨p,hp⟩:=T.par q h0 (by omega);refine⟨p,?_⟩;rw[jX ns up x hu,if_neg (fun e2=>by rw[e2,I8 ns _ (Nat.le_refl _)]at hp;cases hp)];split
   ·rename_i e2;rw[<-e2];simp[hp]
   ·exact hp
 rt:=fun y hy=>by
  have h0:=T.root.1;rw[ui ns up x hu,if_neg (by omega)]at hy;split at hy
  ·rename_i e;have h2:=T.rt ns[up] (by rw[e];exact List.getElem?_eq_getElem hu)
   cases hy
   exact h2
  ·exact T.rt y hy
theorem GrT.tv{n:Nat}{a b:List Tn}{m S:Nat}(h:GrT n a b m)(T:Tv n a S):Tv n b (S+m):=by
 induction h with
 | refl=>exact T
 | add ns' m up x h1 h2 h3 ih=>rw[<-Nat.add_assoc];exact ih.add h2 h3
theorem acj(n:Nat):Tv n [⟨0,[],[],0,[],0⟩] 0 where
 lt:=fun p q hq=>by
  cases p with
  | zero=>cases hq
  | succ p=>cases hq
 gt:=fun p q hq=>by
  cases p with
  | zero=>cases hq
  | succ p=>cases hq
 nod:=fun p=>by
  cases p with
  | zero=>exact List.nodup_nil
  | succ p=>exact List.nodup_nil
 kdd:=fun p _=>by
  cases p with
  | zero=>exact List.Pairwise.nil
  | succ p=>exact List.Pairwise.nil
 two:=fun p q _ hq=>by
  cases p with
  | zero=>cases hq
  | succ p=>cases hq
 root:=⟨by simp,rfl⟩
 txt:=fun x hx=>by
  rw[List.mem_singleton]at hx;subst hx;simp
 sum:=by simp
 shp:=fun p q hq=>by
  cases p with
  | zero=>cases hq
  | succ p=>cases hq
 dep:=fun p q hq=>by
  cases p with
  | zero=>cases hq
  | succ p=>cases hq
 par:=fun q h0 hq=>by
  simp at hq;omega
 rt:=fun x hx=>by
  cases hx
  exact⟨rfl,rfl,rfl⟩
open Go.RowKit Go.Maps Go.WideMaps Go.Joins
theorem LH(l:List UInt8):∀(f:Nat) (d d':Sd),Li l d->jW l f d=.ok d'->Li l d'
 | 0,d,d',L,h=>by cases h;exact L
 | f+1,d,d',L,h=>by
  rw[Cm]at h;split at h
  ·cases h;exact L
  ·cases hr:jI l d with
   | error e=>rw[hr]at h;cases h
   | ok d1 =>
    rw[hr]at h;exact LH l f d1 d' (KA l d d1 L (by omega) hr).1 h
theorem LJ(l:List UInt8)(ns:List Tn)(h:jf l=.ok ns):∃own now,Jt ns own now/\ag ns 0=0/\ns.length<=200001/\l.length<=100000:=by
 rw[GM]at h;split at h
 ·cases h
 ·cases ha:jW l (l.length+1) ⟨0,[⟨0,[],[],0,[],0⟩],[],0⟩ with
  | error e=>rw[ha]at h;cases h
  | ok d =>
   rw[ha]at h;have L:=LH l _ _ _ (GL l) ha
   cases h
   have h1:=L.nn;have h2:=L.le;exact⟨d.own,d.now,L.jt,L.rt,by omega,by omega⟩
theorem ack{l:List UInt8}{ns:List Tn}(h:jf l=.ok ns)(i:Nat)(hi:i<ns.length):ns[i].ks.length<=1000000:=by
 obtain⟨own,now,J,-,hn,-⟩:=LJ l ns h;have:=J.wf.len i;unfold ax at this;rw[List.getElem?_eq_getElem hi]at this;simp only[]at this;omega
theorem Gl.up{w:World}{B B':Nat}{E:Int->TypeId × Value}(h:Gl w B E)(hB:B<=B'):Gl w B' E :=
 ⟨h.es,⟨Nat.lt_of_lt_of_le h.lo.te hB,Nat.lt_of_lt_of_le h.lo.ra hB,Nat.lt_of_lt_of_le h.lo.ma hB,Nat.lt_of_lt_of_le h.lo.tw hB⟩,h.tabs,Nat.lt_of_lt_of_le h.t3 hB,Nat.lt_of_lt_of_le h.t4 hB⟩
open Go.RowKit Go.Joins
theorem acl(l:List UInt8)(i:Nat)(n:Int)(j:Nat)(hi:i<l.length)(h:jR l i=.ok (n,j)):-1000000000000000000<n/\n<1000000000000000000:=by
 unfold jR at h;simp only[]at h;have ha:(if ay (nx l i)=true then i else i+1)<=l.length:=by split<;>omega
 generalize (if ay (nx l i)=true then i else i+1)=a at h ha;have hj:=rV ay l a ha;split at h
 ·cases h
 ·split at h
  ·cases h
  ·have hb:=(ab6 l a (toR ay l a) (fun c hc=>by
    have:=JL ay l a c hc;unfold ay at this;have:=of_decide_eq_true this;omega) hj.1 hj.2 (by omega)).2
   cases h
   split<;>omega
theorem acm(l:List UInt8)(i:Nat)(n:Int)(j:Nat)(h:mg l i=.ok (n,j)):n=0\/n=1:=by
 rw[Jj]at h;split at h
 ·cases h;decide
 ·split at h
  ·cases h;decide
  ·cases h
theorem Ut:∀(s:List UInt8),(∀c∈s,c.toNat<128)->Us s
 | [],_=>Us.nil
 | c :: s,h=>(Hq c (h c (by simp))).app (Ut s fun b hb=>h b (by simp[hb]))
theorem Uu(l:List UInt8)(i:Nat)(k:List UInt8)(j:Nat)(h:eG l i=.ok (k,j)):Us k:=by
 unfold eG at h;split at h
 ·exact Hr l _ _ [] k j Us.nil h
 ·split at h
  ·cases h
  ·injection h with h
   injection h with h1 h2
   rw[<-h1];refine Ut _ fun c hc=>?_
   have:=JL aV l i c hc;unfold aV dh ay at this;simp at this;omega
theorem acn(l:List UInt8):∀f:Nat,(∀i up k p d ns j ns',i<=l.length->up<ns.length->((ag ns up=0/\Us k)\/(ag ns up=1/\k=[]))->Ld ns up d->d<=8->(ag ns up=0->aG ns up k=none)->k.length<=l.length->val l f i up k p d ns=.ok (j,ns')->j<=l.length/\GrT l.length ns ns' k.length)/\(∀i up d ns j ns',i<=l.length->up<ns.length->ag ns up=1->Ld ns up d->d<=8->lst l f i up d ns=.ok (j,ns')->j<=l.length/\GrT l.length ns ns' 0):=by
 intro f
 induction f with
 | zero =>
  refine⟨fun i up k p d ns j ns' _ _ _ _ _ _ _ h=>?_,fun i up d ns j ns' _ _ _ _ _ h=>?_⟩
  ·rw[val]at h;cases h
  ·rw[lst]at h;cases h
 | succ f ih =>
  refine⟨fun i up k p d ns j ns' hi hu h2 hld hd hf hk h=>?_,fun i up d ns j ns' hi hu h1 hld hd h=>?_⟩
  ·have one:∀x:Tn,x.ks=[]->x.ky=k->x.tx.length<=l.length->-1000000000000000000<=x.nu/\x.nu<=1000000000000000000->(x.kd=1\/x.kd=3\/x.kd=4\/x.kd=5)->(if x.kd=3 then Us x.tx else x.tx=[])->(if x.kd=4 then -1000000000000000000<x.nu/\x.nu<1000000000000000000 else if x.kd=5 then x.nu=0\/x.nu=1 else x.nu=0)->(x.kd=1->d<8)->GrT l.length ns (addN ns up x) k.length:=fun x a b c e f g g2 g3=>by
    have:=GrT.one (n:=l.length) (x:=x) hu ⟨a,by rw[b];exact hk,c,e,fun e=>by rw[b];exact hf e,fun e=>(by rcases h2 with h2|h2<;>rw[e]at h2<;>exact absurd h2.1 (by decide)),⟨by
     rw[b]
     rcases h2 with⟨h2,h3⟩|⟨h2,h3⟩
     ·exact Or.inl ⟨h2,h3,by omega,by omega⟩
     ·exact Or.inr (Or.inl ⟨h2,h3,f⟩),g,g2⟩,fun e=>⟨d,g3 e,hld⟩⟩
    rwa [b]at this
   rw[x9]at h;split at h
   ·rename_i hx;have hlt:=cZ (l:=l) (i:=i) (by rw[hx];decide)
    cases hs:str l (l.length+1) (i+1) [] with
    | error e=>rw[hs]at h;cases h
    | ok q =>
     obtain⟨t,j'⟩:=q;rw[hs]at h;obtain⟨a,b,c⟩:=F9 l _ (i+1) [] t j' (by omega) hs;simp only[List.length_nil]at c;have hus:=Hr l _ _ [] t j' Us.nil hs
     cases h
     exact⟨b,one ⟨3,k,t,0,[],p⟩ rfl rfl (by simp only[];omega) (by simp) (by simp) (by simpa using hus) (by simp) (by simp)⟩
   ·split at h
    ·rename_i hx;have hlt:i<l.length:=by
      apply cZ
      rcases hx with hx|hx|hx
      ·rw[hx];decide
      ·rw[hx];decide
      ·have:=of_decide_eq_true hx;omega
     cases hs:jR l i with
     | error e=>rw[hs]at h;cases h
     | ok q =>
      obtain⟨t,j'⟩:=q;rw[hs]at h;obtain⟨a,b⟩:=Q5 l i t j' hlt hs;have c:=acl l i t j' hlt hs
      cases h
      exact⟨b,one ⟨4,k,[],t,[],p⟩ rfl rfl (by simp) (by simp only[];omega) (by simp) (by simp) (by simpa using c) (by simp)⟩
    ·split at h
     ·cases hs:mg l i with
      | error e=>rw[hs]at h;cases h
      | ok q =>
       obtain⟨t,j'⟩:=q;rw[hs]at h;obtain⟨a,b⟩:=Q7 l i t j' hi hs;have c:=acm l i t j' hs
       cases h
       exact⟨b,one ⟨5,k,[],t,[],p⟩ rfl rfl (by simp) (by simp only[];omega) (by simp) (by simp) (by simpa using c) (by simp)⟩
     ·split at h
      ·rename_i hx;have hlt:=cZ (l:=l) (i:=i) (by rw[hx];decide);split at h
       ·cases h
       ·rename_i hd8;have A:=one ⟨1,k,[],0,[],p⟩ rfl rfl (by simp) (by simp) (by simp) (by simp) (by simp) (fun _=>by omega);have k1:ag (addN ns up ⟨1,k,[],0,[],p⟩) ns.length=1:=by rw[eH ns up _ hu,if_pos rfl]
        obtain⟨a1,a2⟩:=ih.2 (i+1) ns.length (d+1) _ j ns' (by omega) (by rw[bV];omega) k1 (Ld.kid up ns.length d k1 (by rw[jX ns up _ hu,if_neg (by omega),if_pos rfl];simp) (hld.addN hu)) (by omega) h;exact⟨a1,A.trans a2⟩
      ·cases h
  ·rw[zG]at h
   cases hg:gap l (l.length+1) i with
   | error e=>rw[hg]at h;cases h
   | ok j0 =>
    rw[hg]at h;simp only[]at h;obtain⟨g1,g2⟩:=BD l _ i j0 hi hg;split at h
    ·rename_i hx;have hlt:=cZ (l:=l) (i:=j0) (by rw[hx];decide)
     cases h
     exact⟨by omega,GrT.refl _⟩
    ·cases hv:val l f j0 up [] j0 d ns with
     | error e=>rw[hv]at h;cases h
     | ok q =>
      obtain⟨j1,ns1⟩:=q;rw[hv]at h;simp only[]at h;obtain⟨v1,v2⟩:=ih.1 j0 up [] j0 d ns j1 ns1 g2 hu (Or.inr ⟨h1,rfl⟩) hld hd (fun e=>by rw[h1]at e;exact absurd e (by decide)) (by simp) hv
      cases hg2:gap l (l.length+1) j1 with
      | error e=>rw[hg2]at h;cases h
      | ok j2 =>
       rw[hg2]at h;simp only[]at h;obtain⟨g3,g4⟩:=BD l _ j1 j2 v1 hg2;split at h
       ·rename_i hx;have hlt:=cZ (l:=l) (i:=j2) (by rw[hx];decide);have hlen:=v2.len;obtain⟨a1,a2⟩:=ih.2 (j2+1) up d ns1 j ns' (by omega) (by omega) (by rw[v2.kd hu];exact h1) (v2.ld hld) hd h;exact⟨a1,v2.trans a2⟩
       ·split at h
        ·rename_i hx;have hlt:=cZ (l:=l) (i:=j2) (by rw[hx];decide)
         cases h
         exact⟨by omega,v2⟩
        ·cases h
theorem aco{n:Nat}{ns ns':List Tn}{own:List Nat}{t t' p:Nat}{k:List UInt8}(J:Jt ns own t)(hk:k.length<=n)(hus:Us k)(h:iK ns t k p=.ok (t',ns')):∃m,GrT n ns ns' m/\m<=k.length:=by
 unfold iK at h
 cases hq:aG ns t k with
 | none =>
  rw[hq]at h
  cases h
  exact⟨_,GrT.one (x:=⟨0,k,[],0,[],p⟩) J.lt ⟨rfl,hk,by simp,by simp,fun _=>hq,fun _=>rfl,Du (Or.inl ⟨J.kd,hus,Or.inl rfl⟩),fun e=>absurd (show(0:Int)=1 from e) (by decide)⟩,Nat.le_refl _⟩
 | some q =>
  rw[hq]at h;simp only[]at h;refine⟨0,?_,Nat.zero_le _⟩;split at h
  ·cases h;exact GrT.refl _
  ·split at h
   ·split at h
    ·cases h;exact GrT.refl _
    ·cases h
   ·cases h
theorem acp{n:Nat}{ns ns':List Tn}{own:List Nat}{t t' p:Nat}{k:List UInt8}(J:Jt ns own t)(hk:k.length<=n)(hus:Us k)(h:jA ns own t k p=.ok (t',ns')):∃m,GrT n ns ns' m/\m<=k.length:=by
 unfold jA at h
 cases hq:aG ns t k with
 | none =>
  rw[hq]at h
  cases h
  exact⟨_,GrT.one (x:=⟨0,k,[],0,[],p⟩) J.lt ⟨rfl,hk,by simp,by simp,fun _=>hq,fun _=>rfl,Du (Or.inl ⟨J.kd,hus,Or.inl rfl⟩),fun e=>absurd (show(0:Int)=1 from e) (by decide)⟩,Nat.le_refl _⟩
 | some q =>
  rw[hq]at h;simp only[]at h;refine⟨0,?_,Nat.zero_le _⟩;split at h
  ·cases h;exact GrT.refl _
  ·cases h
theorem acr{n:Nat}{ns ns':List Tn}{own:List Nat}{t t' p:Nat}{k:List UInt8}(J:Jt ns own t)(hk:k.length<=n)(hus:Us k)(h:iL ns t k p=.ok (t',ns')):∃m,GrT n ns ns' m/\m<=k.length:=by
 unfold iL at h
 cases hq:aG ns t k with
 | none =>
  rw[hq]at h
  cases h
  have A:GrT n ns (addN ns t ⟨2,k,[],0,[],p⟩) k.length:=GrT.one (x:=⟨2,k,[],0,[],p⟩) J.lt ⟨rfl,hk,by simp,by simp,fun _=>hq,fun e=>by rw[J.kd]at e;exact absurd e (by decide),Du (Or.inl ⟨J.kd,hus,Or.inr rfl⟩),fun e=>absurd (show(2:Int)=1 from e) (by decide)⟩;have e2:ag (addN ns t ⟨2,k,[],0,[],p⟩) ns.length=2:=by rw[eH ns t _ J.lt,if_pos rfl]
  have B:GrT n (addN ns t ⟨2,k,[],0,[],p⟩) (addN (addN ns t ⟨2,k,[],0,[],p⟩) ns.length ⟨0,[],[],0,[],p⟩) 0:=GrT.one (x:=⟨0,[],[],0,[],p⟩) (by rw[bV];omega) ⟨rfl,by simp,by simp,by simp,fun e=>by rw[e2]at e;exact absurd e (by decide),fun _=>rfl,Du (Or.inr ⟨e2,rfl,rfl⟩),fun e=>absurd (show(0:Int)=1 from e) (by decide)⟩;exact⟨_,A.trans B,Nat.le_refl _⟩
 | some q =>
  rw[hq]at h;simp only[]at h;refine⟨0,?_,Nat.zero_le _⟩;split at h
  ·rename_i h2
   cases h
   exact GrT.one (x:=⟨0,[],[],0,[],p⟩) (qM h2 (by omega)) ⟨rfl,by simp,by simp,by simp,fun e=>by rw[h2]at e;exact absurd e (by decide),fun _=>rfl,Du (Or.inr ⟨h2,rfl,rfl⟩),fun e=>absurd (show(0:Int)=1 from e) (by decide)⟩
  ·cases h
def pW(l:List (List UInt8 × Nat)):Nat:=(l.map fun x=>x.1.length).sum
theorem Uw{n:Nat}(many:Bool)(own:List Nat):∀(l:List (List UInt8 × Nat)) (t:Nat) (ns ns':List Tn) (t':Nat),(∀x∈l,x.1.length<=n/\Us x.1)->Jt ns own t->way many own l t ns=.ok (t',ns')->∃m,GrT n ns ns' m/\m<=pW l
 | [],t,ns,ns',t',hl,J,h=>by
  cases h
  exact⟨0,GrT.refl _,Nat.zero_le _⟩
 | [(k,p)],t,ns,ns',t',hl,J,h=>by
  rw[F7]at h;obtain⟨hk,hus⟩:=hl (k,p) (by simp);have e:pW [(k,p)]=k.length:=by simp[pW]
  rw[e];split at h
  ·exact acr J hk hus h
  ·exact acp J hk hus h
 | (k,p) :: b :: r,t,ns,ns',t',hl,J,h=>by
  rw[Bz]at h
  cases hs:iK ns t k p with
  | error e=>rw[hs]at h;cases h
  | ok z =>
   obtain⟨t1,ns1⟩:=z;rw[hs]at h;obtain⟨m1,a1,a2⟩:=aco (k:=k) J (hl (k,p) (by simp)).1 (hl (k,p) (by simp)).2 hs;have a3:m1<=k.length:=a2;obtain⟨m2,b1,b2⟩:=Uw many own (b :: r) t1 ns1 ns' t' (fun x hx=>hl x (by simp only[List.mem_cons]at hx ⊢;exact Or.inr hx)) (F6 J hs).1 h;refine⟨m1+m2,a1.trans b1,?_⟩;have e:pW ((k,p) :: b :: r)=k.length+pW (b :: r):=by simp[pW]
   omega
theorem Ux(l:List UInt8)(i:Nat)(k:List UInt8)(j:Nat)(hi:i<=l.length)(h:eG l i=.ok (k,j)):k.length+i<=j:=by
 unfold eG at h;split at h
 ·rename_i hx;have hlt:=cZ (l:=l) (i:=i) (by rw[hx];decide);obtain⟨a,b,c⟩:=F9 l _ (i+1) [] k j (by omega) h;simp at c;omega
 ·split at h
  ·cases h
  ·have:=rV aV l i hi
   cases h
   unfold ah;simp;omega
theorem acs(l:List UInt8):∀(f i:Nat) (acc ks:List (List UInt8 × Nat)) (j:Nat),i<=l.length->iD l f i acc=.ok (ks,j)->pW ks+i<=pW acc+j:=by
 intro f
 induction f with
 | zero=>intro i acc ks j hi h;cases h
 | succ f ih =>
  intro i acc ks j hi h;rw[zI]at h;have b1:=lh l i hi
  cases hk:eG l (bl l i) with
  | error e=>rw[hk]at h;cases h
  | ok q =>
   obtain⟨k,j1⟩:=q;rw[hk]at h;simp only[]at h;obtain⟨k1,k2,k3⟩:=zD l (bl l i) k j1 b1.2 hk;have k4:=Ux l (bl l i) k j1 b1.2 hk;have b2:=lh l j1 k2;have e:pW (acc++[(k,bl l i)])=pW acc+k.length:=by simp[pW]
   split at h
   ·rename_i hx;have hlt:=cZ (l:=l) (i:=bl l j1) (by rw[hx];decide);have:=ih (bl l j1+1) (acc++[(k,bl l i)]) ks j (by omega) h;omega
   ·cases h
    omega
theorem acu(l:List UInt8):∀(f i:Nat) (acc ks:List (List UInt8 × Nat)) (j:Nat),(∀x∈acc,Us x.1)->iD l f i acc=.ok (ks,j)->∀x∈ks,Us x.1:=by
 intro f
 induction f with
 | zero=>intro i acc ks j ha h;cases h
 | succ f ih =>
  intro i acc ks j ha h;rw[zI]at h
  cases hk:eG l (bl l i) with
  | error e=>rw[hk]at h;cases h
  | ok q =>
   obtain⟨k,j1⟩:=q;rw[hk]at h;simp only[]at h;have ha':∀x∈acc++[(k,bl l i)],Us x.1:=fun x hx=>by
    rcases List.mem_append.1 hx with hx|hx
    ·exact ha x hx
    ·rw[List.mem_singleton.1 hx];exact Uu l _ k j1 hk
   split at h
   ·exact ih _ _ ks j ha' h
   ·cases h
    exact ha'
def Gi(l:List UInt8)(d d':Sd):Prop:=∃m,GrT l.length d.ns d'.ns m/\m+d.i<=d'.i
theorem acv(l:List UInt8)(d d':Sd)(L:Li l d)(h:rdPair l d=.ok d'):Gi l d d':=by
 obtain⟨i,ns,own,now⟩:=d;have L1:=L.jt;have L3:=L.le;simp only[]at L1 L3;rw[Gw]at h
 cases hk:eG l i with
 | error e=>rw[hk]at h;cases h
 | ok q =>
  obtain⟨k,j⟩:=q;rw[hk]at h;simp only[]at h;obtain⟨k1,k2,k3⟩:=zD l i k j L3 hk;have k4:=Ux l i k j L3 hk;have b1:=lh l j k2
  cases hm:must l (bl l j) 61 with
  | error e=>rw[hm]at h;cases h
  | ok j1 =>
   rw[hm]at h;simp only[]at h;obtain⟨m1,m2⟩:=vV l _ _ 61 (by decide) hm;have b2:=lh l j1 (by omega)
   cases hq:aG ns now k with
   | some q=>rw[hq]at h;cases h
   | none =>
    rw[hq]at h;simp only[]at h
    cases hv:val l (2*l.length+2) (bl l j1) now k i 0 ns with
    | error e=>rw[hv]at h;cases h
    | ok z =>
     obtain⟨j2,ns'⟩:=z;rw[hv]at h;have A:=(JJ l own _).1 (bl l j1) now k i 0 ns j2 ns' b2.2 L1.wf L1.wt L1.lt (by rw[L1.kd];decide) hv;have a3:=A.fw;obtain⟨v1,v2⟩:=(acn l _).1 (bl l j1) now k i 0 ns j2 ns' b2.2 L1.lt (Or.inl ⟨L1.kd,Uu l i k j hk⟩) (Ld.top now L1.kd) (by omega) (fun _=>hq) k3 hv
     cases h
     exact⟨_,v2,by simp only[];omega⟩
theorem acw(l:List UInt8)(d d':Sd)(L:Li l d)(hi:d.i<l.length)(h:jS l d=.ok d'):Gi l d d':=by
 obtain⟨i,ns,own,now⟩:=d;have L1:=L.jt;have L2:=L.rt;simp only[]at L1 L2 hi;obtain⟨many,kS⟩:=zN (decide (nx l (i+1)=91));rw[GI l i ns own now many kS]at h;have ha:i+1<=(if many=true then i+2 else i+1)/\(if many=true then i+2 else i+1)<=l.length:=by
  cases many with
  | false=>simp;omega
  | true =>
   have hx:=of_decide_eq_true kS;have:=cZ (l:=l) (i:=i+1) (by rw[hx];decide);simp;omega
 generalize (if many=true then i+2 else i+1)=a at h ha
 cases hk:iD l (l.length+1) a [] with
 | error e=>rw[hk]at h;cases h
 | ok q =>
  obtain⟨ks,j⟩:=q;rw[hk]at h;simp only[]at h;obtain⟨k1,k2,k3,k4⟩:=Ku l _ a [] ks j ha.2 (by simp) hk;have k5:=acs l _ a [] ks j ha.2 hk;have e0:pW []=0:=rfl
  cases hm:must l j 93 with
  | error e=>rw[hm]at h;cases h
  | ok j1 =>
   rw[hm]at h;simp only[]at h;obtain⟨m1,m2⟩:=vV l _ _ 93 (by decide) hm;have hj2:∀j2,(if many=true then must l j1 93 else(.ok j1:Rs Nat))=.ok j2->j1<=j2:=fun j2 hh=>by
    split at hh
    ·obtain⟨n1,n2⟩:=vV l _ _ 93 (by decide) hh;omega
    ·cases hh
     omega
   cases hc:(if many=true then must l j1 93 else(.ok j1:Rs Nat)) with
   | error e=>rw[hc]at h;cases h
   | ok j2 =>
    rw[hc]at h;simp only[]at h;have c1:=hj2 j2 hc
    cases hw:way many own ks 0 ns with
    | error e=>rw[hw]at h;cases h
    | ok z =>
     obtain⟨t,ns'⟩:=z;rw[hw]at h;obtain⟨m,g1,g2⟩:=Uw many own ks 0 ns ns' t (fun x hx=>⟨k1 x hx,acu l _ a [] ks j (by simp) hk x hx⟩) ⟨L1.wf,L1.wt,by have:=L1.lt;omega,L2⟩ hw
     cases h
     exact⟨m,g1,by simp only[];omega⟩
theorem acx(l:List UInt8)(d d':Sd)(L:Li l d)(hi:d.i<l.length)(h:jI l d=.ok d'):Gi l d d':=by
 obtain⟨i,ns,own,now⟩:=d;simp only[]at hi;rw[zQ]at h;have b1:=lh l i (by omega);have L':Li l ⟨bl l i,ns,own,now⟩:=GK L (bl l i) b1.1 b1.2
 cases hm:(if nx l (bl l i)=91 then jS l ⟨bl l i,ns,own,now⟩ else if nx l (bl l i)=34\/aV (nx l (bl l i))=true then rdPair l ⟨bl l i,ns,own,now⟩ else .ok ⟨bl l i,ns,own,now⟩) with
 | error e=>rw[hm]at h;cases h
 | ok d1 =>
  rw[hm]at h;have mid:Gi l ⟨bl l i,ns,own,now⟩ d1/\d1.i<=l.length:=by
   split at hm
   ·rename_i hx;have hlt:=cZ (l:=l) (i:=bl l i) (by rw[hx];decide);exact⟨acw l _ d1 L' hlt hm,(Kz l _ d1 L' hlt hm).1.le⟩
   ·split at hm
    ·exact⟨acv l _ d1 L' hm,(Ky l _ d1 L' hm).1.le⟩
    ·cases hm
     exact⟨⟨0,GrT.refl _,by omega⟩,b1.2⟩
  obtain⟨⟨m,g1,g2⟩,hle⟩:=mid;simp only[]at g1 g2;have h2:jg l d1 (bi l (bl l d1.i))=.ok d':=h;have b2:=lh l d1.i hle;have c2:=AX l (bl l d1.i) b2.2;unfold jg at h2;split at h2
  ·cases h2
  ·split at h2
   ·cases h2
    exact⟨m,g1,by simp only[];omega⟩
   ·cases hq:must l (bi l (bl l d1.i)).2 10 with
    | error e=>rw[hq]at h2;cases h2
    | ok q =>
     rw[hq]at h2;obtain⟨m1,m2⟩:=vV l _ _ 10 (by decide) hq
     cases h2
     exact⟨m,g1,by simp only[];omega⟩
theorem Uy(l:List UInt8):∀(f:Nat) (d d':Sd),Li l d->jW l f d=.ok d'->Gi l d d'
 | 0,d,d',L,h=>by cases h;exact⟨0,GrT.refl _,by omega⟩
 | f+1,d,d',L,h=>by
  rw[Cm]at h;split at h
  ·cases h;exact⟨0,GrT.refl _,by omega⟩
  ·cases hr:jI l d with
   | error e=>rw[hr]at h;cases h
   | ok d1 =>
    rw[hr]at h;obtain⟨m1,a1,a2⟩:=acx l d d1 L (by omega) hr;obtain⟨m2,b1,b2⟩:=Uy l f d1 d' (KA l d d1 L (by omega) hr).1 h;exact⟨m1+m2,a1.trans b1,by omega⟩
theorem LK(l:List UInt8)(ns:List Tn)(h:jf l=.ok ns):Tv 100000 ns 100000/\∃own,WF ns own/\ns.length<=200001:=by
 obtain⟨own,now,J,-,hn,hl⟩:=LJ l ns h;refine⟨?_,own,J.wf,hn⟩;rw[GM]at h;split at h
 ·cases h
 ·cases ha:jW l (l.length+1) ⟨0,[⟨0,[],[],0,[],0⟩],[],0⟩ with
  | error e=>rw[ha]at h;cases h
  | ok d =>
   rw[ha]at h
   cases h
   obtain⟨m,g1,g2⟩:=Uy l _ _ _ (GL l) ha;have hle:=(LH l _ _ _ (GL l) ha).le;have T:=g1.tv (acj l.length);exact⟨T.lt,T.gt,T.nod,T.kdd,T.two,T.root,fun x hx=>by
    obtain⟨a,b,c⟩:=T.txt x hx;exact⟨by omega,by omega,c⟩,by have:=T.sum;simp only[]at g2;omega,T.shp,T.dep,T.par,T.rt⟩
theorem acy(l:List UInt8)(ns:List Tn)(h:jf l=.ok ns):∃own,Ef ns own/\ns.length<=200001:=by
 obtain⟨T,own,W,hn⟩:=LK l ns h;exact⟨own,⟨W,T.gt,T.nod,T.kdd,T.two,T.root,fun i hi=>by have:=(T.txt ns[i] (List.getElem_mem hi)).1;omega⟩,hn⟩
open Go.RowKit Go.Joins
theorem LM{l:List UInt8}{i:Nat}{k:List UInt8}{c:UInt8}{r:List UInt8}(hk:Us k)(hc:aV (c.toNat:Int)=false)(h:l.drop i=kt k++c :: r):eG l i=.ok (k,i+(kt k).length):=by
 have hq:kt k=qt k->eG l i=.ok (k,i+(kt k).length):=fun e=>by
  rw[e]at h ⊢;have h0:nx l i=34:=fV (c:=34) h;have h1:l.drop (i+1)=k.flatMap qc++34 :: (c :: r):=by
   have:=cO (a:=[34]) (r:=k.flatMap qc++34 :: (c :: r)) (l:=l) (i:=i) (by rw[h];simp[qt]);exact this
  have hl:=congrArg List.length h1;rw[List.length_drop,List.length_append]at hl;unfold eG;rw[if_pos h0,Ur l k hk _ (i+1) [] (c :: r) h1 (by omega)];unfold qt;simp only[List.nil_append,List.cons_append,List.length_cons,List.length_append,List.length_nil];congr 2;omega
 unfold kt at hq ⊢
 by_cases h0:k=[]
 ·rw[if_pos h0]at hq ⊢;exact hq rfl
 ·rw[if_neg h0]at hq ⊢
  by_cases h1:k.all (fun c=>aV (c.toNat:Int))=true
  ·rw[if_pos h1];have e:kt k=k:=by unfold kt;rw[if_neg h0,if_pos h1]
   rw[e]at h;have ha:∀c∈k,aV (c.toNat:Int)=true:=fun c hc=>List.all_eq_true.1 h1 c hc
   have ht:=LC (p:=aV) h ha (by exact hc);have hl:0<k.length:=List.length_pos_iff.2 h0;have hn:¬nx l i=34:=by
    match k,ha,h with
    | a :: k',ha,h =>
     have e1:nx l i=(a.toNat:Int):=fV (c:=a) h;rw[e1];intro e2;have:=ha a (by simp);rw[e2]at this;exact absurd this (by decide)
   unfold eG;rw[if_neg hn,ht,if_neg (by omega),show i+k.length-i=k.length by omega,Hm h]
  ·rw[if_neg h1]at hq ⊢;exact hq rfl
theorem LP:∀u:Nat,∀c∈Lib.decDigits u,ay (c.toNat:Int)=true:=by
 intro u
 induction u using Nat.strongRecOn with
 | ind u ih =>
  intro c hc;rw[Lib.decDigits]at hc;have key:∀m,m<10->ay (((UInt8.ofNat (48+m)).toNat:Nat):Int)=true:=fun m hm=>by
   rw[UInt8.toNat_ofNat_of_lt' (by show 48+m<256;omega)];unfold ay;apply decide_eq_true;omega
  split at hc
  ·rw[List.mem_singleton.1 hc];exact key u (by assumption)
  ·rcases List.mem_append.1 hc with hc|hc
   ·exact ih (u / 10) (by omega) c hc
   ·rw[List.mem_singleton.1 hc];exact key (u % 10) (by omega)
theorem Uz:∀(a b:List UInt8) (n:Nat),gu (a++b) n=gu b (gu a n)
 | [],b,n=>rfl
 | c :: a,b,n=>Uz a b _
theorem acz:∀u:Nat,gu (Lib.decDigits u) 0=u:=by
 intro u
 induction u using Nat.strongRecOn with
 | ind u ih =>
  rw[Lib.decDigits];have key:∀m n,m<10->gu [UInt8.ofNat (48+m)] n=10*n+m:=fun m n hm=>by
   show 10*n+((UInt8.ofNat (48+m)).toNat - 48)=_;rw[UInt8.toNat_ofNat_of_lt' (by show 48+m<256;omega)];omega
  split
  ·rw[key u 0 (by assumption)];omega
  ·rw[Uz,ih (u / 10) (by omega),key _ _ (by omega)];omega
theorem UA:∀(k u:Nat),u<10 ^ (k+1)->(Lib.decDigits u).length<=k+1
 | 0,u,h=>by
  rw[Lib.decDigits,dif_pos (by simpa using h)];simp
 | k+1,u,h=>by
  rw[Lib.decDigits];split
  ·simp
  ·have:=UA k (u / 10) (by rw[Nat.pow_succ]at h;omega);simp only[List.length_append,List.length_cons,List.length_nil];omega
theorem UB(u:Nat):1<=(Lib.decDigits u).length:=by
 rw[Lib.decDigits];split<;>simp
theorem acA:∀u:Nat,0<u->∀c r,Lib.decDigits u=c :: r->c.toNat≠48:=by
 intro u
 induction u using Nat.strongRecOn with
 | ind u ih =>
  intro h0 c r h;rw[Lib.decDigits]at h;split at h
  ·injection h with h1 h2
   rw[<-h1,UInt8.toNat_ofNat_of_lt' (by show 48+u<256;omega)];omega
  ·cases hd:Lib.decDigits (u / 10) with
   | nil=>have:=UB (u / 10);rw[hd]at this;simp at this
   | cons a b =>
    rw[hd]at h;injection h with h1 h2
    rw[<-h1];exact ih (u / 10) (by omega) (by omega) a b hd
theorem acB(u:Nat)(h:1<(Lib.decDigits u).length):0<u:=by
 apply Nat.pos_of_ne_zero;rintro rfl;rw[Lib.decDigits]at h;simp at h
theorem UC{l:List UInt8}{a u:Nat}{c:UInt8}{r:List UInt8}(hc:ay (c.toNat:Int)=false)(hu:u<1000000000000000000)(h:l.drop a=Lib.decDigits u++c :: r):toR ay l a=a+(Lib.decDigits u).length/\¬(toR ay l a=a\/(1<toR ay l a-a/\nx l a=48))/\¬18<toR ay l a-a/\gu (ah l a (toR ay l a-a)) 0=u/\ay (nx l a)=true:=by
 have ht:=LC (p:=ay) h (LP u) (by exact hc);have hp:=UB u;have h18:=UA 17 u (by omega);rw[ht,show a+(Lib.decDigits u).length-a=(Lib.decDigits u).length by omega,Hm h]
 cases hd:Lib.decDigits u with
 | nil=>rw[hd]at hp;simp at hp
 | cons x y =>
  have hx:nx l a=(x.toNat:Int):=by rw[hd]at h;exact fV (c:=x) h
  refine⟨rfl,?_,?_,?_,?_⟩
  ·rintro(h1|⟨h1,h2⟩)
   ·rw[<-hd]at h1;omega
   ·rw[<-hd]at h1;rw[hx]at h2;exact acA u (acB u h1) x y hd (by omega)
  ·rw[<-hd];omega
  ·rw[<-hd];exact acz u
  ·rw[hx];exact LP u x (by rw[hd];simp)
theorem acC{l:List UInt8}{i:Nat}{n:Int}{c:UInt8}{r:List UInt8}(hc:ay (c.toNat:Int)=false)(hn:-1000000000000000000<n/\n<1000000000000000000)(h:l.drop i=Lib.itoa n++c :: r):jR l i=.ok (n,i+(Lib.itoa n).length)/\(nx l i=45\/ay (nx l i)=true):=by
 unfold Lib.itoa at h ⊢;unfold jR;simp only[];split at h
 ·rename_i h0;have e0:nx l i=45:=fV (c:=45) h;have h1:l.drop (i+1)=Lib.decDigits n.natAbs++c :: r:=cO (a:=[45]) h;obtain⟨a1,a2,a3,a4,a5⟩:=UC (u:=n.natAbs) hc (by omega) h1;refine⟨?_,Or.inl e0⟩;rw[e0,if_neg (show ¬ay 45=true by decide),if_neg a2,if_neg a3,if_pos rfl,a4,a1,if_pos h0];simp only[List.length_cons];congr 2
  ·omega
  ·omega
 ·rename_i h0;obtain⟨a1,a2,a3,a4,a5⟩:=UC (u:=n.toNat) hc (by omega) h;refine⟨?_,Or.inr a5⟩;have e1:¬nx l i=45:=fun e=>by rw[e]at a5;exact absurd a5 (by decide)
  rw[if_pos a5,if_neg a2,if_neg a3,if_neg e1,a4,a1,if_neg h0];congr 2;omega
open Go.RowKit Go.Maps Go.WideMaps Go.Joins Go.Shelf
def dT(ns:List Tn):Nat->Nat->List UInt8->List UInt8->List UInt8
 | 0,_,_,out=>out
 | f+1,t,path,out=>(dm ns t path.length).reverse.foldl (fun o v=>dT ns f v.t (bu path path.length v.ky) (o++iR o (bu path path.length v.ky) v.dbl)) (out++dK ns t)
theorem acD{X P:List UInt8}(h:X.take P.length=P)(ky:List UInt8):bu X P.length ky=bu P P.length ky:=by
 unfold bu;rw[h,List.take_length]
theorem acE(P ky:List UInt8):(bu P P.length ky).take P.length=P:=by
 unfold bu;rw[List.take_length,List.append_assoc,List.take_left' rfl]
theorem acF(P ky:List UInt8):P.length<=(bu P P.length ky).length:=Uj P P.length ky (Nat.le_refl _)
theorem UD{ns:List Tn}{own:List Nat}(E:Ef ns own):∀(f t:Nat) (P out:List UInt8) (td:List Vt) (g:Nat) (R:List UInt8),t<ns.length->ag ns t=0->ns.length-t<=f->lH ns g (out++dK ns t) P (td++dm ns t P.length)=some R->∃g' X,X.take P.length=P/\lH ns g' (dT ns f t P out) X td=some R
 | 0,t,P,out,td,g,R,ht,_,hf,_=>by omega
 | f+1,t,P,out,td,g,R,ht,hk,hf,h=>by
  have key:∀(l:List Vt) (o X:List UInt8) (g:Nat),(∀v∈l,v.ab=P.length/\BK ns t v.t)->X.take P.length=P->lH ns g o X (td++l.reverse)=some R->∃g' X',X'.take P.length=P/\lH ns g' (l.foldl (fun o v=>dT ns f v.t (bu P P.length v.ky) (o++iR o (bu P P.length v.ky) v.dbl)) o) X' td=some R:=by
   intro l
   induction l with
   | nil =>
    intro o X g _ hX hg;refine⟨g,X,hX,?_⟩;simpa using hg
   | cons v r ih =>
    intro o X g hl hX hg
    match g,hg with
    | 0,hg=>cases hg
    | g+1,hg =>
     rw[List.reverse_cons,<-List.append_assoc,Dp]at hg;obtain⟨hab,hbk⟩:=hl v (by simp);obtain⟨hk0,hlt,htl⟩:=Dq E hbk;rw[hab,acD hX]at hg;obtain⟨g2,X2,hX2,hg2⟩:=UD E f v.t (bu P P.length v.ky) (o++iR o (bu P P.length v.ky) v.dbl) (td++r.reverse) g R hlt hk0 (by omega) hg;rw[List.foldl_cons];refine ih _ X2 g2 (fun u hu=>hl u (by simp[hu])) ?_ hg2;have:=congrArg (List.take P.length) hX2;rw[List.take_take,acE,Nat.min_eq_left (acF P v.ky)]at this;exact this
  refine key (dm ns t P.length).reverse _ P g (fun v hv=>?_) (List.take_length ..) (by rw[List.reverse_reverse];exact h);rw[List.mem_reverse]at hv;exact⟨(uF hv).1,Ae hv⟩
theorem acG{ns:List Tn}{own:List Nat}(E:Ef ns own):dT ns ns.length 0 [] []=oQ ns:=by
 obtain⟨g,X,-,h⟩:=UD E ns.length 0 [] [] [] ns.length (oQ ns) E.root.1 E.root.2 (by omega) (by simpa using Lu E)
 match g,h with
 | 0,h=>cases h
 | g+1,h =>
  rw[Hf]at h;injection h
def tb(ns:List Tn)(q:Nat):Bool:=decide (ag ns q=0\/ag ns q=2)
def rs(ns:List Tn)(t:Nat)(b:Bool):List Nat:=(dQ ns t).filter fun q=>tb ns q == b
theorem acH{ns:List Tn}{t q:Nat}{b:Bool}(h:q∈rs ns t b):q∈ax ns t/\tb ns q=b:=by
 unfold rs at h;rw[List.mem_filter]at h;exact⟨zV h.1,by simpa using h.2⟩
theorem LQ{α β:Type}(p:α->Bool)(f:α->List β)(h:∀x,p x=false->f x=[]):∀l:List α,(l.filter p).flatMap f=l.flatMap f
 | []=>rfl
 | a :: r=>by
  cases hp:p a with
  | true=>rw[List.filter_cons_of_pos hp,List.flatMap_cons,List.flatMap_cons,LQ p f h r]
  | false=>rw[List.filter_cons_of_neg (by simp[hp]),List.flatMap_cons,h a hp,List.nil_append,LQ p f h r]
theorem acI(ns:List Tn)(t pl:Nat):(dm ns t pl).reverse=(rs ns t true).flatMap fun q=>(vs1 ns pl q).reverse:=by
 unfold dm rs;rw[List.reverse_flatMap,List.reverse_reverse,LQ]
 ·rfl
 ·intro q hq;have:tb ns q=false:=by simpa using hq
  have h2:=of_decide_eq_false this;unfold vs1;rw[if_neg (fun h=>h2 (Or.inl h)),if_neg (fun h=>h2 (Or.inr h))];rfl
def LU(ns:List Tn)(q:Nat):List Nat:=if ag ns q=2 then ax ns q else[q]
def LV(ns:List Tn)(q:Nat):Bool:=decide (ag ns q=2)
def gT(ns:List Tn)(f:Nat)(K:List UInt8)(b:Bool)(o:List UInt8)(m:Nat):List UInt8:=dT ns f m K (o++iR o K b)
def gK(ns:List Tn)(f:Nat)(path:List UInt8)(o:List UInt8)(q:Nat):List UInt8:=(LU ns q).foldl (gT ns f (bu path path.length (aW ns q)) (LV ns q)) o
theorem LW(ns:List Tn)(f t:Nat)(path out:List UInt8):dT ns (f+1) t path out=(rs ns t true).foldl (gK ns f path) (out++dK ns t):=by
 show List.foldl _ _ _=_;rw[acI,List.foldl_flatMap];generalize out++dK ns t=o;have key:∀(L:List Nat),(∀q∈L,tb ns q=true)->∀o,L.foldl (fun b a=>List.foldl (fun o v=>dT ns f v.t (bu path path.length v.ky) (o++iR o (bu path path.length v.ky) v.dbl)) b (vs1 ns path.length a).reverse) o=L.foldl (gK ns f path) o:=by
  intro L
  induction L with
  | nil=>intro _ o;rfl
  | cons q L ih =>
   intro hL o;rw[List.foldl_cons,List.foldl_cons,<-ih (fun q hq=>hL q (by simp[hq]))];congr 1;have ht:ag ns q=0\/ag ns q=2:=of_decide_eq_true (hL q (by simp));unfold gK LU LV vs1
   by_cases h2:ag ns q=2
   ·rw[if_neg (by omega),if_pos h2,if_pos h2,decide_eq_true h2,<-List.map_reverse,List.reverse_reverse,List.foldl_map];rfl
   ·rw[if_pos (by omega),if_neg h2,decide_eq_false h2];rfl
 exact key _ (fun q hq=>(acH hq).2) o
end Go.Proofs.YtmkjelchiacogaaGreatDoor
