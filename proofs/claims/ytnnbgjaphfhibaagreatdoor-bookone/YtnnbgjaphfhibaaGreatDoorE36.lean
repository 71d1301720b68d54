import Derived.Test.YtnnbgjaphfhibaaGreatDoorE31
import Derived.Test.YtnnbgjaphfhibaaGreatDoorE33
set_option linter.all false
set_option maxRecDepth 100000
set_option maxHeartbeats 0
open Go.Proofs.Tryz
namespace Go.Proofs.YtnnbgjaphfhibaaGreatDoor
def np(x:Tn):Tn:=⟨x.kd,x.ky,x.tx,x.nu,x.ks,0⟩
def Sm(m n:List Tn):Prop:=m.map np=n.map np
theorem Sm.len{m n:List Tn}(h:Sm m n):m.length=n.length:=by
 have:=congrArg List.length h;simpa using this
theorem Qj(ns:List Tn)(t:Nat):ak (ns.map np) t=ak ns t:=by
 unfold ak;rw[List.getElem?_map]
 cases ns[t]?<;>rfl
theorem YL(ns:List Tn)(t:Nat):af (ns.map np) t=af ns t:=by
 unfold af;rw[List.getElem?_map]
 cases ns[t]?<;>rfl
theorem Qk(ns:List Tn)(t:Nat)(k:List UInt8):ah (ns.map np) t k=ah ns t k:=by
 unfold ah;simp only[List.getElem?_map]
 cases ns[t]? with
 | none=>rfl
 | some u =>
  show List.find? _ u.ks=List.find? _ u.ks;congr 1;funext q
  cases ns[q]?<;>rfl
theorem yz(ns:List Tn)(up:Nat)(x:Tn):(addN ns up x).map np=addN (ns.map np) up (np x):=by
 unfold addN;rw[List.getElem?_map]
 cases h:ns[up]? with
 | none=>simp
 | some u =>
  simp only[Option.map_some,List.map_append,List.map_cons,List.map_nil,List.map_set,List.length_map];rfl
theorem Sm.kd{m n:List Tn}(h:Sm m n)(t:Nat):ak m t=ak n t:=by rw[<-Qj m,<-Qj n,h]
theorem Sm.kid{m n:List Tn}(h:Sm m n)(t:Nat)(k:List UInt8):ah m t k=ah n t k:=by rw[<-Qk m,<-Qk n,h]
theorem Sm.add{m n:List Tn}(h:Sm m n)(up:Nat){x y:Tn}(hx:np x=np y):Sm (addN m up x) (addN n up y):=by
 unfold Sm;rw[yz,yz,h,hx]
theorem Sm.last{m n:List Tn}(h:Sm m n)(q:Nat):(m[q]?).map (·.ks)=(n[q]?).map (·.ks):=by
 have e:∀l:List Tn,(l[q]?).map (·.ks)=((l.map np)[q]?).map (·.ks):=fun l=>by
  rw[List.getElem?_map]
  cases l[q]?<;>rfl
 rw[e m,e n,h]
def HR(n:Nat)(x y:Rs (List (List UInt8 × Nat) × Nat)):Prop:=(∃c d,x=.error c/\y=.error d/\c.1=d.1)\/(∃j a b,x=.ok (a,n+j)/\y=.ok (b,j)/\a.map (·.1)=b.map (·.1))
structure SR(n:Nat)(x y:Sd):Prop where
 i:x.i=n+y.i
 ns:Sm x.ns y.ns
 own:x.own=y.own
 now:x.now=y.now
def LR(n:Nat)(x y:Rs Sd):Prop:=(∃c d,x=.error c/\y=.error d/\c.1=d.1)\/(∃a b,x=.ok a/\y=.ok b/\SR n a b)
open Go.RowKit Go.Joins
def Run(l:List UInt8)(d d':Sd):Prop:=∀f,l.length-d.i<f->∃f',l.length-d'.i<f'/\jA l f d=jA l f' d'
theorem Run.refl(l:List UInt8)(d:Sd):Run l d d:=fun f hf=>⟨f,hf,rfl⟩
theorem Run.trans{l:List UInt8}{a b c:Sd}(h:Run l a b)(h':Run l b c):Run l a c:=fun f hf=>by
 obtain⟨f1,h1,e1⟩:=h f hf;obtain⟨f2,h2,e2⟩:=h' f1 h1;exact⟨f2,h2,e1.trans e2⟩
theorem FI{l:List UInt8}{d d':Sd}(h:gW l d=.ok d')(h1:d.i<l.length)(h2:d.i<d'.i):Run l d d':=fun f hf=>by
 match f,hf with
 | f+1,hf =>
  refine⟨f,by omega,?_⟩;rw[BF,if_neg (by omega),h]
theorem Ql{l:List UInt8}{d:Sd}{r:List UInt8}(h:l.drop d.i=10 :: r):XF l (.ok d)=.ok ⟨d.i+1,d.ns,d.own,d.now⟩:=by
 have n:nx l d.i=10:=jV (c:=10) h;show qJ l d (aZ l (bl l d.i))=_;rw[AB h rfl,yE l _ (by rw[n];decide)];unfold qJ must;simp only[Bool.true_eq_false,if_false];rw[n,if_neg (by decide),if_pos rfl]
theorem ahz{l:List UInt8}{i:Nat}{r:List UInt8}(h:l.drop i=10 :: r)(a:List Tn)(own:List Nat)(now:Nat):gW l ⟨i,a,own,now⟩=.ok ⟨i+1,a,own,now⟩:=by
 rw[Bq,AB h rfl,jV h,if_neg (by decide),if_neg (by decide)];exact Ql (d:=⟨i,a,own,now⟩) h
theorem JL{l:List UInt8}{i:Nat}{c:UInt8}{r:List UInt8}(h:l.drop i=c :: r)(h1:eU (c.toNat:Int)=false)(h2:c.toNat≠35)(h3:c.toNat≠10):gap l (l.length+1) i=.ok i:=by
 show(if(aZ l (bl l i)).1=false then _ else _)=_;rw[AB h h1,yE l i (by rw[jV h];omega)];simp only[Bool.true_eq_false,if_false];rw[jV h,if_neg (by omega)]
theorem ahA{l:List UInt8}{i:Nat}{c:UInt8}{r:List UInt8}(h:l.drop i=32 :: c :: r)(h1:eU (c.toNat:Int)=false)(h2:c.toNat≠35)(h3:c.toNat≠10):gap l (l.length+1) i=.ok (i+1):=by
 have n:nx l (i+1)=(c.toNat:Int):=jV (gY (a:=[32]) h);show(if(aZ l (bl l i)).1=false then _ else _)=_;rw[Nb h h1,yE l _ (by rw[n];omega)];simp only[Bool.true_eq_false,if_false];rw[n,if_neg (by omega)]
def pb(c:UInt8):Bool:=decide (32<=c.toNat/\c.toNat<127/\c.toNat≠34/\c.toNat≠92)
theorem YM(l r:List UInt8):∀(s:List UInt8) (f i:Nat) (acc:List UInt8),s.all pb=true->l.drop i=s++34 :: r->s.length<f->str l f i acc=.ok (acc++s,i+s.length+1)
 | [],f+1,i,acc,_,h,_=>by
  have h0:nx l i=34:=jV (c:=34) h;rw[yN,if_pos h0];simp
 | c :: s,f+1,i,acc,hs,h,hf=>by
  simp only[List.all_cons,Bool.and_eq_true]at hs;have hc:=of_decide_eq_true hs.1;have h0:=jV h;have hq:aJ l i=1:=by
   unfold aJ;simp only[];rw[h0,if_neg (by omega),if_pos (by omega)]
  have h1:aj l i 1=[c]:=MZ (a:=[c]) h;have hb:ji (c.toNat:Int)=false:=by
   unfold ji yD;rw[decide_eq_false (by omega)];rfl
  rw[yN,hq,h1,h0,if_neg (by omega),if_neg (by omega),if_neg (by rw[hb];simp),if_neg (by decide),YM l r s f (i+1) _ hs.2 (gY (a:=[c]) h) (by simpa using hf)];simp only[List.append_assoc,List.length_cons,List.singleton_append];congr 2;omega
def bk(k:List UInt8):Bool:=!k.isEmpty && k.all fun c=>bg (c.toNat:Int)
theorem JM{k:List UInt8}(h:bk k=true):∃c r,k=c :: r/\bg (c.toNat:Int)=true/\eU (c.toNat:Int)=false/\¬(c.toNat:Int)=91/\¬(c.toNat:Int)=34:=by
 cases k with
 | nil=>cases h
 | cons c r =>
  unfold bk at h;simp only[List.isEmpty_cons,Bool.not_false,Bool.true_and,List.all_cons,Bool.and_eq_true]at h;refine⟨c,r,rfl,h.1,?_⟩;have:=h.1;unfold bg dH aA at this;simp at this;refine⟨decide_eq_false ?_,?_,?_⟩<;>omega
theorem YN{l:List UInt8}{i:Nat}{k:List UInt8}{c:UInt8}{r:List UInt8}(hk:bk k=true)(hc:bg (c.toNat:Int)=false)(h:l.drop i=k++c :: r):dm l i=.ok (k,i+k.length):=by
 obtain⟨a,q,e,-,-,-,ha⟩:=JM hk;have h0:nx l i=(a.toNat:Int):=by rw[e]at h;exact jV (c:=a) h
 have hl:0<k.length:=by rw[e];simp
 unfold bk at hk;rw[Bool.and_eq_true,List.all_eq_true]at hk;unfold dm;rw[h0,if_neg ha,Na (p:=bg) h hk.2 hc,if_neg (by omega),show i+k.length-i=k.length by omega,MZ h]
theorem Qm{l:List UInt8}{i j now:Nat}{k v r:List UInt8}{a b:List Tn}{own:List Nat}(hk:bk k=true)(h:l.drop i=k++([32,61,32]++v))(hb:eU (nx v 0)=false)(hn:ah a now k=none)(hv:val l (2*l.length+2) (i+k.length+3) now k i 0 a=.ok (j,b))(hj:l.drop j=10 :: r):gW l ⟨i,a,own,now⟩=.ok ⟨j+1,b,own,now⟩:=by
 obtain⟨c,kr,hc,n0,n1,n2,-⟩:=JM hk;have h':l.drop i=k++32 :: (61 :: 32 :: v):=h;have h0:nx l i=(c.toNat:Int):=by rw[hc]at h';exact jV (c:=c) h'
 have e0:bl l i=i:=kX eU l i (by rw[h0];exact n1);have hkey:=YN hk (c:=32) (by decide) h';have d1:=gY h';have d2:=gY (a:=[32]) d1;have d3:=gY (a:=[32,61]) d1;have e2:bl l (i+k.length+2)=i+k.length+2+1:=Nb d3 hb;have m1:must l (i+k.length+1) 61=.ok (i+k.length+1+1):=by
  unfold must;rw[show nx l (i+k.length+1)=61 from jV (c:=61) d2,if_pos rfl]
 have hp:rdPair l ⟨i,a,own,now⟩=.ok ⟨j,b,own,now⟩:=by
  rw[Jd,hkey];simp only[];rw[Nb d1 (r:=61 :: 32 :: v) rfl,m1];simp only[];rw[hn];simp only[];rw[show bl l (i+k.length+1+1)=i+k.length+3 from e2,hv];rfl
 rw[Bq,e0,if_neg (by rw[h0];exact n2),if_pos (by rw[h0];exact Or.inr n0),hp];exact Ql (d:=⟨j,b,own,now⟩) hj
theorem ahB{l:List UInt8}{i now t1:Nat}{a:List Tn}{own:List Nat}{r:List UInt8}{b:Nat->List Tn}(he:∀p,fO a 0 dN p=.ok (t1,b p))(h:l.drop i=[91,91]++dN++[93,93,10]++r):∃p,gW l ⟨i,a,own,now⟩=.ok ⟨i+12,b p,t1 :: own,t1⟩:=by
 have h':l.drop i=91 :: 91 :: (dN++93 :: 93 :: 10 :: r):=by rw[h];simp
 have h0:nx l i=91:=jV (c:=91) h';have d1:l.drop (i+1)=91 :: (dN++93 :: 93 :: 10 :: r):=gY (a:=[91]) h';have d2:l.drop (i+2)=dN++93 :: (93 :: 10 :: r):=gY (a:=[91,91]) h';have hk:dm l (i+2)=.ok (dN,i+9):=YN (k:=dN) (c:=93) (by decide) (by decide) d2;have d3:l.drop (i+9)=93 :: 93 :: 10 :: r:=gY d2;have d4:l.drop (i+10)=93 :: 10 :: r:=gY (a:=[93]) d3;have d5:l.drop (i+11)=10 :: r:=gY (a:=[93,93]) d3;have hd:ik l (l.length+1) (i+2) []=.ok ([(dN,i+2)],i+9):=by
  rw[AX,AB d2 rfl,hk];simp only[];rw[AB d3 rfl,jV d3,if_neg (by decide)];rfl
 have m1:must l (i+9) 93=.ok (i+10):=by
  unfold must;rw[jV d3,if_pos (by decide)]
 have m2:must l (i+10) 93=.ok (i+11):=by
  unfold must;rw[jV d4,if_pos (by decide)]
 refine⟨i+2,?_⟩;have hh:iF l ⟨i,a,own,now⟩=.ok ⟨i+11,b (i+2),t1 :: own,t1⟩:=by
  rw[Bo l i a own now true (decide_eq_true (jV (c:=91) d1)),if_pos rfl,hd];simp only[];rw[m1];simp only[if_true];rw[m2];simp only[];rw[Aa,if_pos rfl,he];rfl
 rw[Bq,AB h' rfl,if_pos h0,hh];exact Ql (d:=⟨i+11,b (i+2),t1 :: own,t1⟩) d5
theorem ahC{l:List UInt8}{i:Nat}{r:List UInt8}(h:l.drop i=49 :: 10 :: r):jc l i=.ok (1,i+1):=by
 have h0:nx l i=49:=jV (c:=49) h;have ht:toR aA l i=i+1:=Na (a:=[49]) h (fun c hc=>by rw[List.mem_singleton.1 hc];decide) rfl;have hs:aj l i 1=[49]:=MZ (a:=[49]) h;have ha:iq l i=i:=by
  unfold iq;rw[h0,if_pos (by decide)]
 rw[TW,ha,ht,show i+1-i=1 by omega,hs,h0,if_neg (by omega),if_neg (by omega),if_neg (by decide)];rfl
theorem ahD:∀u:Nat,∀c∈Lib.decDigits u,aA (c.toNat:Int)=true:=by
 intro u
 induction u using Nat.strongRecOn with
 | ind u ih =>
  intro c hc;rw[Lib.decDigits]at hc;have key:∀m,m<10->aA (((UInt8.ofNat (48+m)).toNat:Nat):Int)=true:=fun m hm=>by
   rw[UInt8.toNat_ofNat_of_lt' (by show 48+m<256;omega)];unfold aA;apply decide_eq_true;omega
  split at hc
  ·rw[List.mem_singleton.1 hc];exact key u (by assumption)
  ·rcases List.mem_append.1 hc with hc|hc
   ·exact ih (u / 10) (by omega) c hc
   ·rw[List.mem_singleton.1 hc];exact key (u % 10) (by omega)
open Go.RowKit Go.Joins
theorem YO{l:List UInt8}{i:Nat}{r:List UInt8}(h:l.drop i=34 :: r):nx l i=34:=jV (c:=34) h
theorem ahE{l:List UInt8}{i:Nat}{r:List UInt8}(h:l.drop i=44 :: r):nx l i=44:=jV (c:=44) h
theorem ahF{l:List UInt8}{i:Nat}{r:List UInt8}(h:l.drop i=49 :: r):nx l i=49:=jV (c:=49) h
theorem ahG{l:List UInt8}{i:Nat}{r:List UInt8}(h:l.drop i=91 :: r):nx l i=91:=jV (c:=91) h
theorem Qn{l:List UInt8}{i:Nat}{r:List UInt8}(h:l.drop i=93 :: r):nx l i=93:=jV (c:=93) h
theorem YP{l:List UInt8}{i:Nat}{s r:List UInt8}(hs:s.all pb=true)(h:l.drop i=34 :: (s++34 :: r))(f up:Nat)(k:List UInt8)(p d:Nat)(ns:List Tn):val l (f+1) i up k p d ns=.ok (i+s.length+2,addN ns up ⟨3,k,s,0,[],p⟩):=by
 have d1:=gY (a:=[34]) (l:=l) (i:=i) h;have hl:=congrArg List.length h;simp only[List.length_drop,List.length_cons,List.length_append]at hl;rw[o9,if_pos (YO h),YM l r s (l.length+1) (i+1) [] hs d1 (by omega)];simp only[List.nil_append];rw[show i+1+s.length+1=i+s.length+2 by omega]
def jt:List (List UInt8)->List UInt8
 | []=>[]
 | y :: r=>44 :: 32 :: 34 :: (y++34 :: jt r)
def jn:List (List UInt8)->List UInt8
 | []=>[]
 | y :: r=>34 :: (y++34 :: jt r)
theorem ahH(y:List UInt8)(r:List (List UInt8)):jt (y :: r)=44 :: 32 :: jn (y :: r):=rfl
theorem YQ{l:List UInt8}(up:Nat)(r:List UInt8):∀(N:List (List UInt8)) (sp:List UInt8) (f i:Nat) (ns:List Tn),(∀y∈N,y.all pb=true)->(sp=[]\/(sp=[32]/\N≠[]))->l.drop i=sp++(jn N++93 :: r)->N.length<f->∃ns',lst l f i up 1 ns=.ok (i+sp.length+(jn N).length+1,ns')/\ns'.map np=N.foldl (fun m y=>addN m up ⟨3,[],y,0,[],0⟩) (ns.map np)
 | [],sp,f,i,ns,_,hsp,h,hf=>by
  obtain rfl:sp=[]:=by rcases hsp with h|h;exact h;exact absurd rfl h.2
  obtain⟨f,rfl⟩:∃f',f=f'+1:=⟨f-1,by simp at hf;omega⟩;have h':l.drop i=93 :: r:=h;refine⟨ns,?_,rfl⟩;rw[yV,JL h' (by decide) (by decide) (by decide)];simp only[];rw[if_pos (Qn h')];rfl
 | y :: N,sp,f,i,ns,hy,hsp,h,hf=>by
  obtain⟨f,rfl⟩:∃f',f=f'+1+1:=⟨f-2,by simp at hf;omega⟩;have hg:gap l (l.length+1) i=.ok (i+sp.length):=by
   rcases hsp with rfl|⟨rfl,-⟩
   ·exact JL (c:=34) h (by decide) (by decide) (by decide)
   ·exact ahA (c:=34) h (by decide) (by decide) (by decide)
  have d1:=gY h;have d1':l.drop (i+sp.length)=34 :: (y++34 :: (jt N++93 :: r)):=by rw[d1];simp[jn]
  have hv:=YP (hy y (by simp)) d1' f up [] (i+sp.length) 1 ns;have d2:l.drop (i+sp.length+y.length+2)=jt N++93 :: r:=by
   have:=gY (a:=34 :: (y++[34])) (l:=l) (i:=i+sp.length) (r:=jt N++93 :: r) (by rw[d1'];simp);rw[<-this];simp only[List.length_cons,List.length_append,List.length_nil];rfl
  have ha:((addN ns up ⟨3,[],y,0,[],i+sp.length⟩).map np)=addN (ns.map np) up ⟨3,[],y,0,[],0⟩:=yz ns up _;have hst:lst l (f+1+1) i up 1 ns=match gap l (l.length+1) (i+sp.length+y.length+2) with
    | .error e=>.error e
    | .ok j2=>if nx l j2=44 then lst l (f+1) (j2+1) up 1 (addN ns up ⟨3,[],y,0,[],i+sp.length⟩) else if nx l j2=93 then .ok (j2+1,addN ns up ⟨3,[],y,0,[],i+sp.length⟩) else .error (2,j2):=by
   rw[yV,hg];simp only[];rw[if_neg (by rw[YO d1'];decide),hv];rfl
  cases N with
  | nil =>
   have d2':l.drop (i+sp.length+y.length+2)=93 :: r:=d2;refine⟨_,?_,ha⟩;rw[hst,JL d2' (by decide) (by decide) (by decide)];simp only[];rw[if_neg (by rw[Qn d2'];decide),if_pos (Qn d2')];simp only[jn,jt,List.length_cons,List.length_append,List.length_nil];rw[show i+sp.length+y.length+2+1=i+sp.length+(y.length+(0+1)+1)+1 by omega]
  | cons z N =>
   have d2':l.drop (i+sp.length+y.length+2)=44 :: ([32]++(jn (z :: N)++93 :: r)):=by rw[d2,ahH];rfl
   have d3:=gY (a:=[44]) (l:=l) (i:=i+sp.length+y.length+2) d2';obtain⟨ns',h1,h2⟩:=YQ up r (z :: N) [32] (f+1) (i+sp.length+y.length+2+1) (addN ns up ⟨3,[],y,0,[],i+sp.length⟩) (fun x hx=>hy x (by simp only[List.mem_cons]at hx ⊢;exact Or.inr hx)) (Or.inr ⟨rfl,by simp⟩) d3 (by simp at hf ⊢;omega);refine⟨ns',?_,by rw[h2,ha];rfl⟩;rw[hst,JL d2' (by decide) (by decide) (by decide)];simp only[];rw[if_pos (ahE d2'),h1];simp only[jn,jt,List.length_cons,List.length_append,List.length_nil];congr 2;omega
theorem add_mid(A C:List Tn)(u n:Tn):addN (A++u :: C) A.length n=A++⟨u.kd,u.ky,u.tx,u.nu,u.ks++[A.length+1+C.length],u.pl⟩ :: (C++[n]):=by
 unfold addN;rw[List.getElem?_append_right (Nat.le_refl _),Nat.sub_self];simp only[List.getElem?_cons_zero,List.length_append,List.length_cons];rw[List.set_append_right _ _ (Nat.le_refl _),Nat.sub_self,List.set_cons_zero,List.append_assoc,List.cons_append,show A.length+(C.length+1)=A.length+1+C.length by omega]
theorem ahI(A C:List Tn)(u:Tn)(j:Nat):(A++u :: C)[A.length+1+j]?=C[j]?:=by
 rw[List.getElem?_append_right (by omega),show A.length+1+j-A.length=j+1 by omega,List.getElem?_cons_succ]
theorem YR(A:List Tn):∀(N:List (List UInt8)) (u:Tn) (C:List Tn),u.pl=0->N.foldl (fun m y=>addN m A.length ⟨3,[],y,0,[],0⟩) (A++u :: C)=A++⟨u.kd,u.ky,u.tx,u.nu,u.ks++List.range' (A.length+1+C.length) N.length,0⟩ :: (C++N.map fun y=>⟨3,[],y,0,[],0⟩)
 | [],u,C,h=>by
  obtain⟨a,b,c,d,e,g⟩:=u;subst h;simp
 | y :: N,u,C,h=>by
  rw[List.foldl_cons,add_mid,YR A N ⟨u.kd,u.ky,u.tx,u.nu,u.ks++[A.length+1+C.length],u.pl⟩ _ h];simp only[List.length_append,List.length_cons,List.length_nil,List.append_assoc,List.singleton_append,List.range'_succ,List.map_cons,Nat.zero_add];rfl
def tS(k t:List UInt8):Tn:=⟨3,k,t,0,[],0⟩
def kW(b:Nat)(x:En):List Tn:=⟨0,[],[],0,[b+1,b+1+1,b+1+2,b+1+(3+x.nd.length)],0⟩ :: tS ed x.dg.data.toList :: tS bQ x.nm.data.toList :: ⟨1,cZ,[],0,List.range' (b+1+3) x.nd.length,0⟩ :: (x.nd.map (fun y=>tS [] y.data.toList)++[tS dP x.ve.data.toList])
def fZ:Nat->List En->List Tn
 | _,[]=>[]
 | b,x :: r=>kW b x++fZ (b+5+x.nd.length) r
def gQ:Nat->List En->List Nat
 | _,[]=>[]
 | b,x :: r=>b :: gQ (b+5+x.nd.length) r
def iZ(ks:List Nat):Tn:=⟨0,[],[],0,ks,0⟩
def sU:Tn:=⟨4,fM,[],1,[],0⟩
def uI(ks:List Nat):Tn:=⟨2,dN,[],0,ks,0⟩
def oN(es:List En):List Tn:=if es=[] then[iZ [1],sU] else iZ [1,2] :: sU :: uI (gQ 3 es) :: fZ 3 es
theorem BM(b:Nat)(x:En):(kW b x).length=5+x.nd.length:=by simp[kW];omega
theorem YS:∀(es:List En) (b:Nat) (x:En),fZ b (es++[x])=fZ b es++kW (b+(fZ b es).length) x
 | [],b,x=>by simp[fZ]
 | y :: r,b,x=>by
  show kW b y++fZ (b+5+y.nd.length) (r++[x])=(kW b y++fZ (b+5+y.nd.length) r)++_;rw[YS r,List.append_assoc];simp only[fZ,List.length_append,BM];rw[show b+5+y.nd.length+(fZ (b+5+y.nd.length) r).length=b+(5+y.nd.length+(fZ (b+5+y.nd.length) r).length) by omega]
theorem YT:∀(es:List En) (b:Nat) (x:En),gQ b (es++[x])=gQ b es++[b+(fZ b es).length]
 | [],b,x=>by simp[gQ,fZ]
 | y :: r,b,x=>by
  show b :: gQ (b+5+y.nd.length) (r++[x])=b :: (gQ (b+5+y.nd.length) r++_);rw[YT r];simp only[fZ,List.length_append,BM];rw[show b+5+y.nd.length+(fZ (b+5+y.nd.length) r).length=b+(5+y.nd.length+(fZ (b+5+y.nd.length) r).length) by omega]
open Go.RowKit Go.Joins
theorem JO{a A:List Tn}(h:a.map np=A)(t:Nat)(k:List UInt8):ah a t k=ah A t k:=by rw[<-h,Qk]
theorem JP(A C:List Tn)(u:Tn)(k:List UInt8)(hk:∀q∈u.ks,∃j x,q=A.length+1+j/\C[j]?=some x/\x.ky≠k):ah (A++u :: C) A.length k=none:=by
 unfold ah;rw[List.getElem?_append_right (Nat.le_refl _),Nat.sub_self];simp only[List.getElem?_cons_zero];rw[List.find?_eq_none];intro q hq;obtain⟨j,x,rfl,hx,hne⟩:=hk q hq;rw[ahI,hx];simpa using hne
def ln(k v:List UInt8):List UInt8:=k++([32,61,32]++(v++[10]))
def sv(s:List UInt8):List UInt8:=34 :: (s++[34])
theorem JQ{l:List UInt8}{i:Nat}{c:UInt8}{r:List UInt8}(h:l.drop i=c :: r):i<l.length:=by
 have:=congrArg List.length h;simp only[List.length_drop,List.length_cons]at this;omega
theorem Qo{l:List UInt8}{i:Nat}{k s r:List UInt8}{a A C:List Tn}{u:Tn}{own:List Nat}(ha:a.map np=A++u :: C)(hk:bk k=true)(hs:s.all pb=true)(h:l.drop i=ln k (sv s)++r)(hn:ah (A++u :: C) A.length k=none) :
  ∃b,Run l ⟨i,a,own,A.length⟩ ⟨i+(ln k (sv s)).length,b,own,A.length⟩/\b.map np=A++⟨u.kd,u.ky,u.tx,u.nu,u.ks++[A.length+1+C.length],u.pl⟩ :: (C++[tS k s]):=by
 have h':l.drop i=k++([32,61,32]++(34 :: (s++34 :: 10 :: r))):=by rw[h];simp[ln,sv]
 have d1:l.drop (i+k.length+3)=34 :: (s++34 :: 10 :: r):=gY (gY h');have hv:=YP hs d1 (2*l.length+1) A.length k i 0 a;have d2:=gY (a:=34 :: (s++[34])) (l:=l) (i:=i+k.length+3) (r:=10 :: r) (by rw[d1];simp);have zH:=Qm (own:=own) (r:=r) hk h' rfl (by rw[JO ha];exact hn) hv (by rw[<-d2];simp only[List.length_cons,List.length_append,List.length_nil];rfl);have e:i+k.length+3+s.length+2+1=i+(ln k (sv s)).length:=by
  simp only[ln,sv,List.length_cons,List.length_append,List.length_nil];omega
 rw[e]at zH;obtain⟨c,kr,hc,-⟩:=JM hk;refine⟨_,FI zH (by rw[hc]at h';exact JQ h') (by simp only[ln,List.length_append,List.length_cons];omega),?_⟩;rw[yz,ha,add_mid];rfl
theorem ahJ{l:List UInt8}{i:Nat}{k r:List UInt8}{N:List (List UInt8)}{a A C:List Tn}{u:Tn}{own:List Nat}(ha:a.map np=A++u :: C)(hk:bk k=true)(hs:∀y∈N,y.all pb=true)(h:l.drop i=ln k (91 :: (jn N++[93]))++r)(hn:ah (A++u :: C) A.length k=none) :
  ∃b,Run l ⟨i,a,own,A.length⟩ ⟨i+(ln k (91 :: (jn N++[93]))).length,b,own,A.length⟩/\b.map np=A++⟨u.kd,u.ky,u.tx,u.nu,u.ks++[A.length+1+C.length],u.pl⟩ :: (C++(⟨1,k,[],0,List.range' (A.length+1+C.length+1) N.length,0⟩ :: N.map (tS []))):=by
 have h':l.drop i=k++([32,61,32]++(91 :: (jn N++93 :: 10 :: r))):=by rw[h];simp[ln]
 have d1:l.drop (i+k.length+3)=91 :: (jn N++93 :: 10 :: r):=gY (gY h');have d2:=gY (a:=[91]) d1;have hlen:=congrArg List.length d1;simp only[List.length_drop,List.length_cons,List.length_append,List.length_nil]at hlen;have hjl:N.length<=(jn N).length:=by
  have key:∀N:List (List UInt8),N.length<=(jt N).length:=fun N=>by
   induction N with
   | nil=>simp
   | cons y r ih=>simp only[jt,List.length_cons,List.length_append];omega
  cases N with
  | nil=>simp
  | cons y r=>have:=key r;simp only[jn,List.length_cons,List.length_append];omega
 obtain⟨b,hb1,hb2⟩:=YQ (l:=l) a.length (10 :: r) N [] (2*l.length+1) (i+k.length+3+1) (addN a A.length ⟨1,k,[],0,[],i⟩) hs (Or.inl rfl) d2 (by omega);have hv:val l (2*l.length+2) (i+k.length+3) A.length k i 0 a=.ok (i+k.length+3+1+(jn N).length+1,b):=by
  have hx:=ahG d1;rw[o9,hx,if_neg (by decide),if_neg (by decide),if_neg (by decide),if_pos rfl,if_neg (by decide),hb1];rfl
 have d3:=gY (a:=91 :: (jn N++[93])) (l:=l) (i:=i+k.length+3) (r:=10 :: r) (by rw[d1];simp);have zH:=Qm (own:=own) (r:=r) hk h' rfl (by rw[JO ha];exact hn) hv (by rw[<-d3];simp only[List.length_cons,List.length_append,List.length_nil];congr 1;omega);have e:i+k.length+3+1+(jn N).length+1+1=i+(ln k (91 :: (jn N++[93]))).length:=by
  simp only[ln,List.length_cons,List.length_append,List.length_nil];omega
 rw[e]at zH;obtain⟨c,kr,hc,-⟩:=JM hk;refine⟨_,FI zH (by rw[hc]at h';exact JQ h') (by simp only[ln,List.length_append,List.length_cons];omega),?_⟩;have hal:a.length=A.length+1+C.length:=by
  have:=congrArg List.length ha;simp only[List.length_map,List.length_append,List.length_cons]at this;omega
 have hA:∀v:Tn,(A++v :: C).length=a.length:=fun v=>by rw[hal];simp only[List.length_append,List.length_cons];omega
 rw[hb2,yz,ha,add_mid];have:=YR (A++⟨u.kd,u.ky,u.tx,u.nu,u.ks++[A.length+1+C.length],u.pl⟩ :: C) N ⟨1,k,[],0,[],0⟩ [] rfl;rw[hA]at this;rw[show np ⟨1,k,[],0,[],i⟩=⟨1,k,[],0,[],0⟩ from rfl];simp only[List.append_assoc,List.cons_append,List.nil_append]at this ⊢;rw[this];simp only[List.length_nil,hal,Nat.add_zero];rfl
def JR(x:En):Prop:=x.dg.data.toList.all pb=true/\x.nm.data.toList.all pb=true/\x.ve.data.toList.all pb=true/\∀y∈x.nd,y.data.toList.all pb=true
def BN(x:En):List (List UInt8):=x.nd.map (·.data.toList)
def sV(x:En):List UInt8:=ln ed (sv x.dg.data.toList)++(ln bQ (sv x.nm.data.toList)++(ln cZ (91 :: (jn (BN x)++[93]))++ln dP (sv x.ve.data.toList)))
theorem ahK{l:List UInt8}{i:Nat}{a A:List Tn}{own:List Nat}{x:En}{r:List UInt8}(ha:a.map np=A++[iZ []])(hx:JR x)(h:l.drop i=sV x++r):∃b,Run l ⟨i,a,own,A.length⟩ ⟨i+(sV x).length,b,own,A.length⟩/\b.map np=A++kW A.length x:=by
 unfold sV at h;simp only[List.append_assoc]at h;obtain⟨b1,r1,n1⟩:=Qo (own:=own) ha (by decide) hx.1 h (JP A [] _ ed (fun q hq=>by simp[iZ]at hq));have h2:=gY h;obtain⟨b2,r2,n2⟩:=Qo (own:=own) n1 (by decide) hx.2.1 h2 (JP A _ _ bQ (fun q hq=>by
  simp only[iZ,List.nil_append,List.mem_singleton,List.length_nil]at hq;exact⟨0,_,hq,rfl,show ed≠bQ by decide⟩))
 have h3:=gY h2;obtain⟨b3,r3,n3⟩:=ahJ (own:=own) (N:=BN x) n2 (by decide) (fun y hy=>by
  obtain⟨z,hz,rfl⟩:=List.mem_map.1 hy;exact hx.2.2.2 z hz) h3 (JP A _ _ cZ (fun q hq=>by
  simp only[iZ,List.nil_append,List.length_nil,List.length_append,List.length_cons,List.cons_append,List.mem_cons,List.not_mem_nil,or_false]at hq
  rcases hq with hq|hq
  ·exact⟨0,_,hq,rfl,show ed≠cZ by decide⟩
  ·exact⟨1,_,hq,rfl,show bQ≠cZ by decide⟩))
 have h4:=gY h3;obtain⟨b4,r4,n4⟩:=Qo (own:=own) n3 (by decide) hx.2.2.1 h4 (JP A _ _ dP (fun q hq=>by
  simp only[iZ,List.nil_append,List.length_nil,List.length_append,List.length_cons,List.cons_append,List.mem_cons,List.not_mem_nil,or_false]at hq
  rcases hq with hq|hq|hq
  ·exact⟨0,_,hq,rfl,show ed≠dP by decide⟩
  ·exact⟨1,_,hq,rfl,show bQ≠dP by decide⟩
  ·exact⟨2,_,hq,rfl,show cZ≠dP by decide⟩))
 refine⟨b4,?_,?_⟩
 ·have:=((r1.trans r2).trans r3).trans r4;rw[show i+(sV x).length=i+(ln ed (sv x.dg.data.toList)).length+(ln bQ (sv x.nm.data.toList)).length+(ln cZ (91 :: (jn (BN x)++[93]))).length+(ln dP (sv x.ve.data.toList)).length by unfold sV;simp only[List.length_append];omega];exact this
 ·rw[n4];unfold kW BN;simp only[iZ,List.nil_append,List.length_nil,List.length_append,List.length_cons,List.length_map,List.cons_append,List.map_map,List.append_assoc,Nat.add_zero,Nat.zero_add];rw[show A.length+1+(1+1)+1=A.length+1+3 by omega,show A.length+1+(x.nd.length+1+1+1)=A.length+1+(3+x.nd.length) by omega];rfl
theorem ahL{l:List UInt8}{i now:Nat}{a A:List Tn}{own:List Nat}{r:List UInt8}(he:∀p,∃b,fO a 0 dN p=.ok (A.length,b)/\b.map np=A++[iZ []])(h:l.drop i=[91,91]++dN++[93,93,10]++r):∃b,Run l ⟨i,a,own,now⟩ ⟨i+12,b,A.length :: own,A.length⟩/\b.map np=A++[iZ []]:=by
 obtain⟨b,hb⟩:=Classical.axiomOfChoice he;obtain⟨p,hp⟩:=ahB (own:=own) (now:=now) (fun p=>(hb p).1) h;exact⟨b p,FI hp (JQ (c:=91) h) (show i<i+12 by omega),(hb p).2⟩
theorem ahM{es:List En}{a:List Tn}(ha:a.map np=oN es):∃A:List Tn,(∀p,∃b,fO a 0 dN p=.ok (A.length,b)/\b.map np=A++[iZ []])/\∀x,A++kW A.length x=oN (es++[x]):=by
 have hal:=congrArg List.length ha;rw[List.length_map]at hal
 by_cases h0:es=[]
 ·subst h0;refine⟨[iZ [1,2],sU,uI [3]],fun p=>?_,fun x=>?_⟩
  ·have h1:ah a 0 dN=none:=by rw[JO ha];rfl
   have hl2:a.length=2:=by rw[hal];rfl
   refine⟨_,by unfold fO;rw[h1,hl2];rfl,?_⟩;rw[yz,yz,ha];rfl
  ·simp[oN,gQ,fZ]
 ·have ha':a.map np=iZ [1,2] :: sU :: uI (gQ 3 es) :: fZ 3 es:=by rw[ha,oN,if_neg h0]
  have hl2:a.length=3+(fZ 3 es).length:=by
   have:=congrArg List.length ha';simp only[List.length_map,List.length_cons]at this;omega
  refine⟨iZ [1,2] :: sU :: uI (gQ 3 es++[3+(fZ 3 es).length]) :: fZ 3 es,fun p=>?_,fun x=>?_⟩
  ·have h1:ah a 0 dN=some 2:=by rw[JO ha'];rfl
   have h2:ak a 2=2:=by rw[<-Qj,ha'];rfl
   refine⟨addN a 2 ⟨0,[],[],0,[],p⟩,?_,?_⟩
   ·unfold fO;rw[h1];simp only[];rw[if_pos h2,hl2];simp only[List.length_cons];rw[show(fZ 3 es).length+1+1+1=3+(fZ 3 es).length by omega]
   ·rw[yz,ha'];show(iZ [1,2] :: sU :: uI (gQ 3 es++[(iZ [1,2] :: sU :: uI (gQ 3 es) :: fZ 3 es).length]) :: fZ 3 es)++[iZ []]=_;simp only[List.length_cons];rw[show(fZ 3 es).length+1+1+1=3+(fZ 3 es).length by omega]
  ·rw[oN,if_neg (by simp),YT,YS];simp only[List.length_cons,List.cons_append];rw[show(fZ 3 es).length+1+1+1=3+(fZ 3 es).length by omega]
def lI(x:En):List UInt8:=10 :: ([91,91]++dN++[93,93,10]++sV x)
theorem YU{l:List UInt8}(r:List UInt8):∀(M es:List En) (i now:Nat) (a:List Tn) (own:List Nat),(∀x∈M,JR x)->a.map np=oN es->l.drop i=M.flatMap lI++r->∃b own' now',Run l ⟨i,a,own,now⟩ ⟨i+(M.flatMap lI).length,b,own',now'⟩/\b.map np=oN (es++M)
 | [],es,i,now,a,own,_,ha,_=>⟨a,own,now,Run.refl _ _,by rw[List.append_nil];exact ha⟩
 | x :: M,es,i,now,a,own,hM,ha,h=>by
  obtain⟨A,h1,h2⟩:=ahM ha;have h':l.drop i=10 :: ([91,91]++dN++[93,93,10]++(sV x++(M.flatMap lI++r))):=by rw[h];simp[lI]
  have r1:=FI (ahz h' a own now) (JQ h') (Nat.lt_succ_self i);have d1:l.drop (i+1)=[91,91]++dN++[93,93,10]++(sV x++(M.flatMap lI++r)):=gY (a:=[10]) h';obtain⟨b2,r2,n2⟩:=ahL (now:=now) (own:=own) h1 d1;have d2:=gY d1;obtain⟨b3,r3,n3⟩:=ahK (own:=A.length :: own) n2 (hM x (by simp)) d2;have d3:=gY d2;obtain⟨b,own',now',r4,n4⟩:=YU r M (es++[x]) _ A.length b3 (A.length :: own) (fun y hy=>hM y (by simp[hy])) (by rw[n3,h2]) d3;refine⟨b,own',now',?_,by rw[n4,List.append_assoc];rfl⟩;have:=(r1.trans (r2.trans r3)).trans r4;rw[show i+((x :: M).flatMap lI).length=i+1+12+(sV x).length+(M.flatMap lI).length by simp[lI,dN];omega];exact this
def pU(M:List En):List UInt8:=ln fM [49]++M.flatMap lI
theorem ahN(M:List En)(hp:∀x∈M,JR x)(hl:(pU M).length<=100000):∃ns,jK (pU M)=.ok ns/\ns.map np=oN M:=by
 obtain⟨l,hL⟩:=zN (pU M);have h:l.drop 0=ln fM [49]++(M.flatMap lI++[]):=by rw[<-hL];simp[pU]
 have h':l.drop 0=fM++([32,61,32]++(49 :: 10 :: (M.flatMap lI++[]))):=by rw[h];simp[ln]
 have d1:=gY (gY h');have i1:=ahC d1;have hv:val l (2*l.length+2) (0+fM.length+3) 0 fM 0 0 [iZ []]=.ok (0+fM.length+3+1,addN [iZ []] 0 ⟨4,fM,[],1,[],0⟩):=by
  have hx:nx l (0+fM.length+3)=49:=ahF d1;rw[o9,hx,if_neg (by decide),if_pos (by decide),show jc l (0+fM.length+3)=_ from i1];rfl
 have d2:=gY (a:=[49]) d1;have zH:=Qm (own:=[]) (now:=0) (a:=[iZ []]) (by decide) h' rfl rfl hv d2;have r1:=FI zH (by rw[List.drop_zero]at h';rw[h'];simp[fM]) (by simp);obtain⟨b,own',now',r2,n2⟩:=YU (l:=l) [] M [] _ 0 (addN [iZ []] 0 ⟨4,fM,[],1,[],0⟩) [] hp rfl (gY h);have r3:=r1.trans r2;obtain⟨f',hf,he⟩:=r3 (l.length+1) (by simp);refine⟨b,?_,n2⟩;rw[hL]at hl ⊢;rw[Fa,if_neg (by omega)];rw[show(⟨0,[⟨0,[],[],0,[],0⟩],[],0⟩:Sd)=⟨0,[iZ []],[],0⟩ from rfl,he];have hend:l.length=0+(ln fM [49]).length+(M.flatMap lI).length:=by
  rw[<-hL];simp[pU]
 match f',hf with
 | f+1,hf =>
  rw[BF,if_pos (by rw[hend];exact Nat.le_refl _)];rfl
open Go.RowKit Go.Joins
theorem ahO(S:List ByteArray):jn (S.map (·.data.toList))=jP S S.length:=by
 have key:∀(N:List (List UInt8)) (y:List UInt8),jt (N++[y])=jt N++(44 :: 32 :: 34 :: (y++[34])):=fun N=>by
  induction N with
  | nil=>intro y;rfl
  | cons z r ih=>intro y;simp[jt,ih]
 have key2:∀(N:List (List UInt8)) (y:List UInt8),jn (N++[y])=jn N++((if 0<N.length then[44,32] else[])++34 :: (y++[34])):=fun N y=>by
  cases N with
  | nil=>rfl
  | cons z r=>simp[jn,key]
 have h:∀k,k<=S.length->jn ((S.take k).map (·.data.toList))=jP S k:=fun k=>by
  induction k with
  | zero=>intro _;simp[jn,jP]
  | succ k ih =>
   intro hk;have:=ih (by omega);rw[Pg S k (by omega),<-this,List.take_succ_eq_append_getElem (by omega),List.map_append,List.map_cons,List.map_nil,key2];simp only[List.length_map,List.length_take,Nat.min_eq_left (Nat.le_of_lt hk)]
 have:=h S.length (Nat.le_refl _)
 rwa [List.take_length]at this
theorem ahP(x:En):lI x=lD x:=by
 unfold lI lD sV BN;rw[ahO];simp[ln,sv,dN,ed,bQ,cZ,dP]
theorem ahQ(M:List En):pU M=x8 M:=by
 unfold pU x8;rw[funext ahP];rfl
open Go.RowKit Go.Joins
theorem wH{ns T:List Tn}(h:ns.map np=T){q:Nat}{y:Tn}(hy:T[q]?=some y):∃p,ns[q]?=some ⟨y.kd,y.ky,y.tx,y.nu,y.ks,p⟩:=by
 rw[<-h,List.getElem?_map]at hy;obtain⟨x,hx,e⟩:=Option.map_eq_some_iff.1 hy;rw[hx];obtain⟨a1,a2,a3,a4,a5,a6⟩:=x;exact⟨a6,by rw[<-e];rfl⟩
theorem FK(s:ByteArray)(kd:Int)(ky:List UInt8)(nu:Int)(ks:List Nat)(p:Nat):bW ⟨kd,ky,s.data.toList,nu,ks,p⟩=s:=by
 unfold bW;exact ByteArray.ext (by simp)
theorem JS(s:ByteArray)(is:ByteArray->Bool)(ky:List UInt8)(ks:List Nat)(p:Nat)(h:is s=true):takeD ⟨3,ky,s.data.toList,0,ks,p⟩ is=0:=by
 unfold takeD;rw[FK,if_neg (by simp),if_pos h]
theorem YV{ns:List Tn}{b e:Nat}(es:List En)(x:En)(he:es.length=e)(hn:∀y∈x.nd,nameB y=true)(hd:x.nd.Nodup)(h20:x.nd.length<=20)(nm ve dg:ByteArray)(hg:∀j (hj:j<x.nd.length),∃p,ns[b+j]?=some ⟨3,[],x.nd[j].data.toList,0,[],p⟩):∀(n j:Nat) (d:Dr),j+n=x.nd.length->(∀i,j<=i->i<x.nd.length->d.lk (b+i)=some (.val e))->d.es=es++[⟨nm,ve,dg,x.nd.take j⟩]->∃wt,fV ns (ns.length-(b+j)) d=fV ns (ns.length-(b+x.nd.length)) ⟨d.lk,d.fm,d.tb,es++[⟨nm,ve,dg,x.nd⟩],d.wt++wt⟩/\∀y∈wt,y.1∈x.nd
 | 0,j,d,hj,hl,hes=>by
  obtain rfl:j=x.nd.length:=by omega
  rw[List.take_length]at hes;refine⟨[],?_,fun y hy=>by simp at hy⟩;rw[List.append_nil,<-hes]
 | n+1,j,d,hj,hl,hes=>by
  have hjl:j<x.nd.length:=by omega
  obtain⟨p,hp⟩:=hg j hjl;have hA:aW d.es e=⟨nm,ve,dg,x.nd.take j⟩:=by rw[hes,<-he,A8]
  have hno:(x.nd.take j).any (fun y=>decide (y=x.nd[j]))=false:=by
   rw[List.any_eq_false];intro y hy;obtain⟨k,hk,rfl⟩:=List.mem_take_iff_getElem.1 hy;have:=List.pairwise_iff_getElem.1 hd k j (by omega) hjl (by omega);simpa using this
  have hstep:eQ d (b+j) ⟨3,[],x.nd[j].data.toList,0,[],p⟩ (.val e)=.ok ⟨d.lk,d.fm,d.tb,es++[⟨nm,ve,dg,x.nd.take (j+1)⟩],d.wt++[(x.nd[j],p)]⟩:=by
   show nT _ _ _=_;unfold nT;rw[if_pos (JS _ _ _ _ _ (hn _ (List.getElem_mem hjl))),FK,hA];simp only[];rw[hno,if_neg (by simp),if_neg (by rw[List.length_take];omega),hes,<-he,Ba,List.take_succ_eq_append_getElem hjl]
  rw[xU hp (hl j (Nat.le_refl _) hjl) hstep];obtain⟨wt,h1,h2⟩:=YV es x he hn hd h20 nm ve dg hg n (j+1) ⟨d.lk,d.fm,d.tb,es++[⟨nm,ve,dg,x.nd.take (j+1)⟩],d.wt++[(x.nd[j],p)]⟩ (by omega) (fun i h1 h2=>hl i (by omega) h2) rfl;refine⟨(x.nd[j],p) :: wt,?_,fun y hy=>?_⟩
  ·rw[Nat.add_assoc,h1,List.append_assoc];rfl
  ·rcases List.mem_cons.1 hy with rfl|hy
   ·exact List.getElem_mem hjl
   ·exact h2 y hy
theorem ahR{ns S P:List Tn}{x:En}{es:List En}(hT:ns.map np=P++(kW P.length x++S))(hg:qH x=true)(hd:x.nd.Nodup)(h20:x.nd.length<=20)(hno:aT es x.nm=false)(hne:¬x.nm=⟨#[]⟩)(d:Dr)(h50:d.tb.length<50)(hes:d.es=es)(hk:d.lk P.length=some .tabs)(hlk:∀q,P.length<q->q<P.length+5+x.nd.length->d.lk q=none) :
  ∃d',fV ns (ns.length-P.length) d=fV ns (ns.length-(P.length+5+x.nd.length)) d'/\d'.fm=d.fm/\d'.tb=d.tb++[P.length]/\d'.es=es++[x]/\(∃wt,d'.wt=d.wt++wt/\∀y∈wt,y.1∈x.nd)/\∀q,P.length+5+x.nd.length<=q->d'.lk q=d.lk q:=by
 obtain⟨b,hb⟩:=zN (P.length);have hgj:∀j,(ns.map np)[b+j]?=(kW b x++S)[j]?:=fun j=>by
  rw[hT,<-hb,List.getElem?_append_right (by omega),show P.length+j-P.length=j by omega]
 obtain⟨p0,g0⟩:=wH (ns:=ns) rfl (hgj 0);obtain⟨p1,g1⟩:=wH (ns:=ns) rfl (hgj 1);obtain⟨p2,g2⟩:=wH (ns:=ns) rfl (hgj 2);obtain⟨p3,g3⟩:=wH (ns:=ns) rfl (hgj 3);have gj:∀j (hj:j<x.nd.length),∃p,ns[b+4+j]?=some ⟨3,[],x.nd[j].data.toList,0,[],p⟩:=fun j hj=>by
  have:(ns.map np)[b+4+j]?=some (tS [] x.nd[j].data.toList):=by
   rw[show b+4+j=b+(j+1+1+1+1) by omega,hgj];unfold kW;simp only[List.cons_append,List.getElem?_cons_succ,List.append_assoc];rw[List.getElem?_append_left (by simpa using hj)];simp[List.getElem?_eq_getElem hj]
  exact wH (ns:=ns) rfl this
 have g4:∃p,ns[b+4+x.nd.length]?=some ⟨3,dP,x.ve.data.toList,0,[],p⟩:=by
  have:(ns.map np)[b+4+x.nd.length]?=some (tS dP x.ve.data.toList):=by
   rw[show b+4+x.nd.length=b+(x.nd.length+1+1+1+1) by omega,hgj];unfold kW;simp only[List.cons_append,List.getElem?_cons_succ,List.append_assoc];rw[List.getElem?_append_right (by simp)];simp
  exact wH (ns:=ns) rfl this
 obtain⟨p4,g4⟩:=g4;unfold qH at hg;simp only[Bool.and_eq_true,List.all_eq_true]at hg;obtain⟨⟨⟨hnm,sN⟩,hdg⟩,hnd⟩:=hg;rw[hb]at hk hlk ⊢;obtain⟨ks,hks⟩:=zN ([b+1,b+1+1,b+1+2,b+1+(3+x.nd.length)]);obtain⟨e,he⟩:=zN (es.length);have s0:eQ d b ⟨0,[],[],0,[b+1,b+1+1,b+1+2,b+1+(3+x.nd.length)],p0⟩ .tabs=.ok (keepD ⟨d.lk,d.fm,d.tb++[b],es++[en0],d.wt⟩ ks (.key e)):=by
  show(if d.tb.length=50 then _ else _)=_;rw[if_neg (by omega),hes,he,hks]
 have L0:=xU g0 hk s0;obtain⟨d1,hd1⟩:=zN (keepD ⟨d.lk,d.fm,d.tb++[b],es++[en0],d.wt⟩ ks (.key e));have k1:∀q∈ks,d1.lk q=some (.key e):=fun q hq=>by rw[<-hd1];unfold keepD;simp only[];rw[if_pos hq]
 have k1':∀q,¬q∈ks->d1.lk q=d.lk q:=fun q hq=>by rw[<-hd1];unfold keepD;simp only[];rw[if_neg hq]
 have e1:d1.fm=d.fm/\d1.tb=d.tb++[b]/\d1.es=es++[en0]/\d1.wt=d.wt:=by rw[<-hd1];exact⟨rfl,rfl,rfl,rfl⟩
 rw[hd1]at L0;clear hd1 s0;have s1:eQ d1 (b+1) ⟨3,ed,x.dg.data.toList,0,[],p1⟩ (.key e)=.ok ⟨d1.lk,d1.fm,d1.tb,es++[⟨⟨#[]⟩,⟨#[]⟩,x.dg,[]⟩],d1.wt⟩:=by
  show jv _ _ _=_;unfold jv nS setD;rw[if_neg (show ¬ed=bQ by decide),if_neg (show ¬ed=dP by decide),if_pos rfl,if_pos (JS _ _ _ _ _ hdg),FK,e1.2.2.1,<-he,A8,Ba];rfl
 have L1:=xU g1 (k1 (b+1) (by rw[<-hks];simp)) s1;have ahS:∀ve dg nd,aT (es++[⟨⟨#[]⟩,ve,dg,nd⟩]) x.nm=false:=fun ve dg nd=>by
  unfold aT at hno ⊢;rw[List.any_append,hno];simp only[List.any_cons,List.any_nil,Bool.or_false,Bool.false_or];exact decide_eq_false (fun h=>hne h.symm)
 have s2:eQ ⟨d1.lk,d1.fm,d1.tb,es++[⟨⟨#[]⟩,⟨#[]⟩,x.dg,[]⟩],d1.wt⟩ (b+2) ⟨3,bQ,x.nm.data.toList,0,[],p2⟩ (.key e)=.ok ⟨d1.lk,d1.fm,d1.tb,es++[⟨x.nm,⟨#[]⟩,x.dg,[]⟩],d1.wt⟩:=by
  show jv _ _ _=_;unfold jv setD;rw[if_pos rfl,if_pos (JS _ _ _ _ _ hnm),FK];simp only[];rw[ahS,if_neg (by simp),<-he,A8,Ba]
 have L2:=xU (d:=⟨d1.lk,d1.fm,d1.tb,es++[⟨⟨#[]⟩,⟨#[]⟩,x.dg,[]⟩],d1.wt⟩) g2 (k1 (b+2) (by rw[<-hks];simp)) s2;obtain⟨vs,hvs⟩:=zN (List.range' (b+1+3) x.nd.length);have s3:eQ ⟨d1.lk,d1.fm,d1.tb,es++[⟨x.nm,⟨#[]⟩,x.dg,[]⟩],d1.wt⟩ (b+3) ⟨1,cZ,[],0,List.range' (b+1+3) x.nd.length,p3⟩ (.key e)=.ok (keepD ⟨d1.lk,d1.fm,d1.tb,es++[⟨x.nm,⟨#[]⟩,x.dg,[]⟩],d1.wt⟩ vs (.val e)):=by
  show jv _ _ _=_;unfold jv;rw[if_neg (show ¬cZ=bQ by decide),if_neg (show ¬cZ=dP by decide),if_neg (show ¬cZ=ed by decide),if_pos ⟨rfl,rfl⟩,hvs]
 have L3:=xU (d:=⟨d1.lk,d1.fm,d1.tb,es++[⟨x.nm,⟨#[]⟩,x.dg,[]⟩],d1.wt⟩) g3 (k1 (b+3) (by rw[<-hks];simp)) s3;obtain⟨d3,hd3⟩:=zN (keepD ⟨d1.lk,d1.fm,d1.tb,es++[⟨x.nm,⟨#[]⟩,x.dg,[]⟩],d1.wt⟩ vs (.val e));have k3:∀q,d3.lk q=if q∈vs then some (.val e) else d1.lk q:=fun q=>by rw[<-hd3];rfl
 have e3:d3.fm=d1.fm/\d3.tb=d1.tb/\d3.es=es++[⟨x.nm,⟨#[]⟩,x.dg,[]⟩]/\d3.wt=d1.wt:=by rw[<-hd3];exact⟨rfl,rfl,rfl,rfl⟩
 rw[hd3]at L3;clear hd3 s3;have mvs:∀q,q∈vs↔b+4<=q/\q<b+4+x.nd.length:=fun q=>by rw[<-hvs,List.mem_range'_1]
 obtain⟨wt,L4,hwt⟩:=YV (ns:=ns) (b:=b+4) es x he hnd hd h20 x.nm ⟨#[]⟩ x.dg gj x.nd.length 0 d3 (by omega) (fun i h1 h2=>by rw[k3,if_pos ((mvs _).2 (by omega))]) (by rw[e3.2.2.1];rfl);have hkv:d3.lk (b+4+x.nd.length)=some (.key e):=by
  rw[k3,if_neg (by rw[mvs];omega)];refine k1 _ ?_;rw[<-hks,show b+4+x.nd.length=b+1+(3+x.nd.length) by omega];simp
 have s5:eQ ⟨d3.lk,d3.fm,d3.tb,es++[⟨x.nm,⟨#[]⟩,x.dg,x.nd⟩],d3.wt++wt⟩ (b+4+x.nd.length) ⟨3,dP,x.ve.data.toList,0,[],p4⟩ (.key e)=.ok ⟨d3.lk,d3.fm,d3.tb,es++[x],d3.wt++wt⟩:=by
  show jv _ _ _=_;unfold jv nS setD;rw[if_neg (show ¬dP=bQ by decide),if_pos rfl,if_pos (JS _ _ _ _ _ sN),FK];simp only[];rw[<-he,A8,Ba]
 have L5:=xU (d:=⟨d3.lk,d3.fm,d3.tb,es++[⟨x.nm,⟨#[]⟩,x.dg,x.nd⟩],d3.wt++wt⟩) g4 hkv s5;refine⟨⟨d3.lk,d3.fm,d3.tb,es++[x],d3.wt++wt⟩,?_,?_,?_,rfl,⟨wt,?_,hwt⟩,?_⟩
 ·rw[show b+5+x.nd.length=b+4+x.nd.length+1 by omega,<-L5,<-L4];exact((L0.trans L1).trans L2).trans L3
 ·rw[e3.1,e1.1]
 ·rw[e3.2.1,e1.2.1]
 ·rw[e3.2.2.2,e1.2.2.2]
 ·intro q hq;show d3.lk q=_;rw[k3,if_neg (by rw[mvs];omega),k1' q];rw[<-hks];simp only[List.mem_cons,List.not_mem_nil,or_false];omega
theorem YW:∀(M:List En) (b q:Nat),q∈gQ b M->b<=q
 | [],b,q,h=>by simp[gQ]at h
 | x :: M,b,q,h=>by
  rcases List.mem_cons.1 h with rfl|h
  ·exact Nat.le_refl _
  ·have:=YW M _ q h;omega
theorem YX{ns:List Tn}:∀(M es:List En) (P:List Tn) (d:Dr),ns.map np=P++fZ P.length M->(∀x∈M,qH x=true/\x.nd.Nodup/\x.nd.length<=20/\¬x.nm=⟨#[]⟩)->((es++M).map (·.nm)).Nodup->(es++M).length<=50->d.tb.length=es.length->d.es=es->(∀q,P.length<=q->d.lk q=if q∈gQ P.length M then some .tabs else none) →
  ∃d',fV ns (ns.length-P.length) d=.ok d'/\d'.fm=d.fm/\d'.tb=d.tb++gQ P.length M/\d'.es=es++M/\∃wt,d'.wt=d.wt++wt/\∀y∈wt,∃x∈M,y.1∈x.nd
 | [],es,P,d,hT,_,_,_,_,hes,_=>by
  have hl:ns.length=P.length:=by
   have:=congrArg List.length hT;simpa [fZ] using this
  refine⟨d,?_,rfl,by simp[gQ],by rw[hes,List.append_nil],[],by simp,fun y hy=>by simp at hy⟩;rw[hl,Nat.sub_self];rfl
 | x :: M,es,P,d,hT,hM,hnd,h50,htb,hes,hlk=>by
  have hT1:ns.map np=P++(kW P.length x++fZ (P.length+5+x.nd.length) M):=hT;obtain⟨a1,a2,a3,a4⟩:=hM x (by simp);have hno:aT es x.nm=false:=by
   rw[Bool.eq_false_iff];intro hh;rw[Fj]at hh;rw[List.map_append,List.nodup_append]at hnd;exact hnd.2.2 _ hh x.nm (by simp) rfl
  obtain⟨d',L,f1,f2,f3,⟨wt,f4,f5⟩,f6⟩:=ahR hT1 a1 a2 a3 hno a4 d (by rw[htb];simp only[List.length_append,List.length_cons]at h50;omega) hes (by rw[hlk _ (Nat.le_refl _),if_pos (by simp[gQ])]) (fun q h1 h2=>by
   rw[hlk q (by omega),if_neg];intro hh
   rcases List.mem_cons.1 hh with hh|hh
   ·omega
   ·have:=YW M _ q hh;omega)
  have hT2:ns.map np=(P++kW P.length x)++fZ (P++kW P.length x).length M:=by
   rw[hT1,List.length_append,BM,List.append_assoc,Nat.add_assoc]
  have hPl:(P++kW P.length x).length=P.length+5+x.nd.length:=by rw[List.length_append,BM,Nat.add_assoc]
  obtain⟨d2,L2,e1,e2,e3,wt2,e4,e5⟩:=YX M (es++[x]) (P++kW P.length x) d' hT2 (fun y hy=>hM y (by simp[hy])) (by rw[List.append_assoc];exact hnd) (by rw[List.append_assoc];exact h50) (by rw[f2,List.length_append,List.length_append,htb];rfl) f3 (fun q hq=>by
   rw[hPl]at hq ⊢;rw[f6 q hq,hlk q (by omega)];have:q∈gQ P.length (x :: M)↔q∈gQ (P.length+5+x.nd.length) M:=by
    show q∈P.length :: gQ (P.length+5+x.nd.length) M↔_;rw[List.mem_cons];constructor
    ·rintro(h|h)
     ·omega
     ·exact h
    ·exact Or.inr
   simp only[this])
  refine⟨d2,?_,by rw[e1,f1],?_,by rw[e3,List.append_assoc];rfl,wt++wt2,by rw[e4,f4,List.append_assoc],fun y hy=>?_⟩
  ·rw[L,<-hPl];exact L2
  ·rw[e2,f2,hPl,List.append_assoc];rfl
  ·rcases List.mem_append.1 hy with hy|hy
   ·exact⟨x,by simp,f5 y hy⟩
   ·obtain⟨z,hz,h⟩:=e5 y hy;exact⟨z,by simp[hz],h⟩
theorem ahT{M:List En}{ns:List Tn}(hn:ns.map np=oN M)(hok:qM M)(hne:∀x∈M,¬x.nm=⟨#[]⟩):oJ ns=.ok M:=by
 obtain⟨h50,hnd,hM⟩:=hok;unfold oJ;have hks:af ns 0=if M=[] then[1] else[1,2]:=by
  rw[<-YL,hn,oN];split<;>rfl
 have hlen:=congrArg List.length hn;rw[List.length_map]at hlen;obtain⟨K,hK⟩:=zN ((if M=[] then[1] else[1,2]:List Nat));obtain⟨p0,g0⟩:∃p,ns[0]?=some ⟨0,[],[],0,K,p⟩:=wH hn (y:=iZ K) (by rw[oN,<-hK];split<;>rfl);obtain⟨p1,g1⟩:∃p,ns[1]?=some ⟨4,fM,[],1,[],p⟩:=wH hn (y:=sU) (by rw[oN];split<;>rfl);have hl0:=(List.getElem?_eq_some_iff.1 g0).1;have hl1:=(List.getElem?_eq_some_iff.1 g1).1;rw[hks,hK];have h1K:(1:Nat)∈K:=by rw[<-hK];split<;>simp
 have h0K:¬(0:Nat)∈K:=by rw[<-hK];split<;>simp
 have L0:fV ns ns.length (keepD iT K .root)=fV ns (ns.length-1) (keepD iT K .root):=by
  have:=Oy (ns:=ns) (q:=0) (d:=keepD iT K .root) hl0 (by unfold keepD;simp only[];rw[if_neg h0K];rfl);exact this
 have L1:=xU (d:=keepD iT K .root) (k:=.root) g1 (by unfold keepD;simp only[];rw[if_pos h1K]) (d':=⟨(keepD iT K .root).lk,true,[],[],[]⟩) (by
  unfold eQ;simp only[];rw[if_pos trivial,if_neg (by simp),if_neg (by simp)];rfl)
 have fin:∀d:Dr,d.fm=true->d.es=M->(∀q∈d.tb,¬(af ns q).length<4)->(∀y∈d.wt,∃x∈M,y.1∈x.nd)->(if(lC ns d).1=0 then Except.ok d.es else Except.error (lC ns d):Rs (List En))=.ok M:=fun d h1 h2 h3 h4=>by
  have:lC ns d=(0,0):=by
   unfold lC;rw[h1,if_neg (by simp),List.find?_eq_none.2 (fun q hq=>by simpa using h3 q hq)];simp only[];rw[List.find?_eq_none.2 (fun y hy=>by
    obtain⟨x,hx,hy⟩:=h4 y hy;have:=(Fj M y.1).2 ((hM x hx).2.2.2 _ hy);rw[h2,this];simp)]
  rw[this,if_pos rfl,h2]
 by_cases h0:M=[]
 ·subst h0;have hl:ns.length=2:=by rw[hlen];rfl
  rw[L0,L1,hl];exact fin _ rfl rfl (fun q hq=>by simp at hq) (fun y hy=>by simp at hy)
 ·rw[if_neg h0]at hK;have hT:ns.map np=[iZ [1,2],sU,uI (gQ 3 M)]++fZ 3 M:=by rw[hn,oN,if_neg h0];rfl
  obtain⟨p2,g2⟩:∃p,ns[2]?=some ⟨2,dN,[],0,gQ 3 M,p⟩:=wH hT (y:=uI (gQ 3 M)) rfl;have L2:=xU (d:=⟨(keepD iT K .root).lk,true,[],[],[]⟩) (k:=.root) g2 (by rw[<-hK];rfl) (d':=keepD ⟨(keepD iT K .root).lk,true,[],[],[]⟩ (gQ 3 M) .tabs) (by
   unfold eQ;simp only[];rw[if_neg (show ¬dN=fM by decide)];rfl)
  obtain⟨d,L3,f1,f2,f3,wt,f4,f5⟩:=YX (ns:=ns) M [] [iZ [1,2],sU,uI (gQ 3 M)] (keepD ⟨(keepD iT K .root).lk,true,[],[],[]⟩ (gQ 3 M) .tabs) hT (fun x hx=>⟨(hM x hx).2.1,(hM x hx).2.2.1,(hM x hx).1,hne x hx⟩) hnd h50 rfl rfl (fun q hq=>by
   have hq3:3<=q:=hq;show(if q∈gQ 3 M then some iw.tabs else if q∈K then some iw.root else none)=_;rw[if_neg (show ¬q∈K by rw[<-hK];simp;omega)];rfl)
  rw[L0,L1,L2,show fV ns (ns.length-(2+1)) _=_ from L3];simp only[];refine fin d f1 f3 (fun q hq=>?_) (fun y hy=>?_)
  ·rw[f2]at hq;have hq':q∈gQ 3 M:=hq;have key:∀(M:List En) (P:List Tn),ns.map np=P++fZ P.length M->q∈gQ P.length M->(af ns q).length=4:=fun M=>by
    induction M with
    | nil=>intro P _ h;simp[gQ]at h
    | cons x M ih =>
     intro P hT h
     rcases List.mem_cons.1 h with rfl|h
     ·rw[<-YL,hT];unfold af;rw[List.getElem?_append_right (Nat.le_refl _),Nat.sub_self];rfl
     ·refine ih (P++kW P.length x) ?_ ?_
      ·rw[hT,List.length_append,BM,<-Nat.add_assoc,List.append_assoc];rfl
      ·rw[List.length_append,BM,<-Nat.add_assoc];exact h
   rw[key M [iZ [1,2],sU,uI (gQ 3 M)] hT hq'];omega
  ·rw[f4]at hy;exact f5 y hy
open Go.RowKit Go.Joins
theorem ahU{c:UInt8}(h:aX c=true):pb c=true:=by
 unfold aX aN at h;unfold pb;simp only[Bool.or_eq_true,Bool.and_eq_true,decide_eq_true_eq]at h ⊢;omega
theorem YY{c:UInt8}(h:qC c=true):pb c=true:=by
 unfold qC rQ aN at h;unfold pb;simp only[Bool.or_eq_true,Bool.and_eq_true,decide_eq_true_eq]at h ⊢;omega
theorem zI{s:ByteArray}(h:nameB s=true):s.data.toList.all pb=true/\s.data.toList.length<=30/\¬s=⟨#[]⟩:=by
 obtain⟨h1,h2,h3,h4⟩:DX s:=Classical.byContradiction fun hn=>by rw[rU hn]at h;cases h
 refine⟨?_,by simpa using h2,fun e=>by rw[e]at h1;exact absurd h1 (by decide)⟩;rw[List.all_eq_true];intro c hc;obtain⟨j,hj,rfl⟩:=List.getElem_of_mem hc;have hj':j<s.size:=by simpa using hj
 have e:s.data.toList[j]=s[j]:=by simp[ByteArray.getElem_eq_getElem_data]
 rw[e]
 by_cases h0:j=0
 ·subst h0;refine YY ?_;unfold qC;rw[h3 hj'];rfl
 ·exact YY (h4 j hj' (by omega))
theorem ahV{c:UInt8}(h:okS c=true):pb c=true:=by
 have key:∀n:Fin 256,okS (UInt8.ofNat n.val)=true->pb (UInt8.ofNat n.val)=true:=by decide
 have:=key ⟨c.toNat,c.toNat_lt⟩ (by simpa using h);simpa using this
theorem Qp{s:ByteArray}(h:nP s=true):s.data.toList.all pb=true/\s.data.toList.length=71:=by
 unfold nP lW at h;simp only[Bool.and_eq_true,decide_eq_true_eq,beq_iff_eq]at h;obtain⟨⟨h1,h2⟩,h3⟩:=h;refine⟨?_,h1⟩;rw[<-List.take_append_drop 7 s.data.toList,List.all_append,h2,Bool.and_eq_true];refine⟨by decide,?_⟩;unfold nK at h3;rw[List.findIdx_eq_length]at h3;rw[List.all_eq_true];intro c hc;have:=h3 c hc;exact ahV (by simpa using this)
theorem Qq:∀l:List UInt8,(lK l).all (fun p=>p.all pb)=true->l.all pb=true
 | [],_=>rfl
 | c :: l,h=>by
  rw[Gn]at h
  by_cases hc:c=46
  ·rw[if_pos hc]at h;simp only[List.all_cons,Bool.and_eq_true]at h ⊢;exact⟨by rw[hc];decide,Qq l h.2⟩
  ·rw[if_neg hc]at h;have ih:=Qq l
   cases hs:lK l with
   | nil=>exact absurd hs (aac l)
   | cons p ps =>
    rw[hs]at h ih;simp only[List.all_cons,Bool.and_eq_true]at h ih ⊢;exact⟨h.1.1,ih ⟨h.1.2,h.2⟩⟩
theorem YZ{s:Bool}{l:List UInt8}(h:yC s l=true):l.all pb=true:=by
 by_cases h0:l=[]
 ·rw[h0];rfl
 ·refine Qq l ?_;have:=aaj h h0;rw[List.all_eq_true]at this ⊢;intro p hp;have h1:=this p hp;unfold zT at h1;simp only[Bool.and_eq_true]at h1;rw[List.all_eq_true]at *;intro c hc;exact ahU (h1.1.2 c hc)
theorem Qr{n:Int}(h:0<=n):(Lib.itoa n).all pb=true:=by
 rw[RF h,List.all_eq_true];intro c hc;have:=ahD n.toNat c hc;unfold aA at this;unfold pb;simp only[decide_eq_true_eq]at this ⊢;omega
theorem Y0{c:UInt8}{p:List UInt8}(hc:pb c=true)(h:p.all pb=true):(zU c p).all pb=true:=by
 unfold zU;split
 ·rfl
 ·rw[List.all_cons,hc,h];rfl
theorem Qs{s:ByteArray}(h:okV s=true):s.data.toList.all pb=true/\s.data.toList.length<=100:=by
 have h0:=of_decide_eq_true h;unfold jZ at h0
 by_cases hl:100<s.data.toList.length
 ·rw[if_pos hl]at h0;exact absurd h0 (by show ¬(1:Int)=0;decide)
 ·rw[if_neg hl]at h0;obtain⟨h1,h2⟩:=aak _ h0;refine⟨?_,by omega⟩;rw[<-h1];unfold KG at h2;simp only[Bool.and_eq_true,RD]at h2;unfold KF;simp only[List.all_append,List.all_cons,Bool.and_eq_true];exact⟨Qr h2.1.1,by decide,Qr h2.2.1.1,by decide,Qr h2.2.2.1.1,Y0 (by decide) (YZ h2.2.2.2.1),Y0 (by decide) (YZ h2.2.2.2.2)⟩
theorem Qu{x:En}(h:qH x=true):JR x/\¬x.nm=⟨#[]⟩/\(x.nd.length<=20->(lI x).length<=940):=by
 unfold qH at h;simp only[Bool.and_eq_true,List.all_eq_true]at h;obtain⟨⟨⟨h1,h2⟩,h3⟩,h4⟩:=h;refine⟨⟨(Qp h3).1,(zI h1).1,(Qs h2).1,fun y hy=>(zI (h4 y hy)).1⟩,(zI h1).2.2,fun h20=>?_⟩;have a1:=(Qp h3).2;have a2:=(zI h1).2.1;have a3:=(Qs h2).2;have key:∀N:List ByteArray,(∀y∈N,y.data.toList.length<=30)->(jt (N.map (·.data.toList))).length<=N.length*34/\(jn (N.map (·.data.toList))).length<=N.length*34:=fun N=>by
  induction N with
  | nil=>intro _;exact⟨by simp[jt],by simp[jn]⟩
  | cons y r ih =>
   intro hN;have:=(ih (fun z hz=>hN z (by simp[hz]))).1;have hy:=hN y (by simp);constructor
   ·simp only[List.map_cons,jt,List.length_cons,List.length_append];omega
   ·simp only[List.map_cons,jn,List.length_cons,List.length_append];omega
 have a4:=(key x.nd (fun y hy=>(zI (h4 y hy)).2.1)).2;simp only[lI,sV,BN,ln,sv,dN,ed,bQ,cZ,dP,List.length_cons,List.length_append,List.length_nil];omega
theorem ahW(x:En):jI (jI x)=jI x:=by
 unfold jI;rw[<-XR (List.Perm.refl _) (XQ x.nd)]
noncomputable def gU(L:List En):List En:=(pK L).map jI
theorem Qv{L:List En}(h:qM L):qM (gU L):=by
 obtain⟨h1,h2,h3⟩:=agF (ET L) h;have hm:(gU L).map (·.nm)=(pK L).map (·.nm):=by unfold gU;rw[List.map_map];rfl
 refine⟨by unfold gU;rw[List.length_map];exact h1,by rw[hm];exact h2,fun x hx=>?_⟩;obtain⟨y,hy,rfl⟩:=List.mem_map.1 hx;obtain⟨b1,b2,b3,b4⟩:=h3 y hy;have hp:=zy y.nd;refine⟨by show(kV y.nd).length<=20;rw[hp.length_eq];exact b1,?_,by show(kV y.nd).Nodup;exact hp.nodup_iff.2 b3,fun z hz=>by rw[hm];exact b4 z (hp.subset hz)⟩;unfold qH at b2 ⊢;simp only[Bool.and_eq_true,List.all_eq_true]at b2 ⊢;exact⟨b2.1,fun z hz=>b2.2 z (hp.subset hz)⟩
theorem ahX{L:List En}(h:qM L):gU (gU L)=gU L:=by
 obtain⟨-,h2,-⟩:=Qv h;have hr:Bz (gU L):=by
  unfold Bz gU;rw[List.pairwise_map];exact XU L
 have hs:=XW h2 (List.Perm.refl _) hr;show(pK (gU L)).map jI=_;rw[<-hs];unfold gU;rw[List.map_map];congr 1;funext x;exact ahW x
theorem ahY{L:List En}(h:qM L):vX (gU L)=vX L:=by
 show(⟨(x8 (gU (gU L))).toArray⟩:ByteArray)=⟨(x8 (gU L)).toArray⟩;rw[ahX h]
theorem ahZ{L:List En}(h:qM L):(vX L).data.toList=pU (gU L)/\(pU (gU L)).length<=100000/\∃ns,jK (pU (gU L))=.ok ns/\ns.map np=oN (gU L)/\oJ ns=.ok (gU L):=by
 have hok:=Qv h;have hp:=fun x (hx:x∈gU L)=>(Qu (hok.2.2 x hx).2.1).1
 have hT:(vX L).data.toList=pU (gU L):=by rw[ahQ];rfl
 have hlen:(pU (gU L)).length<=100000:=by
  have key:∀M:List En,(∀x∈M,(lI x).length<=940)->(M.flatMap lI).length<=M.length*940:=fun M=>by
   induction M with
   | nil=>intro _;simp
   | cons x r ih =>
    intro hM;have a1:=ih (fun y hy=>hM y (by simp[hy]));have a2:=hM x (by simp);rw[List.flatMap_cons,List.length_append,List.length_cons];omega
  have:=key (gU L) (fun x hx=>(Qu (hok.2.2 x hx).2.1).2.2 (hok.2.2 x hx).1);have h50:=hok.1;unfold pU;rw[List.length_append,show(ln fM [49]).length=11 from rfl];omega
 obtain⟨ns,h1,h2⟩:=ahN (gU L) hp hlen;exact⟨hT,hlen,ns,h1,h2,ahT h2 hok (fun x hx=>(Qu (hok.2.2 x hx).2.1).2.1)⟩
open Go.RowKit Go.Maps
theorem JU{x:En}(h:qH x=true):x.nm.size<=1048576/\x.ve.size<=1048576/\x.dg.size<=1048576/\∀y∈x.nd,y.size<=1048576:=by
 have hs:∀x:ByteArray,x.data.toList.length=x.size:=fun x=>by simp
 unfold qH at h;simp only[Bool.and_eq_true,List.all_eq_true]at h;have h1:=(zI h.1.1.1).2.1;have h2:=(Qs h.1.1.2).2;have h3:=(Qp h.1.2).2;rw[hs]at h1 h2 h3;refine⟨by omega,by omega,by omega,fun y hy=>?_⟩;have h4:=(zI (h.2 y hy)).2.1;rw[hs]at h4;omega
theorem ah0(x:En)(sv:Value)(w:World)(h:TxS w sv x.nd)(hL:x.nd.length<=20)(hg:qH x=true) :
  Calls prog 36 #[.agg #[.string x.nm,.string x.ve,.string x.dg,sv]] w fun e w'=>e=.returned (.bool true)/\w.grownBy w' none:=by
 obtain⟨z1,z2,z3,z4⟩:=JU hg;unfold qH at hg;simp only[Bool.and_eq_true,List.all_eq_true]at hg;have H1:=ae h;have CN:Hd (∀y∈x.nd,∀w,Calls prog 58 #[.string y] w fun e w'=>e=.returned (.bool true)/\w'=w):=fun y hy w=>by
  rw[<-hg.2 y hy];exact name_any y w (by have:=z4 y hy;omega)
 have CM:=ae (fun w=>name_any x.nm w (by omega));have CV:=ae (fun w=>XN x.ve w (by omega));have CD:=ae (fun w=>Ve x.dg w);rw[Vf,show lW x.dg.data.toList=true from hg.1.2]at CD;rw[hg.1.1.1]at CM;rw[hg.1.1.2]at CV;obtain⟨so,sc,rfl⟩:=xB h;obtain⟨xn,xv,xd,N⟩:=x;simp only[]at CM CV CD CN H1 hL ⊢;clear h hg z1 z2 z3 z4;obtain⟨W0,hW0⟩:=zN (w.alloc (.cells #[.string xn,.string xv,.string xd,.slice so N.length sc] 33));have PY:=ae hW0;have HW0:Hd (w.grownBy W0 none/\W0.cell? ⟨w.heap.size,0,none⟩=some (.string xn)/\W0.cell? ⟨w.heap.size,1,none⟩=some (.string xv)/\W0.cell? ⟨w.heap.size,2,none⟩=some (.string xd)/\W0.cell? ⟨w.heap.size,3,none⟩=some (.slice so N.length sc)):=by
  rw[<-hW0];exact⟨bC (au w none) _,zx (heap_alloc_new w _)⟩
 go_enter func36,ntmps36;clear hW0;go_wp2;go_loopw [8] (fun vi wr=>∃i:Nat,vi=.int .i64 i/\i<=N.length/\W0.grownBy wr none) (fun vi _=>N.length-(intOf vi).toNat)
 case atStart=>exact⟨0,rfl,Nat.zero_le _,by rw[PY.o];exact au _ _⟩
 case round =>
  obtain⟨i,rfl,hi,hg⟩:=hrel;have fJ:=ae hg;have HG:=ae (ai HW0.o.1 hg)
  by_cases hlt:i<N.length
  ·obtain⟨a,rfl,hcv,hat⟩:=ES (H1.o.grow HG.o) hlt;have e0:=hat i hlt;have CY:=ae (CN.o N[i] (List.getElem_mem _));obtain⟨y,hy⟩:=zN (N[i]);rw[hy]at e0 CY;clear hg hat hy;go_wp2_with (go_at_call 58;refine(CY.o _).mono ?_;rintro e w' ⟨rfl,rfl⟩);exact⟨⟨i+1,by go_num,by omega,fJ.o⟩,by simp[intOf];omega⟩
  ·have f0:=hg.cell HW0.o.2.1 (by simp);have f1:=hg.cell HW0.o.2.2.1 (by simp);have f2:=hg.cell HW0.o.2.2.2.1 (by simp);clear hg hi;go_wp2_with (first|(go_at_call 58;refine(CM.o _).mono ?_;rintro e w' ⟨rfl,rfl⟩)|(go_at_call 59;refine(CV.o _).mono ?_));rintro e w3 ⟨rfl,hg3⟩;have aK:=ae (ai HG.o hg3);have F2:=hg3.cell f2 (by simp);clear hg3 f0 f1 f2;go_wp2_with (go_at_call 60;refine(CD.o _).mono ?_;rintro e w' ⟨rfl,rfl⟩);go_ret;exact⟨rfl,aK.o⟩
theorem ah1{H:Type}{D:DataW H}{kl:Lit}{j c:Int}(h:∀z,D.atKey kl z=.lit (.int .i64 j))(hat:D.atKey kl (.lit (.int .i64 0))=.lit (.int .i64 c)):c=j:=by
 rw[h]at hat;injection hat with hat
 injection hat with _ hat
 exact hat.symm
theorem ah2(a:Addr)(cap:Nat)(L:List En)(i B nn:Nat)(w:World)(hi:i<L.length)(hcap:L.length<=cap)(h:∀j (hj:j<L.length),EnAt w (a.add (j*4)) L[j])(hown:w.ownsMap prog 9 (plainElem (H:=Unit) prog 3) B nn (gu L L.length))(hok:qM L) :
  Calls prog 18 #[.slice (some a) L.length cap,.int .i64 i,.map (some B)] w fun e w'=>e=.returned (.int .i64 0)/\w.grownBy w' none:=by
 have HOWN:=ae (fun w' (hg:w.grownBy w' none)=>hown.kept hg (by simp));obtain⟨j,hjL,Qw,hjlt⟩:=aeq L i hi;have FH:=hok.1;have hji:¬j<i:=fun hh=>by
  have:=(Fj _ _).1 (hjlt.1 hh);obtain⟨y,hy,e⟩:=List.mem_map.1 this;obtain⟨k,hk,rfl⟩:=List.mem_take_iff_getElem.1 hy;have hk':k<i:=by omega
  have h2:=List.pairwise_iff_getElem.1 hok.2.1 k i (by simp;omega) (by simpa using hi) hk';simp only[List.getElem_map]at h2;exact h2 e
 obtain⟨hn,hgd,htw,hal⟩:=hok.2.2 L[i] (List.getElem_mem _);have Qx:Hd (∀y∈L[i].nd,Maps.has (gu L L.length) (je y)=true):=fun y hy=>by
  rw[Ez L y L.length (Nat.le_refl _),List.take_length];exact(Fj _ _).2 (hal y hy)
 obtain⟨z1,z2,z3,z4⟩:=JU hgd;obtain⟨x,hx⟩:=zN (L[i]);obtain⟨e0,e1,e2,sv,e3,hsv⟩:=h i hi;rw[hx]at Qw Qx hn hgd htw z1 z4 e0 e1 e2 hsv;have HJ:=ae Qw;have H1:=ae hsv;obtain⟨so,sc,rfl⟩:=xB hsv;have CI:=ae (fun w (h:TxS w (.slice so x.nd.length sc) x.nd)=>ah0 x _ w h hn hgd);have CT:=ae (fun w (h:TxS w (.slice so x.nd.length sc) x.nd)=>afo _ x.nd w h (by omega));rw[(agE _).2 htw]at CT;obtain⟨gd,hgd'⟩:=zN true;obtain⟨tw,Qy⟩:=zN false;rw[hgd']at CI;rw[Qy]at CT;have iy:=ae hgd';have ug:=ae Qy;have hkey:keyOf prog 9 (.string x.nm)=some (je x.nm):=Go.WideMaps.keyOf_string_mk underlying9 (by unfold maxLen;omega);have HKEY:Hd (∀y∈x.nd,keyOf prog 9 (.string y)=some (je y)):=fun y hy=>Go.WideMaps.keyOf_string_mk underlying9 (by have:=z4 y hy;unfold maxLen;omega)
 have hiL:(i:Int)<(L.length:Int):=by omega
 have hm:decide ((50:Int)<=(i:Int))=false:=decide_eq_false (by omega);have hn':decide ((20:Int)<(x.nd.length:Int))=false:=decide_eq_false (by omega);have hjI:decide (j<i)=false:=decide_eq_false hji;obtain⟨xn,xv,xd,N⟩:=x;simp only[]at CI CT H1 Qx HJ HKEY hkey e0 e1 e2 e3 hn hn';clear h hok hx hsv hown Qw hjlt hgd htw hal z1 z2 z3 z4 hji hgd' Qy;obtain⟨A,hA⟩:=zN (w.heap.size);go_enter func18,ntmps18;go_wp2_with (first|(go_at_call 36;refine(CI.o _ (H1.o.grow (bC (au w none) _))).mono ?_));rintro e w1 ⟨rfl,hg1⟩;obtain⟨c0,c1,c2,c3⟩:=zx ((hg1.block w.heap.size (by simp) (by simp)).trans (heap_alloc_new w _));have HG:=ae (ai (bC (au w none) _) hg1)
 try rw[hA]
 rw[hA]at c0 c1 c2 c3;have HC:=ae c3;clear hg1 e0 e1 e2 e3 hA c1 c2;have hgd:=iy.o;subst hgd;have ho1:=HOWN.o w1 HG.o;go_wp2_with (first|(at_lookup;refine wpList_lookup_own_int _ rfl _ _ 50 rfl 9 3 .i64 keyS underlying50 underlying3 (A7 _) B nn _ rfl ho1 _ _ rfl hkey ?_;intro c hat hwc;obtain rfl:=ah1 HJ.o hat;clear hat hwc)|(go_at_call 37;refine(CT.o _ (H1.o.grow HG.o)).mono ?_));rintro e w2 ⟨rfl,hg2⟩;have HG2:=ae (ai HG.o hg2);have f3:=hg2.cell HC.o (by simp);clear hg2 c0 c3 ho1;have htw:=ug.o;subst htw;go_wp2;clear hjI f3 hm hn';go_loopw [41] (fun vk wr=>∃k:Nat,vk=.int .i64 k/\k<=N.length/\w.grownBy wr none) (fun vk _=>N.length-(intOf vk).toNat)
 case atStart=>exact⟨0,rfl,Nat.zero_le _,HG2.o⟩
 case round =>
  obtain⟨k,rfl,hk,hg⟩:=hrel;have fJ:=ae hg
  by_cases hlt:k<N.length
  ·obtain⟨b,rfl,hcv,hat⟩:=ES (H1.o.grow hg) hlt;have g0:=hat k hlt;have Y1:=HKEY.o N[k] (List.getElem_mem _);have hq:=Qx.o N[k] (List.getElem_mem _);obtain⟨y,hy⟩:=zN (N[k]);rw[hy]at g0 Y1 hq;have ho2:=HOWN.o wr hg;clear hg hat hy;go_wp2_with (first|(at_lookup;refine wpList_lookup_own_ok_int _ rfl _ _ 50 rfl 9 3 .i64 keyS underlying50 underlying3 (A7 _) B nn _ rfl ho2 _ _ rfl Y1 ?_;intro c hat hwc;rw[hq])|go_in)
   first|(exact⟨⟨k+1,by go_num,by omega,fJ.o⟩,by simp[intOf];omega⟩)|(go_roundw;exact⟨k+1,by go_num,by omega,fJ.o⟩;simp[intOf];omega)
  ·clear hg hk;go_wp2;go_ret;exact⟨rfl,fJ.o⟩
theorem Y2{v:Value}{L:List En}{w:World}(h:EnS w v L)(hok:qM L) :
  Calls prog 9 #[v] w fun e w'=>e=.returned (.tuple #[.string (vX L),.int .i64 0,.int .i64 0])/\Hd (w.grownBy w' none):=by
 have H1:=ae h;have zo:=ae hok;have CFI:Hd (Calls prog 17 #[v] w fun e w'=>∃B,e=.returned (.map (some B))/\(L=[]\/w'.ownsMap prog 9 (plainElem (H:=Unit) prog 3) B L.length (gu L L.length))/\w.grownBy w' none):=by
  rcases h with⟨rfl,hl⟩|⟨a,cap,rfl,h2,h3⟩
  ·exact(aer w).mono fun e w' ⟨B,h1,h2⟩=>⟨B,h1,Or.inl hl,h2⟩
  ·exact(Xa a cap L w (by have:=hok.1;omega) h2 (fun x hx=>by have:=(JU (hok.2.2 x hx).2.1).1;unfold maxLen;omega) h3).mono fun e w' ⟨B,h1,h2,h3⟩=>⟨B,h1,Or.inr h2,h3⟩
 have CT:=ae (fun w' (hg:w.grownBy w' none)=>ag2 v L w' (h.grow hg) hok.1 (fun x hx=>by have:=JU (hok.2.2 x hx).2.1;exact⟨this.1,this.2.1,this.2.2.1,(hok.2.2 x hx).1,this.2.2.2⟩) hok.2.1);obtain⟨o,c,rfl⟩:=DU h;obtain⟨T,hT⟩:=zN (vX L);rw[hT]at CT ⊢;have FH:=hok.1;clear h hT hok;go_enter func9,ntmps9;go_wp2_with (go_at_call 17;refine CFI.o.mono ?_);rintro e w1 ⟨B,rfl,hown,hg1⟩;have HOW:=ae hown;have ax:=ae hg1;clear hown hg1;go_wp2;go_loopw [12] (fun vi wr=>∃i:Nat,vi=.int .i64 i/\i<=L.length/\w1.grownBy wr none) (fun vi _=>L.length-(intOf vi).toNat)
 case atStart=>exact⟨0,rfl,Nat.zero_le _,au _ _⟩
 case round =>
  obtain⟨i,rfl,hi,hg⟩:=hrel;have HG:=ae (ai ax.o hg);have JD:=ae hg
  by_cases hlt:i<L.length
  ·have CFF:Hd (Calls prog 18 #[.slice o L.length c,.int .i64 i,.map (some B)] wr fun e w'=>e=.returned (.int .i64 0)/\wr.grownBy w' none):=by
    rcases H1.o.grow HG.o with⟨h1,h2⟩|⟨a,cap,h1,h2,h3⟩
    ·rw[h2]at hlt;simp at hlt
    ·cases h1
     rcases HOW.o with h4|h4
     ·rw[h4]at hlt;simp at hlt
     ·exact ah2 a c L i B _ wr hlt h2 h3 (h4.kept hg (by simp)) zo.o
   clear hg;go_wp2_with (go_at_call 18;refine CFF.o.mono ?_;rintro e w3 ⟨rfl,hg3⟩);exact⟨⟨i+1,by go_num,by omega,ai JD.o hg3⟩,by simp[intOf];omega⟩
  ·have CTT:=ae (CT.o wr HG.o);clear hg hi;go_wp2_with (go_at_call 19;refine CTT.o.mono ?_;rintro e w3 ⟨rfl,hg3⟩);exact bodyPost_ret (results_tmp3 (t:=2) (u:=3) (v:=4) rfl _ _ _) rfl ⟨rfl,ai HG.o hg3⟩
end Go.Proofs.YtnnbgjaphfhibaaGreatDoor
