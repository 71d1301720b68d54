import Derived.Test.YtbcfhgpfgdbjgaaGreatDoorK15
import Derived.Test.YtbcfhgpfgdbjgaaGreatDoorK17
import Derived.Test.YtbcfhgpfgdbjgaaGreatDoorK16
import Derived.Test.YtbcfhgpfgdbjgaaGreatDoorK18
set_option linter.all false
set_option maxRecDepth 100000
set_option maxHeartbeats 0
open Go.Proofs.Tryz
namespace Go.Proofs.YtbcfhgpfgdbjgaaGreatDoor
variable{P Q s z4:ByteArray}{a b c m n z1 z2 z3:Int}{l:List UInt8}{A i j k q:Nat}{F T:Value}{W w w':World}
theorem J7(h:V->Bool):∀(ps:List V) (on:Bool),(Bo h on ps).Sublist ps
 | [],on=>List.Sublist.slnil
 | p :: ps,on=>by
  rw[Bo];split
  ·exact(J7 h ps on).cons _
  ·exact(J7 h ps (h p)).cons_cons _
def par:List V->V->Bool
 | [],_=>false
 | t :: r,x=>decide (dY t x<=0) ^^ par r x
def NF(N:List Sp):Prop:=∃T,N=outs T/\Nl T/\(∀t∈T,iq true t.pre=true/\t.pre.length<=1048576)/\T.length<=4194304
theorem NF.len{N:List Sp}(h:NF N):N.length<=4194304:=by
 obtain⟨T,rfl,_,_,hl⟩:=h;have:∀T:List V,(outs T).length<=T.length:=by
  intro T
  induction T using outs.induct with
  |case1=>simp[outs]
  |case2 x=>simp[outs]
  |case3 x y r ih=>rw[outs,List.length_cons,List.length_cons,List.length_cons];omega
 exact Nat.le_trans (this T) hl
theorem Qb:∀(T:List V) (s:Sp),s∈outs T->(∃x∈T,s=iI x oV true)\/∃x∈T,∃y∈T,s=iI x y false
 | [],s,h=>by simp[outs]at h
 | [a],s,h=>by
  have e:s=iI a oV true:=by simpa [outs] using h
  exact Or.inl ⟨a,by simp,e⟩
 | a :: b :: r,s,h=>by
  rw[outs]at h
  rcases List.mem_cons.1 h with e|h
  ·exact Or.inr ⟨a,by simp,b,by simp,e⟩
  ·rcases Qb r s h with⟨x,hx,e⟩|⟨x,hx,y,hy,e⟩
   ·exact Or.inl ⟨x,by simp[hx],e⟩
   ·exact Or.inr ⟨x,by simp[hx],y,by simp[hy],e⟩
theorem NF.small{N:List Sp}(h:NF N):∀s∈N,lN s:=by
 obtain⟨T,rfl,_,hp,hl⟩:=h;have hsz:∀l:List UInt8,(⟨l.toArray⟩:ByteArray).size=l.length:=fun l=>by simp[ByteArray.size]
 have h0:(⟨#[]⟩:ByteArray).size=0:=rfl;intro s hs
 rcases Qb T s hs with⟨x,hx,rfl⟩|⟨x,hx,y,hy,rfl⟩
 ·refine⟨?_,?_,?_,?_⟩
  ·show(⟨x.pre.toArray⟩:ByteArray).size<=_;rw[hsz];exact(hp x hx).2
  ·show(⟨#[]⟩:ByteArray).size<=_;rw[h0];omega
  ·show(⟨oV.pre.toArray⟩:ByteArray).size<=_;rw[hsz];show 0<=_;omega
  ·show(⟨#[]⟩:ByteArray).size<=_;rw[h0];omega
 ·refine⟨?_,?_,?_,?_⟩
  ·show(⟨x.pre.toArray⟩:ByteArray).size<=_;rw[hsz];exact(hp x hx).2
  ·show(⟨#[]⟩:ByteArray).size<=_;rw[h0];omega
  ·show(⟨y.pre.toArray⟩:ByteArray).size<=_;rw[hsz];exact(hp y hy).2
  ·show(⟨#[]⟩:ByteArray).size<=_;rw[h0];omega
theorem ags(Ls:List (List Sp))(h:Ls.all (·.all iF)=true):∀(k:Nat),∀e∈eP k Ls,iq true (aO e).at_.pre=true:=by
 induction Ls with
 |nil=>intro k e he;simp[eP]at he
 |cons l Ls ih=>
  intro k e he;rw[List.all_cons,Bool.and_eq_true]at h;rw[eP]at he
  rcases List.mem_append.1 he with he|he
  ·obtain⟨s,hs,he⟩:=List.mem_flatMap.1 he;have hm:=List.all_eq_true.1 h.1 s hs;unfold iF at hm;rw[Bool.and_eq_true]at hm;have hf:iq true s.f4.data.toList=true:=by
    have:=hm.1;unfold nM xM at this;simp only[Bool.and_eq_true]at this;exact this.2.2.2.1
   unfold dZ at he;split at he
   ·simp at he;rw[he];exact hf
   ·rename_i ho;have ht:iq true s.t4.data.toList=true:=by
     have:=hm.2;rw[Bool.or_eq_true]at this
     rcases this with h|this
     ·exact absurd h ho
     ·unfold nM xN at this;simp only[Bool.and_eq_true]at this;exact this.2.2.2.1
    split at he
    ·simp at he
     rcases he with rfl|rfl
     ·exact hf
     ·exact ht
    ·simp at he
  ·exact ih h.2 (k+1) e he
def yI(t:V):Bool:=nM ⟨t.major,t.minor,t.patch,t.pre,[]⟩
theorem agt(Ls:List (List Sp))(h:Ls.all (·.all iF)=true):∀(k:Nat),∀e∈eP k Ls,yI (aO e).at_=true:=by
 have key:∀(a b c:Int) (p q:List UInt8),nM ⟨a,b,c,p,q⟩=true->nM ⟨a,b,c,p,[]⟩=true:=by
  intro a b c p q h;unfold nM at h ⊢;simp only[Bool.and_eq_true]at h ⊢;exact⟨h.1,h.2.1,h.2.2.1,h.2.2.2.1,rfl⟩
 induction Ls with
 |nil=>intro k e he;simp[eP]at he
 |cons l Ls ih=>
  intro k e he;rw[List.all_cons,Bool.and_eq_true]at h;rw[eP]at he
  rcases List.mem_append.1 he with he|he
  ·obtain⟨s,hs,he⟩:=List.mem_flatMap.1 he;have hm:=List.all_eq_true.1 h.1 s hs;unfold iF at hm;rw[Bool.and_eq_true]at hm;have hf:=key _ _ _ _ _ hm.1;unfold dZ at he;split at he
   ·simp at he;rw[he];exact hf
   ·rename_i ho;split at he
    ·simp at he
     rcases he with rfl|rfl
     ·exact hf
     ·have:=hm.2;rw[Bool.or_eq_true]at this
      rcases this with h|this
      ·exact absurd h ho
      ·exact key _ _ _ _ _ this
    ·simp at he
  ·exact ih h.2 (k+1) e he
structure NT(T:List V)(k:Nat):Prop where
 up:Nl T
 ok:∀t∈T,iq true t.pre=true
 sm:∀t∈T,t.pre.length<=1048576
 sd:∀t∈T,yI t=true
 ln:T.length<=2097152*k
theorem NT.nf{T:List V}(h:NT T k)(hk:k<=2):NF (outs T):=⟨T,rfl,h.up,fun t ht=>⟨h.ok t ht,h.sm t ht⟩,by
 have h1:=h.ln;have h5:2097152*k<=2097152*2:=Nat.mul_le_mul_left _ hk;omega⟩
theorem agu(ch:Int->Bool)(Ls:List (List Sp))(hsz:∀l∈Ls,l.length<=1048576/\∀s∈l,lN s)(hsd:Ls.all (·.all iF)=true)(E:List Er)(hE:E.Perm (eP 0 Ls))(hs:rW (E.map aO)) :
  NT (fK (fun b=>ch (having Ls.length b)) (fun _=>0) false (E.map aO)) Ls.length:=by
 have e1:=Np (fun b=>ch (having Ls.length b)) (E.map aO) (fun x=>ch (having Ls.length (fun j=>nT (E.map aO) j x))) (fun x=>rfl) hs (E.map aO) [] false rfl;have e2:(fun j=>tot [] j)=(fun _=>(0:Int)):=rfl;rw[e2]at e1;have hsub:=J7 (fun x=>ch (having Ls.length (fun j=>nT (E.map aO) j x))) (kE (E.map aO)) false;rw[<-e1]at hsub;have hmem:∀t,t∈(fK (fun b=>ch (having Ls.length b)) (fun _=>0) false (E.map aO))->∃e∈eP 0 Ls,(aO e).at_=t:=by
  intro t ht;obtain⟨d,hd,rfl⟩:=(UI _ hs).1 t (hsub.subset ht);obtain⟨e,he,rfl⟩:=List.mem_map.1 hd;exact⟨e,hE.mem_iff.1 he,rfl⟩
 refine⟨List.Pairwise.sublist hsub (acl _ hs),?_,?_,?_,?_⟩
 ·intro t ht;obtain⟨e,he,rfl⟩:=hmem t ht;exact ags Ls hsd 0 e he
 ·intro t ht;obtain⟨e,he,rfl⟩:=hmem t ht;have:=Oz Ls hsz 0 e he;show e.a4.data.toList.length<=_;rw[Array.length_toList];exact this
 ·intro t ht;obtain⟨e,he,rfl⟩:=hmem t ht;exact agt Ls hsd 0 e he
 ·have h1:(kE (E.map aO)).length<=(E.map aO).length:=by
   have:∀l:List Ed,(kE l).length<=l.length:=by
    intro l
    induction l with
    |nil=>simp[kE]
    |cons e r ih=>
     rw[kE];split
     ·rw[List.length_cons];omega
     ·rw[List.length_cons,List.length_cons];omega
   exact this _
  have h2:=hsub.length_le;have h3:=W9 Ls (fun l hl=>(hsz l hl).1) 0;have h4:=hE.length_eq;rw[List.length_map]at h1;omega
theorem agv(T:List V):2*(outs T).length<=T.length+1:=by
 induction T using outs.induct with
 |case1=>simp[outs]
 |case2 x=>simp[outs]
 |case3 x y r ih=>rw[outs,List.length_cons,List.length_cons,List.length_cons];omega
theorem NT.sound{T:List V}(h:NT T k):(outs T).all iF=true:=by
 rw[List.all_eq_true];intro s hs;have hv:∀x y o,xM (iI x y o)=⟨x.major,x.minor,x.patch,x.pre,[]⟩:=fun x y o=>by simp[xM,iI]
 have hw:∀x y o,xN (iI x y o)=⟨y.major,y.minor,y.patch,y.pre,[]⟩:=fun x y o=>by simp[xN,iI]
 rcases Qb T s hs with⟨x,hx,rfl⟩|⟨x,hx,y,hy,rfl⟩
 ·unfold iF;rw[hv];have:=h.sd x hx;unfold yI at this;rw[this];rfl
 ·unfold iF;rw[hv,hw];have h1:=h.sd x hx;have h2:=h.sd y hy;unfold yI at h1 h2;rw[h1,h2];rfl
structure Pa where
 n:Nat
 a:Int
 b:Int
 c:Int
 pre:List UInt8
structure Te where
 sign:Int
 p:Pa
structure iZ(p:Pa):Prop where
 n3:p.n<=3
 a0:0<=p.a/\p.a<=999999999
 b0:0<=p.b/\p.b<=999999999
 c0:0<=p.c/\p.c<=999999999
 z1:p.n<1->p.a=0
 z2:p.n<2->p.b=0
 z3:p.n<3->p.c=0/\p.pre=[]
 ok:iq true p.pre=true
def qZ:V:=⟨0,0,0,[48]⟩
def yJ:V:=⟨0,0,0,[]⟩
def dW(p:Pa):V:=⟨p.a,p.b,p.c,if p.n<3 then[48] else p.pre⟩
def Dw(v:V)(k:Nat):V:=if k=1 then⟨v.major+1,0,0,[48]⟩ else if k=2 then⟨v.major,v.minor+1,0,[48]⟩ else⟨v.major,v.minor,v.patch+1,[48]⟩
def wU(p:Pa)(k:Nat):Sg:=if k=0 then⟨dW p,yJ,true⟩ else⟨dW p,Dw (dW p) k,false⟩
def fP(p:Pa):Sg:=if p.n=3 then⟨dW p,vM (dW p),false⟩ else wU p p.n
def uU(p:Pa):Nat:=if p.a≠0 then 1 else if p.b≠0 then 2 else if p.c≠0 then 3 else p.n
def Gm(s:Int)(p:Pa):Sg :=
 if s=0 then fP p else if s=1 then⟨dW p,yJ,true⟩ else if s=2 then⟨qZ,(fP p).to_,(fP p).op⟩
 else if s=3 then(if(fP p).op=true then⟨qZ,qZ,false⟩ else⟨(fP p).to_,yJ,true⟩) else if s=4 then⟨qZ,dW p,false⟩
 else if s=5 then wU p (uU p) else wU p (min p.n 2)
def Dx(p q:Pa):Sg:=⟨dW p,(fP q).to_,(fP q).op⟩
open Go.RowKit
def lV(p:Pa):Value:=.agg #[.int .i64 p.a,.int .i64 p.b,.int .i64 p.c,.string ⟨(dW p).pre.toArray⟩,.string ⟨#[]⟩,.int .i64 (p.n:Int)]
def uV(g:Sg):Value:=.agg #[.int .i64 g.fr.major,.int .i64 g.fr.minor,.int .i64 g.fr.patch,.string ⟨g.fr.pre.toArray⟩,.string ⟨#[]⟩,.int .i64 g.to_.major,.int .i64 g.to_.minor,.int .i64 g.to_.patch,.string ⟨g.to_.pre.toArray⟩,.string ⟨#[]⟩,.bool g.op]
def Ans(f:Nat)(args:Array Value)(v:Value):Prop:=∀w,Calls prog f args w fun e w'=>e=.returned v/\w.grownBy w' none
theorem Qc(p:Pa)(hp:iZ p)(k:Nat)(hk:k<=3):Ans 185 #[lV p,.int .i64 (k:Int)] (uV (wU p k)):=by
 intro w;have hc:k=0\/k=1\/k=2\/k=3:=by omega
 by_cases h0:k=0
 ·subst h0;exact afe p.a p.b p.c p.n ⟨(dW p).pre.toArray⟩ w hp.a0 hp.b0 hp.c0
 ·have hr:uV (wU p k)=.agg #[.int .i64 p.a,.int .i64 p.b,.int .i64 p.c,.string ⟨(dW p).pre.toArray⟩,.string ⟨#[]⟩,.int .i64 (Dw (dW p) k).major,.int .i64 (Dw (dW p) k).minor,.int .i64 (Dw (dW p) k).patch,.string ⟨#[48]⟩,.string ⟨#[]⟩,.bool false]:=by
   rcases hc with rfl|rfl|rfl|rfl
   ·exact absurd rfl h0
   all_goals rfl
  rw[hr];refine aff p.a p.b p.c p.n k _ _ _ ⟨(dW p).pre.toArray⟩ w (by simp;omega) fun w=>ac7 p.a p.b p.c k _ _ _ _ w hp.a0 hp.b0 hp.c0 ?_
  rcases hc with rfl|rfl|rfl|rfl
  ·exact absurd rfl h0
  ·exact Or.inl ⟨rfl,rfl,rfl,rfl⟩
  ·exact Or.inr (Or.inl ⟨rfl,rfl,rfl,rfl⟩)
  ·exact Or.inr (Or.inr ⟨rfl,rfl,rfl,rfl⟩)
theorem agw(p:Pa)(hp:iZ p):Ans 186 #[lV p] (.int .i64 (uU p:Int)):=by
 intro w;refine afd p.a p.b p.c p.n _ ⟨(dW p).pre.toArray⟩ w (fun h=>?_) (fun h1 h=>?_) (fun h1 h2 h=>?_) (fun h1 h2 h=>?_)
 ·unfold uU;rw[if_pos h];rfl
 ·unfold uU;rw[if_neg (not_not_intro h1),if_pos h];rfl
 ·unfold uU;rw[if_neg (not_not_intro h1),if_neg (not_not_intro h2),if_pos h];rfl
 ·unfold uU;rw[if_neg (not_not_intro h1),if_neg (not_not_intro h2),if_neg (not_not_intro h)]
theorem agx(p:Pa)(hp:iZ p):uU p<=3:=by
 have:=hp.n3;unfold uU
 repeat' split
 all_goals omega
theorem YF(p:Pa)(hp:iZ p)(hl:p.pre.length<1000):Ans 183 #[lV p] (uV (fP p)):=by
 intro w
 by_cases h3:p.n=3
 ·obtain⟨n3,n4,hn,he,h1⟩:=ac3 p.a p.b p.c ⟨(dW p).pre.toArray⟩ ⟨#[]⟩ (by
   show(dW p).pre.toArray.size < _;unfold dW;rw[if_neg (by omega)];simp;omega) (by have:=hp.c0;omega)
  have hG:fP p=⟨dW p,vM (dW p),false⟩:=by unfold fP;rw[if_pos h3]
  have hV:vM (dW p)=⟨p.a,p.b,n3,n4.data.toList⟩:=by
   rw[<-he];rfl
  have:=afl p.a p.b p.c n3 ⟨(dW p).pre.toArray⟩ n4 w h1;unfold lV;rw[h3,hG,hV];unfold uV;have e4:(⟨n4.data.toList.toArray⟩:ByteArray)=n4:=by cases n4;simp
  rw[e4];exact this
 ·have hn:=hp.n3;have hG:fP p=wU p p.n:=by unfold fP;rw[if_neg h3]
  rw[hG];exact afm p.a p.b p.c p.n _ _ _ _ _ _ ⟨(dW p).pre.toArray⟩ _ _ _ _ _ w (by simp;omega) (fun w=>Qc p hp p.n hn w)
def zZ(s:Int):Nat:=if s=1 then 179 else if s=2 then 180 else if s=3 then 181 else if s=4 then 182 else if s=5 then 184 else if s=6 then 187 else 183
theorem agy(s:Int)(hs:-1<=s/\s<=6)(p:Pa)(hp:iZ p)(hl:p.pre.length<1000):Ans (zZ s) #[lV p] (uV (Gm (if s<0 then 0 else s) p)):=by
 intro w;have hN:=YF p hp hl;have hss:s=-1\/s=0\/s=1\/s=2\/s=3\/s=4\/s=5\/s=6:=by omega
 rcases hss with rfl|rfl|rfl|rfl|rfl|rfl|rfl|rfl
 ·exact hN w
 ·exact hN w
 ·exact ac6 p.a p.b p.c p.n ⟨(dW p).pre.toArray⟩ w
 ·exact afg p.a p.b p.c p.n _ _ _ _ _ _ ⟨(dW p).pre.toArray⟩ _ _ _ _ _ w hN
 ·show Calls _ _ _ _ fun e w'=>e=.returned (uV (if(fP p).op=true then⟨qZ,qZ,false⟩ else⟨(fP p).to_,yJ,true⟩))/\_
  cases ho:(fP p).op with
  |true=>
   have hN':∀w,Calls prog 183 #[lV p] w fun e w'=>e=.returned (.agg #[.int .i64 (fP p).fr.major,.int .i64 (fP p).fr.minor,.int .i64 (fP p).fr.patch,.string ⟨(fP p).fr.pre.toArray⟩,.string ⟨#[]⟩,.int .i64 (fP p).to_.major,.int .i64 (fP p).to_.minor,.int .i64 (fP p).to_.patch,.string ⟨(fP p).to_.pre.toArray⟩,.string ⟨#[]⟩,.bool true])/\w.grownBy w' none:=fun w=>by
    have:=hN w;unfold uV at this;rw[ho]at this;exact this
   exact afh p.a p.b p.c p.n _ _ _ _ _ _ ⟨(dW p).pre.toArray⟩ _ _ _ _ w hN'
  |false=>
   have hN':∀w,Calls prog 183 #[lV p] w fun e w'=>e=.returned (.agg #[.int .i64 (fP p).fr.major,.int .i64 (fP p).fr.minor,.int .i64 (fP p).fr.patch,.string ⟨(fP p).fr.pre.toArray⟩,.string ⟨#[]⟩,.int .i64 (fP p).to_.major,.int .i64 (fP p).to_.minor,.int .i64 (fP p).to_.patch,.string ⟨(fP p).to_.pre.toArray⟩,.string ⟨#[]⟩,.bool false])/\w.grownBy w' none:=fun w=>by
    have:=hN w;unfold uV at this;rw[ho]at this;exact this
   exact afi p.a p.b p.c p.n _ _ _ _ _ _ ⟨(dW p).pre.toArray⟩ _ _ _ _ w hN'
 ·exact afn p.a p.b p.c p.n ⟨(dW p).pre.toArray⟩ w
 ·exact afp (uU p:Int) p.a p.b p.c p.n _ _ _ _ _ _ ⟨(dW p).pre.toArray⟩ _ _ _ _ _ w (agw p hp) (Qc p hp (uU p) (agx p hp))
 ·show Calls _ _ _ _ fun e w'=>e=.returned (uV (wU p (min p.n 2)))/\_
  have hA:=Qc p hp (min p.n 2) (by omega);exact afo p.a p.b p.c p.n (min p.n 2:Nat) _ _ _ _ _ _ ⟨(dW p).pre.toArray⟩ _ _ _ _ _ w (by have:=hp.n3;omega) hA
theorem agz(p q:Pa)(hq:iZ q)(hl:q.pre.length<1000):Ans 161 #[lV p,lV q] (uV (Dx p q)):=by
 intro w;exact afj p.a p.b p.c p.n ⟨(dW p).pre.toArray⟩ q.a q.b q.c q.n _ _ _ _ _ _ ⟨(dW q).pre.toArray⟩ _ _ _ _ _ w (YF q hq hl)
def isSp(c:UInt8):Bool:=decide (c=32)
def eu(l:List UInt8)(i:Nat):Bool:=decide (l[i]?=some 42) || (decide (l[i]?=some 120) || decide (l[i]?=some 88))
def pa0:Pa:=⟨0,0,0,0,[]⟩
def pa3(l:List UInt8)(j:Nat)(a b c:Int):Int × Nat × Pa :=
 if(aV l j).1=0 then(0,(aV l j).2.1,⟨3,a,b,c,(aV l j).2.2.1⟩) else((aV l j).1,(aV l j).2.1,pa0)
def lW(l:List UInt8)(j:Nat)(a b:Int):Int × Nat × Pa :=
 if l[j]?=some 46 then(if eu l (j+1)=true then(0,j+2,⟨2,a,b,0,[]⟩) else if(rdNum l (j+1)).1=0 then pa3 l (rdNum l (j+1)).2.2 a b (rdNum l (j+1)).2.1 else((rdNum l (j+1)).1,(rdNum l (j+1)).2.2,pa0))
 else(0,j,⟨2,a,b,0,[]⟩)
def lX(l:List UInt8)(j:Nat)(a:Int):Int × Nat × Pa :=
 if l[j]?=some 46 then(if eu l (j+1)=true then(0,j+2,⟨1,a,0,0,[]⟩) else if(rdNum l (j+1)).1=0 then lW l (rdNum l (j+1)).2.2 a (rdNum l (j+1)).2.1 else((rdNum l (j+1)).1,(rdNum l (j+1)).2.2,pa0))
 else(0,j,⟨1,a,0,0,[]⟩)
def ah(l:List UInt8)(i:Nat):Int × Nat × Pa :=
 if eu l i=true then(0,i+1,pa0) else if(rdNum l i).1=0 then lX l (rdNum l i).2.2 (rdNum l i).2.1 else((rdNum l i).1,(rdNum l i).2.2,pa0)
def ai(l:List UInt8)(i:Nat):Int × Nat :=
 if l[i]?=some 62 then(if l[i+1]?=some 61 then(1,i+2) else(3,i+1))
 else if l[i]?=some 60 then(if l[i+1]?=some 61 then(2,i+2) else(4,i+1))
 else if l[i]?=some 61 then(0,i+1) else if l[i]?=some 94 then(5,i+1) else if l[i]?=some 126 then(6,i+1) else(-1,i)
def lD(l:List UInt8)(i:Nat):Bool:=decide (l[i]?=some 124) && decide (l[i+1]?=some 124)
def dL(l:List UInt8)(i:Nat):Bool:=decide (l.length<=i) || lD l i
def ag(l:List UInt8)(i:Nat):Nat:=i+runN isSp l i
def jC(s:Int):Int:=if s<0 then 0 else s
def gG(l:List UInt8):Nat->Nat->List Te->Int × Nat × List Te
 | 0,i,acc=>(0,i,acc)
 | f+1,i,acc =>
  if dL l i=true then(0,i,acc) else
  if(ah l (ai l i).2).1=0 then
   (if((ai l i).1<0/\acc=[])/\(ah l (ai l i).2).2.1<ag l (ah l (ai l i).2).2.1/\l[ag l (ah l (ai l i).2).2.1]?=some 45 then
    (if ag l (ag l (ah l (ai l i).2).2.1+1)=ag l (ah l (ai l i).2).2.1+1 then(2,ag l (ah l (ai l i).2).2.1+1,acc) else
    if(ah l (ag l (ag l (ah l (ai l i).2).2.1+1))).1=0 then
     (if dL l (ag l (ah l (ag l (ag l (ah l (ai l i).2).2.1+1))).2.1)=true then(0,ag l (ah l (ag l (ag l (ah l (ai l i).2).2.1+1))).2.1,[⟨7,(ah l (ai l i).2).2.2⟩,⟨2,(ah l (ag l (ag l (ah l (ai l i).2).2.1+1))).2.2⟩])
     else(2,ag l (ah l (ag l (ag l (ah l (ai l i).2).2.1+1))).2.1,acc))
    else((ah l (ag l (ag l (ah l (ai l i).2).2.1+1))).1,(ah l (ag l (ag l (ah l (ai l i).2).2.1+1))).2.1,acc))
   else if ¬(ah l (ai l i).2).2.1<ag l (ah l (ai l i).2).2.1/\¬dL l (ag l (ah l (ai l i).2).2.1)=true then(2,ag l (ah l (ai l i).2).2.1,acc)
   else gG l f (ag l (ah l (ai l i).2).2.1) (acc++[⟨jC (ai l i).1,(ah l (ai l i).2).2.2⟩]))
  else((ah l (ai l i).2).1,(ah l (ai l i).2).2.1,acc)
def aQ(l:List UInt8):Nat->Nat->List Te->Int × Nat × List Te
 | 0,i,acc=>(0,i,acc)
 | f+1,i,acc =>
  if l.length<=i\/l[i]?=some 124 then(0,i,acc) else
  if(ah l (ai l i).2).1=0 then
   (if((ai l i).1<0/\acc=[])/\(ah l (ai l i).2).2.1<ag l (ah l (ai l i).2).2.1/\l[ag l (ah l (ai l i).2).2.1]?=some 45 then
    (if ag l (ag l (ah l (ai l i).2).2.1+1)=ag l (ah l (ai l i).2).2.1+1 then(2,ag l (ah l (ai l i).2).2.1+1,acc) else
    if(ah l (ag l (ag l (ah l (ai l i).2).2.1+1))).1=0 then(0,(ah l (ag l (ag l (ah l (ai l i).2).2.1+1))).2.1,[⟨7,(ah l (ai l i).2).2.2⟩,⟨2,(ah l (ag l (ag l (ah l (ai l i).2).2.1+1))).2.2⟩])
    else((ah l (ag l (ag l (ah l (ai l i).2).2.1+1))).1,(ah l (ag l (ag l (ah l (ai l i).2).2.1+1))).2.1,acc))
   else if ¬(ah l (ai l i).2).2.1<ag l (ah l (ai l i).2).2.1 then(0,ag l (ah l (ai l i).2).2.1,acc++[⟨jC (ai l i).1,(ah l (ai l i).2).2.2⟩])
   else aQ l f (ag l (ah l (ai l i).2).2.1) (acc++[⟨jC (ai l i).1,(ah l (ai l i).2).2.2⟩]))
  else((ah l (ai l i).2).1,(ah l (ai l i).2).2.1,acc)
def after(l:List UInt8)(r:Int × Nat × List Te):Int × Nat × List Te :=
 if r.1=0 then(if dL l (ag l r.2.1)=true then(0,ag l r.2.1,r.2.2) else(2,ag l r.2.1,r.2.2)) else r
theorem sW(l:List UInt8)(i:Nat):i<=ag l i:=by unfold ag;omega
theorem Qd(l:List UInt8)(i:Nat)(h:i<=l.length):ag l (ag l i)=ag l i:=by
 unfold ag;have:runN isSp l (i+runN isSp l i)=0:=Tu isSp l _ 0 (Nat.zero_le _) (fun hlt=>by
  have:=AX isSp l i (by simpa using hlt);simpa using this)
 omega
def same(x y:Int × Nat × List Te):Prop:=x.1=y.1/\x.2.1=y.2.1/\(x.1=0->x.2.2=y.2.2)
theorem agA(l:List UInt8)(i:Nat)(h:l[i]?=some 124):ai l i=(-1,i)/\(ah l i).1=2/\(ah l i).2.1=i:=by
 have hs:ai l i=(-1,i):=by unfold ai;simp[h]
 have hw:eu l i=false:=by unfold eu;simp[h]
 have hr:runN aY l i=0:=Tu aY l i 0 (Nat.zero_le _) (fun hlt=>by
  have:l[i+0]'hlt=124:=by
   have:=List.getElem?_eq_some_iff.1 h;obtain⟨_,e⟩:=this;simpa using e
  rw[this];decide)
 have hn:rdNum l i=(2,0,i):=by unfold rdNum;rw[if_pos hr]
 refine⟨hs,?_,?_⟩
 ·unfold ah;rw[hw,hn];rfl
 ·unfold ah;rw[hw,hn];rfl
theorem Dy(l:List UInt8)(i:Nat)(hi:i<=l.length)(h:(rdNum l i).1=0):i<(rdNum l i).2.2/\(rdNum l i).2.2<=l.length:=by
 have hr:=pF aY l i hi;unfold rdNum at h ⊢;split at h
 ·simp at h
 ·rename_i h1;split at h
  ·simp at h
  ·rename_i h2;split at h
   ·simp at h
   ·rename_i h3;rw[if_neg h1,if_neg h2,if_neg h3];simp only[];omega
theorem YG(c:UInt8)(st:Bool)(l:List UInt8)(i:Nat)(hi:i<=l.length)(h:(bC c st l i).1=0):i<=(bC c st l i).2.1/\(bC c st l i).2.1<=l.length:=by
 refine⟨?_,OO hi h⟩
 by_cases hc:l[i]?=some c
 ·rw[zK hc]at h ⊢;simp only at h ⊢;have hlt:=(List.getElem?_eq_some_iff.1 hc).1;have:=(Ir st l _ (i+1) rfl (by omega) h).1;omega
 ·rw[zL hc];simp
theorem agB(l:List UInt8)(i:Nat)(hi:i<=l.length)(h:(aV l i).1=0):i<=(aV l i).2.1/\(aV l i).2.1<=l.length:=by
 unfold aV at h ⊢
 by_cases h1:(bC 45 true l i).1=0
 ·rw[if_pos h1]at h ⊢;have p1:=YG 45 true l i hi h1
  by_cases h2:(bC 43 false l (bC 45 true l i).2.1).1=0
  ·rw[if_pos h2]at h ⊢;have p2:=YG 43 false l _ p1.2 h2;simp only[];omega
  ·rw[if_neg h2]at h;exact absurd h h2
 ·rw[if_neg h1]at h;exact absurd h h1
theorem lF{c:UInt8}(h:l[j]?=some c):j<l.length:=(List.getElem?_eq_some_iff.1 h).1
theorem J8(h:eu l i=true):i<l.length:=by
 unfold eu at h;simp only[Bool.or_eq_true,decide_eq_true_eq]at h
 rcases h with h|h|h<;>exact lF h
theorem agC(l:List UInt8)(j:Nat)(a b c:Int)(hj:j<=l.length)(h:(pa3 l j a b c).1=0):j<=(pa3 l j a b c).2.1/\(pa3 l j a b c).2.1<=l.length:=by
 unfold pa3 at h ⊢
 by_cases h1:(aV l j).1=0
 ·rw[if_pos h1];exact agB l j hj h1
 ·rw[if_neg h1]at h;exact absurd h h1
theorem agD(l:List UInt8)(j:Nat)(a b:Int)(hj:j<=l.length)(h:(lW l j a b).1=0):j<=(lW l j a b).2.1/\(lW l j a b).2.1<=l.length:=by
 unfold lW at h ⊢
 by_cases h1:l[j]?=some 46
 ·have hl:=lF h1;rw[if_pos h1]at h ⊢
  by_cases h2:eu l (j+1)=true
  ·have:=J8 h2;rw[if_pos h2];simp only[];omega
  ·rw[if_neg h2]at h ⊢
   by_cases h3:(rdNum l (j+1)).1=0
   ·have p1:=Dy l (j+1) (by omega) h3;rw[if_pos h3]at h ⊢;have p2:=agC l _ a b _ p1.2 h;omega
   ·rw[if_neg h3]at h;exact absurd h h3
 ·rw[if_neg h1];simp only[];omega
theorem agE(l:List UInt8)(j:Nat)(a:Int)(hj:j<=l.length)(h:(lX l j a).1=0):j<=(lX l j a).2.1/\(lX l j a).2.1<=l.length:=by
 unfold lX at h ⊢
 by_cases h1:l[j]?=some 46
 ·have hl:=lF h1;rw[if_pos h1]at h ⊢
  by_cases h2:eu l (j+1)=true
  ·have:=J8 h2;rw[if_pos h2];simp only[];omega
  ·rw[if_neg h2]at h ⊢
   by_cases h3:(rdNum l (j+1)).1=0
   ·have p1:=Dy l (j+1) (by omega) h3;rw[if_pos h3]at h ⊢;have p2:=agD l _ a _ p1.2 h;omega
   ·rw[if_neg h3]at h;exact absurd h h3
 ·rw[if_neg h1];simp only[];omega
theorem Gn(l:List UInt8)(i:Nat)(hi:i<=l.length)(h:(ah l i).1=0):i<(ah l i).2.1/\(ah l i).2.1<=l.length:=by
 unfold ah at h ⊢
 by_cases h2:eu l i=true
 ·have:=J8 h2;rw[if_pos h2];simp only[];omega
 ·rw[if_neg h2]at h ⊢
  by_cases h3:(rdNum l i).1=0
  ·have p1:=Dy l i hi h3;rw[if_pos h3]at h ⊢;have p2:=agE l _ _ p1.2 h;omega
  ·rw[if_neg h3]at h;exact absurd h h3
theorem Gp(l:List UInt8)(i:Nat)(hi:i<=l.length):i<=(ai l i).2/\(ai l i).2<=l.length:=by
 unfold ai
 repeat' split
 all_goals simp only[]
 ·rename_i h1 h2;have:=lF h2;omega
 ·rename_i h1 h2;have:=lF h1;omega
 ·rename_i h0 h1 h2;have:=lF h2;omega
 ·rename_i h0 h1 h2;have:=lF h1;omega
 ·rename_i h;have:=lF h;omega
 ·rename_i h;have:=lF h;omega
 ·rename_i h;have:=lF h;omega
 ·omega
theorem rq(l:List UInt8)(i:Nat)(hi:i<=l.length):ag l i<=l.length:=pF isSp l i hi
theorem YH(l:List UInt8):∀(f i:Nat) (acc:List Te),l.length<f+i->i<=l.length->ag l i=i->same (after l (aQ l f i acc)) (gG l f i acc)
 | 0,i,acc,hf,hi,_=>by omega
 | f+1,i,acc,hf,hi,hsk=>by
  by_cases he:dL l i=true
  ·have hp:l.length<=i\/l[i]?=some 124:=by
    unfold dL lD at he;simp only[Bool.or_eq_true,Bool.and_eq_true,decide_eq_true_eq]at he
    rcases he with h|h
    ·exact Or.inl h
    ·exact Or.inr h.1
   have e1:aQ l (f+1) i acc=(0,i,acc):=by unfold aQ;rw[if_pos hp]
   have e2:gG l (f+1) i acc=(0,i,acc):=by unfold gG;rw[if_pos he]
   rw[e1,e2];unfold after;simp only[if_true,hsk,he];exact⟨rfl,rfl,fun _=>rfl⟩
  ·by_cases hb:l[i]?=some 124
   ·obtain⟨b1,b2,b3⟩:=agA l i hb;have e1:aQ l (f+1) i acc=(0,i,acc):=by unfold aQ;rw[if_pos (Or.inr hb)]
    have e2:gG l (f+1) i acc=(2,i,acc):=by
     unfold gG;rw[if_neg he,b1];simp only[];rw[b2,if_neg (by decide),b3]
    rw[e1,e2];unfold after;simp only[if_true,hsk,if_neg he];exact⟨rfl,rfl,fun h=>by cases h⟩
   ·have hnl:¬l.length<=i:=by
     intro h;apply he;unfold dL;simp[h]
    have pg:¬(l.length<=i\/l[i]?=some 124):=fun h=>h.elim hnl hb
    have sp:=Gp l i hi;unfold aQ gG;rw[if_neg pg,if_neg he]
    by_cases hr:(ah l (ai l i).2).1=0
    ·have pp:=Gn l _ sp.2 hr;have hkl:=rq l _ pp.2;have hkg:=sW l (ah l (ai l i).2).2.1;rw[if_pos hr,if_pos hr]
     by_cases hbt:((ai l i).1<0/\acc=[])/\(ah l (ai l i).2).2.1<ag l (ah l (ai l i).2).2.1/\l[ag l (ah l (ai l i).2).2.1]?=some 45
     ·rw[if_pos hbt,if_pos hbt]
      by_cases hm:ag l (ag l (ah l (ai l i).2).2.1+1)=ag l (ah l (ai l i).2).2.1+1
      ·rw[if_pos hm,if_pos hm];unfold after;rw[if_neg (by simp)];exact⟨rfl,rfl,fun h=>by cases h⟩
      ·rw[if_neg hm,if_neg hm]
       by_cases hq:(ah l (ag l (ag l (ah l (ai l i).2).2.1+1))).1=0
       ·rw[if_pos hq,if_pos hq];unfold after;simp only[if_true]
        by_cases hz:dL l (ag l (ah l (ag l (ag l (ah l (ai l i).2).2.1+1))).2.1)=true
        ·rw[if_pos hz,if_pos hz];exact⟨rfl,rfl,fun _=>rfl⟩
        ·rw[if_neg hz,if_neg hz];exact⟨rfl,rfl,fun h=>by cases h⟩
       ·rw[if_neg hq,if_neg hq];unfold after;rw[if_neg hq];exact⟨rfl,rfl,fun h=>absurd h hq⟩
     ·rw[if_neg hbt,if_neg hbt]
      by_cases hg:(ah l (ai l i).2).2.1<ag l (ah l (ai l i).2).2.1
      ·rw[if_neg (not_not_intro hg),if_neg (fun h=>h.1 hg)];exact YH l f _ _ (by omega) hkl (Qd l _ pp.2)
      ·rw[if_pos hg];unfold after;simp only[if_true];rw[Qd l _ pp.2]
       by_cases hz:dL l (ag l (ah l (ai l i).2).2.1)=true
       ·rw[if_pos hz,if_neg (fun h=>h.2 hz)]
        cases f with
        |zero=>omega
        |succ f=>
         have e2:gG l (f+1) (ag l (ah l (ai l i).2).2.1) (acc++[⟨jC (ai l i).1,(ah l (ai l i).2).2.2⟩])=(0,ag l (ah l (ai l i).2).2.1,acc++[⟨jC (ai l i).1,(ah l (ai l i).2).2.2⟩]):=by unfold gG;rw[if_pos hz]
         rw[e2];exact⟨rfl,rfl,fun _=>rfl⟩
       ·rw[if_neg hz,if_pos ⟨hg,hz⟩];exact⟨rfl,rfl,fun h=>by cases h⟩
    ·rw[if_neg hr,if_neg hr];unfold after;rw[if_neg hr];exact⟨rfl,rfl,fun h=>absurd h hr⟩
theorem Qe(l:List UInt8)(i:Nat)(h:(rdNum l i).1=0):0<=(rdNum l i).2.1/\(rdNum l i).2.1<=999999999:=by
 unfold rdNum at h ⊢;split at h
 ·simp at h
 ·rename_i h1;split at h
  ·simp at h
  ·rename_i h2;split at h
   ·simp at h
   ·rename_i h3;rw[if_neg h1,if_neg h2,if_neg h3];simp only[];have:=Ei (au l i (runN aY l i)) (AY aY l i);omega
theorem agF(c:UInt8)(st:Bool)(l:List UInt8)(i:Nat)(hi:i<=l.length)(h:(bC c st l i).1=0):iq st (bC c st l i).2.2=true:=by
 unfold bC at h ⊢
 by_cases hc:l[i]?=some c
 ·rw[if_pos hc]at h ⊢;have hlt:=lF hc
  by_cases h2:(aX st l (i+1)).1=0
  ·rw[if_pos h2];have:=(Ir st l _ (i+1) rfl (by omega) h2).2.2;unfold iq;simp only[];rw[this];simp
  ·rw[if_neg h2]at h;exact absurd h h2
 ·rw[if_neg hc];rfl
theorem agG(l:List UInt8)(i:Nat)(hi:i<=l.length)(h:(aV l i).1=0):iq true (aV l i).2.2.1=true:=by
 unfold aV at h ⊢
 by_cases h1:(bC 45 true l i).1=0
 ·rw[if_pos h1]at h ⊢
  by_cases h2:(bC 43 false l (bC 45 true l i).2.1).1=0
  ·rw[if_pos h2];exact agF 45 true l i hi h1
  ·rw[if_neg h2]at h;exact absurd h h2
 ·rw[if_neg h1]at h;exact absurd h h1
theorem agH:iZ pa0:=⟨by decide,by decide,by decide,by decide,fun _=>rfl,fun _=>rfl,fun _=>⟨rfl,rfl⟩,rfl⟩
theorem agI(l:List UInt8)(j:Nat)(a b:Int)(hj:j<=l.length)(ha:0<=a/\a<=999999999)(hb:0<=b/\b<=999999999)(h:(lW l j a b).1=0):iZ (lW l j a b).2.2:=by
 have base:iZ ⟨2,a,b,0,[]⟩:=⟨by simp,ha,hb,by simp,fun h=>by simp at h,fun h=>by simp at h,fun _=>⟨rfl,rfl⟩,rfl⟩;unfold lW at h ⊢
 by_cases h1:l[j]?=some 46
 ·have hl:=lF h1;rw[if_pos h1]at h ⊢
  by_cases h2:eu l (j+1)=true
  ·rw[if_pos h2];exact base
  ·rw[if_neg h2]at h ⊢
   by_cases h3:(rdNum l (j+1)).1=0
   ·have p1:=Dy l (j+1) (by omega) h3;have v1:=Qe l (j+1) h3;rw[if_pos h3]at h ⊢;unfold pa3 at h ⊢
    by_cases h4:(aV l (rdNum l (j+1)).2.2).1=0
    ·rw[if_pos h4];exact⟨by simp,ha,hb,v1,fun h=>by simp at h,fun h=>by simp at h,fun h=>by simp at h,agG l _ p1.2 h4⟩
    ·rw[if_neg h4]at h;exact absurd h h4
   ·rw[if_neg h3]at h;exact absurd h h3
 ·rw[if_neg h1];exact base
theorem agJ(l:List UInt8)(j:Nat)(a:Int)(hj:j<=l.length)(ha:0<=a/\a<=999999999)(h:(lX l j a).1=0):iZ (lX l j a).2.2:=by
 have base:iZ ⟨1,a,0,0,[]⟩:=⟨by simp,ha,by simp,by simp,fun h=>by simp at h,fun _=>rfl,fun _=>⟨rfl,rfl⟩,rfl⟩;unfold lX at h ⊢
 by_cases h1:l[j]?=some 46
 ·have hl:=lF h1;rw[if_pos h1]at h ⊢
  by_cases h2:eu l (j+1)=true
  ·rw[if_pos h2];exact base
  ·rw[if_neg h2]at h ⊢
   by_cases h3:(rdNum l (j+1)).1=0
   ·have p1:=Dy l (j+1) (by omega) h3;rw[if_pos h3]at h ⊢;exact agI l _ a _ p1.2 ha (Qe l (j+1) h3) h
   ·rw[if_neg h3]at h;exact absurd h h3
 ·rw[if_neg h1];exact base
theorem J9(l:List UInt8)(i:Nat)(hi:i<=l.length)(h:(ah l i).1=0):iZ (ah l i).2.2:=by
 unfold ah at h ⊢
 by_cases h2:eu l i=true
 ·rw[if_pos h2];exact agH
 ·rw[if_neg h2]at h ⊢
  by_cases h3:(rdNum l i).1=0
  ·have p1:=Dy l i hi h3;rw[if_pos h3]at h ⊢;exact agJ l _ _ p1.2 (Qe l i h3) h
  ·rw[if_neg h3]at h;exact absurd h h3
theorem agK(c:UInt8)(w:World):Calls prog 136 #[.int .u8 (c.toNat:Int)] w fun e w'=>e=.returned (.bool (isSp c))/\w'=w:=by
 go_enter func136,ntmps136;go_wp2
 all_goals go_ret
 all_goals (refine⟨bu ?_,rfl⟩;rw[Bool.eq_iff_iff];unfold isSp;simp[<-UInt8.toNat_inj];try omega)
theorem agL:∀args w,(callFunc 136 args).run prog w=.ok (.enter 136 args) w:=enters_of func136 (by kernel_rfl) rfl
theorem agM(b:Nat)(s:ByteArray)(i:Nat)(w:World)(hi:i<=s.size)(h:RS b s i w)(hs:s.size<2 ^ 62) :
  Calls prog 135 #[.pointer (some ⟨b,0,none⟩),.func (.func 136) #[] #[]] w fun e w'=>e=.returned (.string ⟨(au s.data.toList i (runN isSp s.data.toList i)).toArray⟩)/\RS b s (i+runN isSp s.data.toList i) w'/\w.grownBy w' (some b):=MX _ isSp agL agK b s i w hi h hs
theorem YI(h:l[i]?=some 42):eu l i=true:=by unfold eu;rw[decide_eq_true h];rfl
theorem YJ(h:l[i]?=some 120):eu l i=true:=by unfold eu;rw[h];rfl
theorem YK(h:l[i]?=some 88):eu l i=true:=by unfold eu;rw[h];rfl
theorem YL(h0:¬l[i]?=some 42)(h1:¬l[i]?=some 120)(h2:¬l[i]?=some 88):eu l i=false:=by unfold eu;rw[decide_eq_false h0,decide_eq_false h1,decide_eq_false h2];rfl
theorem Qg(b:Nat)(s:ByteArray)(i:Nat)(w:World)(hi:i<=s.size)(h:RS b s i w)(hs:s.size<2 ^ 62) :
  Calls prog 108 #[.pointer (some ⟨b,0,none⟩)] w fun e w'=>e=.returned (.bool (decide (i<ag s.data.toList i)))/\RS b s (ag s.data.toList i) w'/\w.grownBy w' (some b):=by
 have CR:=ae (agM b s i w hi h hs);have hsl:s.data.toList.length=s.size:=by simp
 have hle:i+runN isSp s.data.toList i<=s.size:=by have:=pF isSp s.data.toList i (by rw[hsl];exact hi);rw[hsl]at this;exact this
 have hln:=tZ s.data.toList i (runN isSp s.data.toList i) (by rw[hsl];exact hle);unfold ag;obtain⟨k,hk⟩:=zN (runN isSp s.data.toList i);rw[hk]at CR hln ⊢;obtain⟨X,hX⟩:∃X:ByteArray,X=⟨(au s.data.toList i k).toArray⟩:=⟨_,rfl⟩;rw[<-hX]at CR;have iD:X.size=k:=by rw[hX];show(au s.data.toList i k).toArray.size=k;simpa using hln
 clear hk hX hln hsl hle h hi
 by_cases hk0:k=0
 ·have e1:=vT (iD.trans hk0);have HZ:Hd (decide (i<i+k)=false):=by show _=_;rw[hk0];simp
  clear hk0 iD;go_enter func108,ntmps108;go_wp2_with (go_at_call 135;refine CR.o.mono ?_);rintro e w1 ⟨rfl,hr1,hg1⟩;have HF:Hd (RS b s (i+k) w1/\w.grownBy w1 (some b)):=⟨hr1,hg1⟩;clear hr1 hg1;go_wp2;go_ret;exact⟨bu HZ.o.symm,HF.o.1,HF.o.2⟩
 ·have e1:=nR (fun h=>hk0 (iD.symm.trans h));have HZ:Hd (decide (i<i+k)=true):=by show _=_;simp;omega
  clear hk0 iD;go_enter func108,ntmps108;go_wp2_with (go_at_call 135;refine CR.o.mono ?_);rintro e w1 ⟨rfl,hr1,hg1⟩;have HF:Hd (RS b s (i+k) w1/\w.grownBy w1 (some b)):=⟨hr1,hg1⟩;clear hr1 hg1;go_wp2;go_ret;exact⟨bu HZ.o.symm,HF.o.1,HF.o.2⟩
theorem agN(b:Nat)(s:ByteArray)(i:Nat)(w:World)(hi:i<=s.size)(h:RS b s i w)(hs:s.size<2 ^ 62) :
  Calls prog 189 #[.pointer (some ⟨b,0,none⟩)] w fun e w'=>e=.returned (.bool (eu s.data.toList i))/\RS b s (if eu s.data.toList i=true then i+1 else i) w'/\w.grownBy w' (some b):=by
 by_cases q0:s.data.toList[i]?=some 42
 ·have C0:=ae (fun w (h:RS b s i w)=>uj b s i 42 w q0 h hs);have HZ:=ae (YI q0);rw[HZ.o];have HR:=ae h;have HG:Hd (w.grownBy w (some b)):=ax _ _;clear h hi hs q0;go_enter func189,ntmps189;go_wp2_with (go_at_call 109;refine(C0.o _ HR.o).mono ?_);rintro e w1 ⟨rfl,hr,hg⟩;replace HR:=ae hr;replace HG:=ae (ak HG.o hg);clear hr hg;go_wp2;go_ret;exact⟨rfl,HR.o,HG.o⟩
 ·by_cases q1:s.data.toList[i]?=some 120
  ·have C0:=ae (fun w (h:RS b s i w)=>pJ b s i 42 w hi q0 h hs);have C1:=ae (fun w (h:RS b s i w)=>uj b s i 120 w q1 h hs);have HZ:=ae (YJ q1);rw[HZ.o];have HR:=ae h;have HG:Hd (w.grownBy w (some b)):=ax _ _;clear h hi hs q0 q1;go_enter func189,ntmps189;go_wp2_with (go_at_call 109;refine(C0.o _ HR.o).mono ?_);rintro e w1 ⟨rfl,hr,hg⟩;replace HR:=ae hr;replace HG:=ae (ak HG.o hg);clear hr hg;go_wp2_with (go_at_call 109;refine(C1.o _ HR.o).mono ?_);rintro e w2 ⟨rfl,hr,hg⟩;replace HR:=ae hr;replace HG:=ae (ak HG.o hg);clear hr hg;go_wp2;go_ret;exact⟨rfl,HR.o,HG.o⟩
  ·by_cases q2:s.data.toList[i]?=some 88
   ·have C0:=ae (fun w (h:RS b s i w)=>pJ b s i 42 w hi q0 h hs);have C1:=ae (fun w (h:RS b s i w)=>pJ b s i 120 w hi q1 h hs);have C2:=ae (fun w (h:RS b s i w)=>uj b s i 88 w q2 h hs);have HZ:=ae (YK q2);rw[HZ.o];have HR:=ae h;have HG:Hd (w.grownBy w (some b)):=ax _ _;clear h hi hs q0 q1 q2;go_enter func189,ntmps189;go_wp2_with (go_at_call 109;refine(C0.o _ HR.o).mono ?_);rintro e w1 ⟨rfl,hr,hg⟩;replace HR:=ae hr;replace HG:=ae (ak HG.o hg);clear hr hg;go_wp2_with (go_at_call 109;refine(C1.o _ HR.o).mono ?_);rintro e w2 ⟨rfl,hr,hg⟩;replace HR:=ae hr;replace HG:=ae (ak HG.o hg);clear hr hg;go_wp2_with (go_at_call 109;refine(C2.o _ HR.o).mono ?_);rintro e w3 ⟨rfl,hr,hg⟩;replace HR:=ae hr;replace HG:=ae (ak HG.o hg);clear hr hg;go_wp2;go_ret;exact⟨rfl,HR.o,HG.o⟩
   ·have C0:=ae (fun w (h:RS b s i w)=>pJ b s i 42 w hi q0 h hs);have C1:=ae (fun w (h:RS b s i w)=>pJ b s i 120 w hi q1 h hs);have C2:=ae (fun w (h:RS b s i w)=>pJ b s i 88 w hi q2 h hs);have HZ:=ae (YL q0 q1 q2);rw[HZ.o];have HR:=ae h;have HG:Hd (w.grownBy w (some b)):=ax _ _;clear h hi hs q0 q1 q2;go_enter func189,ntmps189;go_wp2_with (go_at_call 109;refine(C0.o _ HR.o).mono ?_);rintro e w1 ⟨rfl,hr,hg⟩;replace HR:=ae hr;replace HG:=ae (ak HG.o hg);clear hr hg;go_wp2_with (go_at_call 109;refine(C1.o _ HR.o).mono ?_);rintro e w2 ⟨rfl,hr,hg⟩;replace HR:=ae hr;replace HG:=ae (ak HG.o hg);clear hr hg;go_wp2_with (go_at_call 109;refine(C2.o _ HR.o).mono ?_);rintro e w3 ⟨rfl,hr,hg⟩;replace HR:=ae hr;replace HG:=ae (ak HG.o hg);clear hr hg;go_wp2;go_ret;exact⟨rfl,HR.o,HG.o⟩
theorem PB.f(h:PB A a b c P n w)(o:Nat):w.frozen? ⟨A,o,none⟩=false:=Lib.frozen_of_heap h o
theorem PB.growb(h:PB A a b c P n w)(hg:w.grownBy w' (some q))(hn:A≠q):PB A a b c P n w':=by
 unfold PB at h ⊢;rw[hg.block A ((bJ h)) (by simpa using hn)];exact h
theorem PB.other{V:Nat}(h:PB A a b c P n w)(hn:A≠V)(o:Nat)(x:Value):PB A a b c P n (w.setCell ⟨V,o,none⟩ x):=by
 unfold PB at h ⊢;rw[heap_setCell_other w _ A x (by simpa using hn)];exact h
theorem PB.set0(h:PB A a b c P n w)(y:Int):PB A y b c P n (w.setCell ⟨A,0,none⟩ (.int .i64 y)):=by
 unfold PB at h ⊢;simp[World.setCell,Array.getElem?_modify,h]
theorem PB.set1(h:PB A a b c P n w)(y:Int):PB A a y c P n (w.setCell ⟨A,1,none⟩ (.int .i64 y)):=by
 unfold PB at h ⊢;simp[World.setCell,Array.getElem?_modify,h]
theorem PB.set2(h:PB A a b c P n w)(y:Int):PB A a b y P n (w.setCell ⟨A,2,none⟩ (.int .i64 y)):=by
 unfold PB at h ⊢;simp[World.setCell,Array.getElem?_modify,h]
theorem PB.set3(h:PB A a b c P n w)(y:ByteArray):PB A a b c y n (w.setCell ⟨A,3,none⟩ (.string y)):=by
 unfold PB at h ⊢;simp[World.setCell,Array.getElem?_modify,h]
theorem PB.set5(h:PB A a b c P n w)(y:Int):PB A a b c P y (w.setCell ⟨A,5,none⟩ (.int .i64 y)):=by
 unfold PB at h ⊢;simp[World.setCell,Array.getElem?_modify,h]
def Dz(w:World)(A:Nat)(y1 y2 y3:Int)(x4:ByteArray)(n:Int):World:=(((((w.setCell ⟨A,0,none⟩ (.int .i64 y1)).setCell ⟨A,1,none⟩ (.int .i64 y2)).setCell ⟨A,2,none⟩ (.int .i64 y3)).setCell ⟨A,3,none⟩ (.string x4)).setCell ⟨A,4,none⟩ (.string ⟨#[]⟩)).setCell ⟨A,5,none⟩ (.int .i64 n)
theorem agO(h:PB A z1 z2 z3 z4 m w)(y1 y2 y3:Int)(x4:ByteArray)(n:Int):PB A y1 y2 y3 x4 n (Dz w A y1 y2 y3 x4 n):=by
 unfold PB at h ⊢;simp[Dz,World.setCell,Array.getElem?_modify,h]
theorem agP{b:Nat}(h:RS b s j w)(hn:b≠A)(y1 y2 y3:Int)(x4:ByteArray)(n:Int):RS b s j (Dz w A y1 y2 y3 x4 n):=(((((h.other hn _ _).other hn _ _).other hn _ _).other hn _ _).other hn _ _).other hn _ _
theorem agQ{b:Nat}(h:w.grownBy W (some b))(hA:w.heap.size<=A)(y1 y2 y3:Int)(x4:ByteArray)(n:Int):w.grownBy (Dz W A y1 y2 y3 x4 n) (some b):=dQ (dQ (dQ (dQ (dQ (dQ h hA _ _) hA _ _) hA _ _) hA _ _) hA _ _) hA _ _
def wV(x1 x2 x3:Int)(P:ByteArray)(n:Int):Value:=.agg #[.int .i64 x1,.int .i64 x2,.int .i64 x3,.string P,.string ⟨#[]⟩,.int .i64 n]
def YM(b:Nat)(s:ByteArray)(R:Int × Nat × Pa)(w:World)(e:Ending)(w':World):Prop :=
 ∃(x1 x2 x3:Int) (P:ByteArray) (n:Int),e=.returned (.tuple #[.agg #[.int .i64 x1,.int .i64 x2,.int .i64 x3,.string P,.string ⟨#[]⟩,.int .i64 n],.int .i64 R.1])/\RS b s R.2.1 w'/\w.grownBy w' (some b)/\(R.1=0->wV x1 x2 x3 P n=lV R.2.2)
def wK(x:Bool)(i:Nat):Nat:=if x=true then i+1 else i
structure PY(b A C:Nat)(s:ByteArray)(w:World)(j:Nat)(x1 x2 x3 n:Int)(W:World):Prop where
 rs:RS b s j W
 pc:PB C x1 x2 x3 ⟨#[48]⟩ n W
 pa:PB A 0 0 0 ⟨#[]⟩ 0 W
 gw:w.grownBy W (some b)
theorem PY.go{b C:Nat}{j':Nat}{x1 x2 x3:Int}{W':World}(h:PY b A C s w j x1 x2 x3 n W)(hr:RS b s j' W')(hg:W.grownBy W' (some b))(hn:b≠C/\b≠A/\C≠A/\A≠C/\C≠b/\A≠b):PY b A C s w j' x1 x2 x3 n W' :=
 ⟨hr,h.pc.growb hg hn.2.2.2.2.1,h.pa.growb hg hn.2.2.2.2.2,ak h.gw hg⟩
theorem YN(b:Nat)(s:ByteArray)(i:Nat)(w:World)(hi:i<=s.size)(h:RS b s i w)(hs:s.size<=281474976710656) :
  Calls prog 160 #[.pointer (some ⟨b,0,none⟩)] w (YM b s (ah s.data.toList i) w):=by
 obtain⟨l,hl⟩:∃l,l=s.data.toList:=⟨_,rfl⟩;have hll:l.length=s.size:=by rw[hl];simp
 have dG:=ae hll;obtain⟨R,hR⟩:=zN (ah l i);rw[<-hl,hR];have HR:Hd (R=if eu l i=true then(0,i+1,pa0) else if(rdNum l i).1=0 then lX l (rdNum l i).2.2 (rdNum l i).2.1 else((rdNum l i).1,(rdNum l i).2.2,pa0)):=hR.symm;have CN:Hd (∀i w,i<=s.size->RS b s i w->Calls prog 112 #[.pointer (some ⟨b,0,none⟩)] w fun e w'=>e=.returned (.tuple #[.int .i64 (rdNum l i).2.1,.int .i64 (rdNum l i).1])/\RS b s (rdNum l i).2.2 w'/\w.grownBy w' (some b)):=fun i w hi h=>by rw[hl];exact Vp b s i w hi h (by omega)
 have TY:=ae (fun i w (hc:l[i]?=some 46) (h:RS b s i w)=>uj b s i 46 w (by rw[<-hl];exact hc) h (by omega));have TN:Hd (∀i w,i<=s.size->¬l[i]?=some 46->RS b s i w->Calls prog 109 #[.pointer (some ⟨b,0,none⟩),.string ⟨#[46]⟩] w fun e w'=>e=.returned (.bool false)/\RS b s i w'/\w.grownBy w' (some b)):=fun i w hi hc h=>pJ b s i 46 w hi (by rw[<-hl];exact hc) h (by omega)
 have CW:Hd (∀i w,i<=s.size->RS b s i w->Calls prog 189 #[.pointer (some ⟨b,0,none⟩)] w fun e w'=>e=.returned (.bool (eu l i))/\RS b s (wK (eu l i) i) w'/\w.grownBy w' (some b)):=fun i w hi h=>by rw[hl];exact agN b s i w hi h (by omega)
 have CT:Hd (∀i w,i<=s.size->RS b s i w->Calls prog 82 #[.pointer (some ⟨b,0,none⟩)] w fun e w'=>e=.returned (.tuple #[.string ⟨(aV l i).2.2.1.toArray⟩,.string ⟨(aV l i).2.2.2.toArray⟩,.int .i64 (aV l i).1])/\RS b s (aV l i).2.1 w'/\w.grownBy w' (some b)):=fun i w hi h=>by rw[hl];exact Xp b s i w hi h hs
 have CL:=ae Cj;have ES:Hd (∀i,i<=s.size->(rdNum l i).2.2<=s.size):=fun i hi=>by have:=Vw l i (by rw[hll];exact hi);rw[hll]at this;exact this
 have Ko:Hd (∀i,l[i]?=some 46->i+1<=s.size):=fun i hc=>by have:=lF hc;rw[hll]at this;exact this
 have HI:=ae h;have sG:=ae hi;have uX:Hd (b<w.heap.size):=by obtain⟨t,h⟩:=h;exact(bJ h)
 clear hl hll hR h hs hi;go_enter func160,ntmps160;go_wp2_with (go_at_call 130;refine(CL.o _).mono ?_);rintro e w1 ⟨rfl,hg⟩;obtain⟨A,hA⟩:=zN (w.heap.size);have wG:Hd (PB A 0 0 0 ⟨#[]⟩ 0 w1):=by
  refine PB.grow ?_ hg;unfold PB;rw[<-hA];exact heap_alloc_new w _
 have HG:=ae (ak (aH (ax w none) _) hg);have HA:Hd (w.heap.size<=A/\b<A/\A<w1.heap.size):=⟨Nat.le_of_eq hA,by rw[<-hA];exact uX.o,(bJ wG.o)⟩
 try rw[hA]
 clear hA hg;obtain⟨C,hC⟩:=zN (w1.heap.size);go_wp2_with (go_at_call 188;refine(NJ _ _ (by simp;omega)).mono ?_);rintro e w2 ⟨rfl,hg⟩;have Kq:Hd (PB C 0 0 0 ⟨#[48]⟩ 0 w2):=by
  refine PB.grow ?_ hg;unfold PB;rw[<-hC];exact heap_alloc_new w1 _
 replace wG:=ae ((wG.o.grow (aH (ax w1 none) _)).grow hg);replace HG:=ae (ak HG.o (ak (aH (ax w1 none) _) hg));replace HA:Hd (w.heap.size<=A/\b<A/\A<C):=⟨HA.o.1,HA.o.2.1,by rw[<-hC];exact HA.o.2.2⟩;replace HI:=ae (HI.o.grow HG.o)
 try rw[hC]
 clear hC hg;have eG:Hd (b≠C/\b≠A/\C≠A/\A≠C/\C≠b/\A≠b):=by have:=HA.o;refine⟨?_,?_,?_,?_,?_,?_⟩<;>omega
 have wW:Hd (w.heap.size<=C/\w.heap.size<=A):=by have:=HA.o;exact⟨by omega,this.1⟩
 have END:Hd (∀(W:World) (j:Nat) (y1 y2 y3:Int) (P:ByteArray) (n E:Int),RS b s j W->PB A 0 0 0 ⟨#[]⟩ 0 W->w.grownBy W (some b)->E=R.1->j=R.2.1->(E=0->wV y1 y2 y3 P n=lV R.2.2)->PB A y1 y2 y3 P n (Dz W A y1 y2 y3 P n)/\YM b s R w (.returned (.tuple #[.agg #[.int .i64 y1,.int .i64 y2,.int .i64 y3,.string P,.string ⟨#[]⟩,.int .i64 n],.int .i64 E])) (Dz W A y1 y2 y3 P n)):=by
  intro W j y1 y2 y3 P n E h1 h2 h3 h4 h5 h6;subst h4 h5;exact⟨agO h2 _ _ _ _ _,y1,y2,y3,P,n,rfl,agP h1 eG.o.2.1 _ _ _ _ _,agQ h3 wW.o.2 _ _ _ _ _,h6⟩
 go_wp2;go_loopw [13] (fun vi wr=>∃(k j:Nat) (x1 x2 x3 n:Int),vi=.int .i64 k/\j<=s.size/\RS b s j wr/\PB C x1 x2 x3 ⟨#[48]⟩ n wr/\PB A 0 0 0 ⟨#[]⟩ 0 wr/\w.grownBy wr (some b)/\((k=0/\j=i/\x1=0/\x2=0/\x3=0/\n=0)\/(k=1/\R=lX l j x1/\x2=0/\x3=0/\n=1)\/(k=2/\R=lW l j x1 x2/\x3=0/\n=2)\/(k=3/\R=pa3 l j x1 x2 x3/\n=3))) (fun vi _=>3-(intOf vi).toNat)
 case atStart=>exact⟨0,i,0,0,0,0,rfl,sG.o,HI.o,Kq.o,wG.o,iy HG.o _,Or.inl ⟨rfl,rfl,rfl,rfl,rfl,rfl⟩⟩
 case round=>
  obtain⟨k,j,x1,x2,x3,n,rfl,hj,hrs,hpc,hpa,hg,hcase⟩:=hrel;clear HI Kq wG HG;have HJ:=ae hj;have HT:Hd (PY b A C s w j x1 x2 x3 n wr):=⟨hrs,hpc,hpa,hg⟩;clear hj hrs hpc hpa hg;have ENDK:Hd (∀(W:World) (j k:Nat) (x1 x2 x3 n:Int),PY b A C s w j x1 x2 x3 n W->R=(0,j,⟨k,x1,x2,x3,[]⟩)->wV x1 x2 x3 ⟨#[48]⟩ n=lV ⟨k,x1,x2,x3,[]⟩->_):=fun W j k x1 x2 x3 n h hR hv=>END.o W j x1 x2 x3 ⟨#[48]⟩ n 0 h.rs h.pa h.gw (by rw[hR]) (by rw[hR]) (fun _=>by rw[hR];exact hv)
  rcases hcase with⟨rfl,rfl,rfl,rfl,rfl,rfl⟩|⟨rfl,hrk,rfl,rfl,rfl⟩|⟨rfl,hrk,rfl,rfl⟩|⟨rfl,hr3,rfl⟩
  case' inr.inr.inr=>
   have Aa:=ae (fun w (h:RS b s j w)=>CT.o j w HJ.o h);have YO:Hd (R=if(aV l j).1=0 then(0,(aV l j).2.1,⟨3,x1,x2,x3,(aV l j).2.2.1⟩) else((aV l j).1,(aV l j).2.1,pa0)):=hr3;obtain⟨E,Q,P,B,hT⟩:∃E Q P B,aV l j=(E,Q,P,B):=⟨_,_,_,_,rfl⟩;rw[hT]at Aa YO;clear hT hr3 HR;go_wp2_with (go_at_call 82;refine(Aa.o _ HT.o.rs).mono ?_);rintro e u1 rfl hr hg;replace HT:=ae (HT.o.go hr hg eG.o);clear hr hg;have HZ:Hd (E=R.1/\Q=R.2.1/\(E=0->wV x1 x2 x3 ⟨P.toArray⟩ 3=lV R.2.2)):=by
    have h:=YO.o
    by_cases h0:E=0
    ·rw[if_pos h0]at h;rw[h];exact⟨h0,rfl,fun _=>rfl⟩
    ·rw[if_neg h0]at h;rw[h];exact⟨rfl,rfl,fun e=>absurd e h0⟩
   have HQ:=ae (END.o (u1.setCell ⟨C,3,none⟩ (.string ⟨P.toArray⟩)) Q x1 x2 x3 ⟨P.toArray⟩ 3 E (HT.o.rs.other eG.o.1 _ _) (HT.o.pa.other eG.o.2.2.2.1 _ _) (dQ HT.o.gw wW.o.1 _ _) HZ.o.1 HZ.o.2.1 (HZ.o.2.2))
  case' inl=>
   have ix:=NK C wr;obtain⟨o,ho⟩:∃o:Nat,o=0:=⟨_,rfl⟩;have kY:=ae HJ.o;have HRk:=ae HR.o;obtain⟨p,hp⟩:∃p,p=j:=⟨_,rfl⟩;rw[<-hp]at kY HRk HT;clear hp HR
  case' inr.inl=>
   have ix:=NL C wr;obtain⟨o,ho⟩:∃o:Nat,o=1:=⟨_,rfl⟩;have HRk:Hd (R=if l[j]?=some 46 then(if eu l (j+1)=true then(0,j+1+1,⟨1,x1,0,0,[]⟩) else if(rdNum l (j+1)).1=0 then lW l (rdNum l (j+1)).2.2 x1 (rdNum l (j+1)).2.1 else((rdNum l (j+1)).1,(rdNum l (j+1)).2.2,pa0)) else(0,j,⟨1,x1,0,0,[]⟩)):=hrk
  case' inr.inr.inl=>
   have ix:=NM C wr;obtain⟨o,ho⟩:∃o:Nat,o=2:=⟨_,rfl⟩;have HRk:Hd (R=if l[j]?=some 46 then(if eu l (j+1)=true then(0,j+1+1,⟨2,x1,x2,0,[]⟩) else if(rdNum l (j+1)).1=0 then pa3 l (rdNum l (j+1)).2.2 x1 x2 (rdNum l (j+1)).2.1 else((rdNum l (j+1)).1,(rdNum l (j+1)).2.2,pa0)) else(0,j,⟨2,x1,x2,0,[]⟩)):=hrk
  all_goals (try(
   clear hrk HR
   cases hc:decide (l[j]?=some 46)
   case' false=>
    have hc':=of_decide_eq_false hc;have nD:=ae (fun w (h:RS b s j w)=>TN.o j w HJ.o hc' h);have HZ:=ae (HRk.o.trans (if_neg hc'));clear hc hc' HRk;go_wp2_with (go_at_call 109;refine(nD.o _ HT.o.rs).mono ?_);rintro e u1 ⟨rfl,hr,hg⟩;replace HT:=ae (HT.o.go hr hg eG.o);have HQ:=ae (ENDK.o _ _ _ _ _ _ _ HT.o HZ.o rfl);clear hr hg
   case' true=>
    have hc':=of_decide_eq_true hc;replace HRk:=ae (HRk.o.trans (if_pos hc'));have nD:=ae (fun w (h:RS b s j w)=>TY.o j w hc' h);have kY:=ae (Ko.o j hc');clear hc hc';go_wp2_with (first|(go_at_call 109;refine(nD.o _ HT.o.rs).mono ?_));rintro e u0 ⟨rfl,hr,hg⟩;replace HT:=ae (HT.o.go hr hg eG.o);obtain⟨p,hp⟩:∃p,p=j+1:=⟨_,rfl⟩;rw[<-hp]at kY HRk HT;clear hr hg hp))
  all_goals (first|(have hx:=HQ.o;clear hx)|(
   obtain⟨E,hE⟩:=zN ((rdNum l p).1);obtain⟨V,hV⟩:=zN ((rdNum l p).2.1);obtain⟨Q,hQ⟩:=zN ((rdNum l p).2.2);have rX:=ae (fun w (h:RS b s p w)=>CN.o p w kY.o h);have pM:=ae (ES.o p kY.o);rw[hE,hV,hQ]at rX HRk;rw[hQ]at pM;clear hE hV hQ;go_wp2_with (go_at_call 189;refine(CW.o p _ kY.o HT.o.rs).mono ?_);rintro e u1 ⟨rfl,hr,hg⟩;replace HT:=ae (HT.o.go hr hg eG.o);obtain⟨wb,hw⟩:=zN (eu l p);rw[hw]at HT HRk ⊢;clear hr hg hw
   cases wb
   case' true=>
    have HQ:=ae (ENDK.o _ _ _ _ _ _ _ HT.o HRk.o rfl)
   case' false=>
    go_wp2_with (go_at_call 112;refine(rX.o _ HT.o.rs).mono ?_);rintro e u2 ⟨rfl,hr,hg⟩;replace HT:=ae (HT.o.go hr hg eG.o);have HRn:Hd (R=if E=0 then _ else(E,Q,pa0)):=HRk.o;clear hr hg HRk
    cases hz:(E==0)
    case' false=>
     have hE0:¬E=0:=by simpa using hz
     have hR:R=(E,Q,pa0):=HRn.o.trans (if_neg hE0);have HQ:=ae (END.o (u2.setCell ⟨C,o,none⟩ (.int .i64 V)) Q 0 0 0 ⟨#[]⟩ 0 E (HT.o.rs.other eG.o.1 _ _) (HT.o.pa.other eG.o.2.2.2.1 _ _) (dQ HT.o.gw wW.o.1 _ _) (by rw[hR]) (by rw[hR]) (fun h=>absurd h hE0));clear hE0 hR
    case' true=>
     have HZ:=ae (HRn.o.trans (if_pos (by simpa using hz)));obtain⟨c0,c1,c2,c3,c4,c5⟩:=HT.o.pc.cells;have cf:=HT.o.pc.f;go_wp2;go_roundw
     case rel=>
      first
       | exact⟨1,Q,V,0,0,1,rfl,pM.o,(HT.o.rs.other eG.o.1 _ _).other eG.o.1 _ _,(HT.o.pc.set0 V).set5 1,(HT.o.pa.other eG.o.2.2.2.1 _ _).other eG.o.2.2.2.1 _ _,dQ (dQ HT.o.gw wW.o.1 _ _) wW.o.1 _ _,Or.inr (Or.inl ⟨rfl,HZ.o,rfl,rfl,rfl⟩)⟩
       | exact⟨2,Q,x1,V,0,2,rfl,pM.o,(HT.o.rs.other eG.o.1 _ _).other eG.o.1 _ _,(HT.o.pc.set1 V).set5 2,(HT.o.pa.other eG.o.2.2.2.1 _ _).other eG.o.2.2.2.1 _ _,dQ (dQ HT.o.gw wW.o.1 _ _) wW.o.1 _ _,Or.inr (Or.inr (Or.inl ⟨rfl,HZ.o,rfl,rfl⟩))⟩
       | exact⟨3,Q,x1,x2,V,3,rfl,pM.o,(HT.o.rs.other eG.o.1 _ _).other eG.o.1 _ _,(HT.o.pc.set2 V).set5 3,(HT.o.pa.other eG.o.2.2.2.1 _ _).other eG.o.2.2.2.1 _ _,dQ (dQ HT.o.gw wW.o.1 _ _) wW.o.1 _ _,Or.inr (Or.inr (Or.inr ⟨rfl,HZ.o,rfl⟩))⟩
     case measure=>simp[intOf]))
  all_goals (
   try subst ho
   obtain⟨a0,a1,a2,a3,a4,a5⟩:=HT.o.pa.cells;have af:=HT.o.pa.f;obtain⟨c0,c1,c2,c3,c4,c5⟩:=HT.o.pc.cells;have cf:=HT.o.pc.f;obtain⟨n1,n2,n3,n4,n5,n6⟩:=eG.o;go_wp2;exact bodyPost_ret (Bf (p:=2) (u:=3) rfl _ _ A _ _ (0,0) _ rfl HQ.o.1 underlying226 rfl (by kernel_rfl)) rfl HQ.o.2)
def PR(A:Nat)(n a b c:Int)(P Q:ByteArray)(w:World):Prop:=w.heap[A]?=some (.cells #[.int .i64 n,.int .i64 a,.int .i64 b,.int .i64 c,.string P,.string Q] 164 (0,0))
theorem PR.cells(h:PR A n a b c P Q w):w.cell? ⟨A,0,none⟩=some (.int .i64 n)/\w.cell? ⟨A,1,none⟩=some (.int .i64 a)/\w.cell? ⟨A,2,none⟩=some (.int .i64 b)/\w.cell? ⟨A,3,none⟩=some (.int .i64 c)/\w.cell? ⟨A,4,none⟩=some (.string P)/\w.cell? ⟨A,5,none⟩=some (.string Q) :=
 ⟨by rw[aj h];rfl,by rw[aj h];rfl,by rw[aj h];rfl,by rw[aj h];rfl,by rw[aj h];rfl,by rw[aj h];rfl⟩
theorem PR.grow(h:PR A n a b c P Q w)(hg:w.grownBy w' none):PR A n a b c P Q w':=by
 unfold PR at h ⊢;rw[hg.block A ((bJ h)) (by simp)];exact h
def lG(l:List UInt8)(i:Nat):Int × Nat × List Te:=gG l (l.length+1) (ag l i) []
def kN(l:List UInt8)(i:Nat):Int × Nat × List Te:=after l (aQ l (l.length+1) (ag l i) [])
def sZ(l:List UInt8):Nat->Nat->List (List Te)->Int × Nat × List (List Te)
 | 0,i,acc=>(0,i,acc)
 | f+1,i,acc =>
  if(lG l i).1=0 then(if lD l (lG l i).2.1=true then sZ l f ((lG l i).2.1+2) (acc++[(lG l i).2.2]) else(0,(lG l i).2.1,acc++[(lG l i).2.2]))
  else((lG l i).1,(lG l i).2.1,acc)
def iP(l:List UInt8):Nat->Nat->List (List Te)->Int × Nat × List (List Te)
 | 0,i,acc=>(0,i,acc)
 | f+1,i,acc =>
  if(kN l i).1=0 then(if l.length<=(kN l i).2.1 then(0,(kN l i).2.1,acc++[(kN l i).2.2]) else iP l f ((kN l i).2.1+2) (acc++[(kN l i).2.2]))
  else((kN l i).1,(kN l i).2.1,acc)
def agR(x y:Int × Nat × List (List Te)):Prop:=x.1=y.1/\x.2.1=y.2.1/\(x.1=0->x.2.2=y.2.2)
theorem YP(l:List UInt8)(i:Nat)(hi:i<=l.length):same (kN l i) (lG l i):=by
 have h1:=rq l i hi;exact YH l (l.length+1) (ag l i) [] (by omega) h1 (Qd l i hi)
theorem agS(l:List UInt8)(r:Int × Nat × List Te)(h:(after l r).1=0):dL l (after l r).2.1=true:=by
 unfold after at h ⊢
 by_cases h1:r.1=0
 ·rw[if_pos h1]at h ⊢
  by_cases h2:dL l (ag l r.2.1)=true
  ·rw[if_pos h2];exact h2
  ·rw[if_neg h2]at h;cases h
 ·rw[if_neg h1]at h;exact absurd h h1
theorem agT(l:List UInt8)(i:Nat)(h:dL l i=true):lD l i=true↔¬l.length<=i:=by
 unfold dL at h;rw[Bool.or_eq_true,decide_eq_true_eq]at h;constructor
 ·intro hb hl;unfold lD at hb;rw[List.getElem?_eq_none hl]at hb;simp at hb
 ·intro hn;exact h.resolve_left hn
theorem Qh(l:List UInt8)(i:Nat)(h:lD l i=true):i+2<=l.length:=by
 unfold lD at h;rw[Bool.and_eq_true,decide_eq_true_eq,decide_eq_true_eq]at h;have:=lF h.2;omega
theorem Qi(l:List UInt8):∀(f i:Nat) (acc:List Te),i<=l.length->(aQ l f i acc).1=0->i<=(aQ l f i acc).2.1/\(aQ l f i acc).2.1<=l.length
 | 0,i,acc,hi,_=>by unfold aQ;exact⟨Nat.le_refl _,hi⟩
 | f+1,i,acc,hi,h=>by
  have sp:=Gp l i hi;unfold aQ at h ⊢
  by_cases h0:l.length<=i\/l[i]?=some 124
  ·rw[if_pos h0];exact⟨Nat.le_refl _,hi⟩
  ·rw[if_neg h0]at h ⊢
   by_cases hr:(ah l (ai l i).2).1=0
   ·have pp:=Gn l _ sp.2 hr;have hkl:=rq l _ pp.2;have hkg:=sW l (ah l (ai l i).2).2.1;rw[if_pos hr]at h ⊢
    by_cases hbt:((ai l i).1<0/\acc=[])/\(ah l (ai l i).2).2.1<ag l (ah l (ai l i).2).2.1/\l[ag l (ah l (ai l i).2).2.1]?=some 45
    ·rw[if_pos hbt]at h ⊢;have h45:=lF hbt.2.2
     by_cases hm:ag l (ag l (ah l (ai l i).2).2.1+1)=ag l (ah l (ai l i).2).2.1+1
     ·rw[if_pos hm]at h;cases h
     ·rw[if_neg hm]at h ⊢;have hk2:=rq l (ag l (ah l (ai l i).2).2.1+1) (by omega);have hk3:=sW l (ag l (ah l (ai l i).2).2.1+1)
      by_cases hq:(ah l (ag l (ag l (ah l (ai l i).2).2.1+1))).1=0
      ·rw[if_pos hq];have:=Gn l _ hk2 hq;simp only[];omega
      ·rw[if_neg hq]at h;exact absurd h hq
    ·rw[if_neg hbt]at h ⊢
     by_cases hg:(ah l (ai l i).2).2.1<ag l (ah l (ai l i).2).2.1
     ·rw[if_neg (not_not_intro hg)]at h ⊢;have:=Qi l f _ _ hkl h;omega
     ·rw[if_pos hg];simp only[];omega
   ·rw[if_neg hr]at h;exact absurd h hr
theorem YQ(l:List UInt8)(i:Nat)(hi:i<=l.length)(h:(kN l i).1=0):i<=(kN l i).2.1/\(kN l i).2.1<=l.length:=by
 unfold kN after at h ⊢
 by_cases h1:(aQ l (l.length+1) (ag l i) []).1=0
 ·rw[if_pos h1]at h ⊢;have h2:=Qi l _ _ _ (rq l i hi) h1;have h3:=sW l i;have h4:=sW l (aQ l (l.length+1) (ag l i) []).2.1;have h5:=rq l _ h2.2;split<;>(simp only[];omega)
 ·rw[if_neg h1]at h;exact absurd h h1
theorem YR(l:List UInt8):∀(f i:Nat) (acc:List (List Te)),i<=l.length->agR (iP l f i acc) (sZ l f i acc)
 | 0,i,acc,hi=>⟨rfl,rfl,fun _=>rfl⟩
 | f+1,i,acc,hi=>by
  obtain⟨s1,s2,s3⟩:=YP l i hi;unfold iP sZ
  by_cases h:(kN l i).1=0
  ·have h':(lG l i).1=0:=by rw[<-s1];exact h
   have he:dL l (kN l i).2.1=true:=agS l _ h;have hb:=agT l _ he;have hp:=YQ l i hi h;rw[if_pos h,if_pos h',<-s2,<-s3 h]
   by_cases hl:l.length<=(kN l i).2.1
   ·rw[if_pos hl,if_neg (fun hb'=>hb.1 hb' hl)];exact⟨rfl,rfl,fun _=>rfl⟩
   ·have hb':=hb.2 hl;rw[if_neg hl];rw[if_pos hb'];exact YR l f _ _ (Qh l _ hb')
  ·have h':¬(lG l i).1=0:=by rw[<-s1];exact h
   rw[if_neg h,if_neg h',<-s1,<-s2];exact⟨rfl,rfl,fun h0=>absurd h0 h⟩
def jM(l:List UInt8):Int × Nat × List (List Te) :=
 if 200<l.length then(1,0,[]) else if(sZ l (l.length+1) 0 []).1=0 then(0,0,(sZ l (l.length+1) 0 []).2.2) else((sZ l (l.length+1) 0 []).1,(sZ l (l.length+1) 0 []).2.1,[])
theorem YS(l:List UInt8)(i:Nat):-1<=(ai l i).1/\(ai l i).1<=6:=by
 unfold ai
 repeat' split
 all_goals simp
theorem agU(l:List UInt8)(i k:Nat):(au l i k).length<=l.length:=by unfold au;simp;omega
theorem agV(c:UInt8)(st:Bool)(l:List UInt8)(i:Nat):(bC c st l i).2.2.length<=l.length:=by
 unfold bC
 repeat' split
 all_goals first|exact agU _ _ _|exact Nat.zero_le _
theorem agW(l:List UInt8)(i:Nat):(aV l i).2.2.1.length<=l.length:=by
 unfold aV
 repeat' split
 all_goals first|exact agV _ _ _ _|exact Nat.zero_le _
theorem Qj(l:List UInt8)(i:Nat):(ah l i).2.2.pre.length<=l.length:=by
 unfold ah lX lW pa3
 repeat' split
 all_goals first|exact agW _ _|exact Nat.zero_le _
def ql(g:Sg):Sp:=iI g.fr g.to_ g.op
structure BOk(v:V)(n:Nat):Prop where
 m1:0<=v.major/\v.major<=1000000000
 m2:0<=v.minor/\v.minor<=1000000000
 m3:0<=v.patch/\v.patch<=1000000000
 ok:iq true v.pre=true
 sm:v.pre.length<=n
theorem BOk.sound{v:V}{n:Nat}(h:BOk v n):yI v=true:=by
 unfold yI nM;simp only[Bool.and_eq_true,ug];exact⟨h.m1,h.m2,h.m3,h.ok,rfl⟩
structure GOk(g:Sg)(n:Nat):Prop where
 fr:BOk g.fr n
 to_:g.op=false->BOk g.to_ n
 tn:g.to_.pre.length<=n
theorem Gq:iq true [48]=true:=by decide
theorem YT(n:Nat)(hn:1<=n):BOk qZ n:=⟨by decide,by decide,by decide,by decide,by simpa [qZ] using hn⟩
theorem Gs(p:Pa)(hp:iZ p)(n:Nat)(hn:1<=n)(hl:p.pre.length<=n):BOk (dW p) n:=by
 have a0:=hp.a0;have b0:=hp.b0;have c0:=hp.c0;refine⟨⟨a0.1,?_⟩,⟨b0.1,?_⟩,⟨c0.1,?_⟩,?_,?_⟩
 ·show p.a<=_;omega
 ·show p.b<=_;omega
 ·show p.c<=_;omega
 ·show iq true (if p.n<3 then[48] else p.pre)=true;split
  ·exact Gq
  ·exact hp.ok
 ·show(if p.n<3 then[48] else p.pre).length<=n;split
  ·exact hn
  ·exact hl
theorem agX(p:Pa)(hp:iZ p)(k:Nat)(n:Nat)(hn:1<=n):BOk (Dw (dW p) k) n:=by
 have a0:=hp.a0;have b0:=hp.b0;have c0:=hp.c0;unfold Dw;have e1:(dW p).major=p.a:=rfl;have e2:(dW p).minor=p.b:=rfl;have e3:(dW p).patch=p.c:=rfl;rw[e1,e2,e3];split
 ·exact⟨by simp only[];omega,by simp,by simp,Gq,hn⟩
 ·split
  ·exact⟨by simp only[];omega,by simp only[];omega,by simp,Gq,hn⟩
  ·exact⟨by simp only[];omega,by simp only[];omega,by simp only[];omega,Gq,hn⟩
theorem agY(v:V)(n:Nat)(h1:0<=v.major/\v.major<=1000000000)(h2:0<=v.minor/\v.minor<=1000000000)(h3:0<=v.patch/\v.patch<=999999999)(hk:iq true v.pre=true)(hn:1<=n)(hl:v.pre.length+2<=n):BOk (vM v) n:=by
 unfold vM
 by_cases e:v.pre=[]
 ·rw[if_pos e,if_pos (by omega)];exact⟨h1,h2,by simp only[];omega,Gq,hn⟩
 ·rw[if_neg e];refine⟨h1,h2,by simp only[];omega,?_,by simp only[List.length_append,List.length_cons,List.length_nil];omega⟩;have h4:=aa6 hk e;show iq true (v.pre++[46,48])=true;unfold iq;rw[show v.pre++[46,48]=v.pre++46 :: [48] from rfl,SY,List.all_append,h4];simp only[Bool.true_and,Bool.or_eq_true];exact Or.inr (by decide)
theorem Qk(p:Pa)(hp:iZ p)(k n:Nat)(hn:1<=n)(hl:p.pre.length<=n):GOk (wU p k) n:=by
 unfold wU;split
 ·exact⟨Gs p hp n hn hl,fun h=>(by cases h),Nat.zero_le _⟩
 ·have:=agX p hp k n hn;exact⟨Gs p hp n hn hl,fun _=>this,this.sm⟩
theorem YU(p:Pa)(hp:iZ p)(n:Nat)(hn:1<=n)(hl:p.pre.length+2<=n):GOk (fP p) n:=by
 unfold fP;have a0:=hp.a0;have b0:=hp.b0;have c0:=hp.c0;split
 ·rename_i h3;have hf:=Gs p hp n hn (by omega);have e:(dW p).pre=p.pre:=by unfold dW;rw[if_neg (by omega)]
  have:=agY (dW p) n hf.m1 hf.m2 ⟨hf.m3.1,by show p.c<=_;omega⟩ hf.ok hn (by rw[e];exact hl);exact⟨hf,fun _=>this,this.sm⟩
 ·exact Qk p hp p.n n hn (by omega)
theorem agZ(s:Int)(p:Pa)(hp:iZ p)(n:Nat)(hn:1<=n)(hl:p.pre.length+2<=n):GOk (Gm s p) n:=by
 have hlow:=YT n hn;have hf:=Gs p hp n hn (by omega);have hN:=YU p hp n hn hl;unfold Gm;split
 ·exact hN
 ·split
  ·exact⟨hf,fun h=>(by cases h),Nat.zero_le _⟩
  ·split
   ·exact⟨hlow,hN.to_,hN.tn⟩
   ·split
    ·split
     ·exact⟨hlow,fun _=>hlow,hlow.sm⟩
     ·rename_i hop;have hb:=hN.to_ (by simpa using hop);exact⟨hb,fun h=>(by cases h),Nat.zero_le _⟩
    ·split
     ·exact⟨hlow,fun _=>hf,hf.sm⟩
     ·split
      ·exact Qk p hp _ n hn (by omega)
      ·exact Qk p hp _ n hn (by omega)
theorem ag0(p q:Pa)(hp:iZ p)(hq:iZ q)(n:Nat)(hn:1<=n)(hl:p.pre.length<=n)(hl2:q.pre.length+2<=n):GOk (Dx p q) n:=by
 have hN:=YU q hq n hn hl2;exact⟨Gs p hp n hn hl,hN.to_,hN.tn⟩
theorem GOk.sound{g:Sg}{n:Nat}(h:GOk g n):iF (ql g)=true:=by
 have hv:xM (ql g)=⟨g.fr.major,g.fr.minor,g.fr.patch,g.fr.pre,[]⟩:=by simp[xM,ql,iI]
 have hw:xN (ql g)=⟨g.to_.major,g.to_.minor,g.to_.patch,g.to_.pre,[]⟩:=by simp[xN,ql,iI]
 have h1:=h.fr.sound;unfold yI at h1;unfold iF;rw[hv,hw,h1];show(true && (g.op || _))=true
 cases ho:g.op with
 |true=>rfl
 |false=>
  have h2:=(h.to_ ho).sound;unfold yI at h2;rw[h2];rfl
theorem GOk.small{g:Sg}{n:Nat}(h:GOk g n)(hn:n<=1048576):lN (ql g):=by
 have h1:=h.fr.sm;have h2:=h.tn;refine⟨?_,?_,?_,?_⟩
 ·show g.fr.pre.toArray.size<=_;simp;omega
 ·show(0:Nat)<=_;omega
 ·show g.to_.pre.toArray.size<=_;simp;omega
 ·show(0:Nat)<=_;omega
structure LOk(L:List Sp)(k:Nat):Prop where
 sd:L.all iF=true
 sm:∀s∈L,lN s
 ln:L.length<=k
theorem LOk.one{g:Sg}{n:Nat}(h:GOk g n)(hn:n<=1048576):LOk [ql g] 1:=⟨by simp[h.sound],by intro s hs;simp at hs;subst hs;exact h.small hn,Nat.le_refl _⟩
theorem LOk.app{L M:List Sp}(h:LOk L j)(h':LOk M k):LOk (L++M) (j+k) :=
 ⟨by rw[List.all_append,h.sd,h'.sd];rfl,fun s hs=>(List.mem_append.1 hs).elim (h.sm s) (h'.sm s),by have:=h.ln;have:=h'.ln;rw[List.length_append];omega⟩
theorem LOk.mono{L:List Sp}(h:LOk L j)(hk:j<=k):LOk L k:=⟨h.sd,h.sm,Nat.le_trans h.ln hk⟩
def Kr:Array Value:=#[.string ⟨#[62,61]⟩,.func (.func 179) #[] #[],.string ⟨#[60,61]⟩,.func (.func 180) #[] #[],.string ⟨#[62]⟩,.func (.func 181) #[] #[],.string ⟨#[60]⟩,.func (.func 182) #[] #[],.string ⟨#[61]⟩,.func (.func 183) #[] #[],.string ⟨#[94]⟩,.func (.func 184) #[] #[],.string ⟨#[126]⟩,.func (.func 187) #[] #[],.string ⟨#[]⟩,.func (.func 183) #[] #[]]
theorem ag1(w:World):Calls prog 159 #[] w fun e w'=>e=.returned (.slice (some ⟨w.heap.size,0,none⟩) 8 8)/\w'=w.alloc (.cells Kr 224):=by
 go_enter func159,ntmps159;go_wp2;go_ret;exact⟨rfl,rfl⟩
def DC(k:Nat):List UInt8:=match k with|0=>[62,61]|1=>[60,61]|2=>[62]|3=>[60]|4=>[61]|5=>[94]|6=>[126]|_=>[]
def fG(l:List UInt8)(i k:Nat):Bool:=Lib.hasPrefix (l.drop i) (DC k)
theorem Ku(l:List UInt8)(i:Nat)(a c:UInt8):Lib.hasPrefix (l.drop i) [a,c]=(decide (l[i]?=some a) && decide (l[i+1]?=some c)):=by
 have e0:l[i]?=(l.drop i)[0]?:=by rw[List.getElem?_drop];rfl
 have e1:l[i+1]?=(l.drop i)[1]?:=by rw[List.getElem?_drop]
 rw[e0,e1]
 cases l.drop i with
 |nil=>rfl
 |cons x r=>
  cases r with
  |nil=>
   show(a == x && false)=_;simp
  |cons y r=>
   show(a == x && (c == y && true))=(decide (some x=some a) && decide (some y=some c));rw[Bool.eq_iff_iff];simp only[Bool.and_eq_true,beq_iff_eq,decide_eq_true_eq,Option.some.injEq,and_true];exact⟨fun h=>⟨h.1.symm,h.2.symm⟩,fun h=>⟨h.1.symm,h.2.symm⟩⟩
theorem wX(l:List UInt8)(i:Nat):ai l i=if fG l i 0=true then(1,i+2) else if fG l i 1=true then(2,i+2) else if fG l i 2=true then(3,i+1) else if fG l i 3=true then(4,i+1) else if fG l i 4=true then(0,i+1) else if fG l i 5=true then(5,i+1) else if fG l i 6=true then(6,i+1) else(-1,i):=by
 have g0:fG l i 0=(decide (l[i]?=some 62) && decide (l[i+1]?=some 61)):=Ku l i 62 61;have g1:fG l i 1=(decide (l[i]?=some 60) && decide (l[i+1]?=some 61)):=Ku l i 60 61;have g2:fG l i 2=decide (l[i]?=some 62):=qJ l i 62;have g3:fG l i 3=decide (l[i]?=some 60):=qJ l i 60;have g4:fG l i 4=decide (l[i]?=some 61):=qJ l i 61;have g5:fG l i 5=decide (l[i]?=some 94):=qJ l i 94;have g6:fG l i 6=decide (l[i]?=some 126):=qJ l i 126;rw[g0,g1,g2,g3,g4,g5,g6];unfold ai
 by_cases a:l[i]?=some 62
 ·by_cases c:l[i+1]?=some 61<;>simp[a,c]
 ·by_cases a2:l[i]?=some 60
  ·by_cases c:l[i+1]?=some 61<;>simp[a2,c]
  ·simp[a,a2]
theorem nf{b:Bool}(h:b=false):¬b=true:=by rw[h];simp
def TB(A:Nat)(T F:Value)(a b c:Int)(P:ByteArray)(n:Int)(w:World):Prop:=w.heap[A]?=some (.cells #[T,F,.int .i64 a,.int .i64 b,.int .i64 c,.string P,.string ⟨#[]⟩,.int .i64 n] 228 (0,0))
theorem TB.cells(h:TB A T F a b c P n w):w.cell? ⟨A,0,none⟩=some T/\w.cell? ⟨A,1,none⟩=some F/\w.cell? ⟨A,2,none⟩=some (.int .i64 a)/\w.cell? ⟨A,3,none⟩=some (.int .i64 b)/\w.cell? ⟨A,4,none⟩=some (.int .i64 c)/\w.cell? ⟨A,5,none⟩=some (.string P)/\w.cell? ⟨A,6,none⟩=some (.string ⟨#[]⟩)/\w.cell? ⟨A,7,none⟩=some (.int .i64 n) :=
 ⟨by rw[aj h];rfl,by rw[aj h];rfl,by rw[aj h];rfl,by rw[aj h];rfl,by rw[aj h];rfl,by rw[aj h];rfl,by rw[aj h];rfl,by rw[aj h];rfl⟩
theorem TB.f(h:TB A T F a b c P n w)(o:Nat):w.frozen? ⟨A,o,none⟩=false:=Lib.frozen_of_heap h o
theorem TB.grow(h:TB A T F a b c P n w)(hg:w.grownBy w' none):TB A T F a b c P n w':=by
 unfold TB at h ⊢;rw[hg.block A ((bJ h)) (by simp)];exact h
theorem TB.growb(h:TB A T F a b c P n w)(hg:w.grownBy w' (some q))(hn:A≠q):TB A T F a b c P n w':=by
 unfold TB at h ⊢;rw[hg.block A ((bJ h)) (by simpa using hn)];exact h
theorem TB.other{V:Nat}(h:TB A T F a b c P n w)(hn:A≠V)(o:Nat)(x:Value):TB A T F a b c P n (w.setCell ⟨V,o,none⟩ x):=by
 unfold TB at h ⊢;rw[heap_setCell_other w _ A x (by simpa using hn)];exact h
theorem TB.set01(h:TB A T F a b c P n w)(x y:Value):TB A x y a b c P n ((w.setCell ⟨A,0,none⟩ x).setCell ⟨A,1,none⟩ y):=by
 unfold TB at h ⊢;simp[World.setCell,Array.getElem?_modify,h]
def DD(w:World)(A:Nat)(T F:Value)(y1 y2 y3:Int)(x4:ByteArray)(n:Int):World:=(((((((w.setCell ⟨A,0,none⟩ T).setCell ⟨A,1,none⟩ F).setCell ⟨A,2,none⟩ (.int .i64 y1)).setCell ⟨A,3,none⟩ (.int .i64 y2)).setCell ⟨A,4,none⟩ (.int .i64 y3)).setCell ⟨A,5,none⟩ (.string x4)).setCell ⟨A,6,none⟩ (.string ⟨#[]⟩)).setCell ⟨A,7,none⟩ (.int .i64 n)
def Kv(w:World)(A:Nat)(y1 y2 y3:Int)(x4:ByteArray)(n:Int):World:=(((((w.setCell ⟨A,2,none⟩ (.int .i64 y1)).setCell ⟨A,3,none⟩ (.int .i64 y2)).setCell ⟨A,4,none⟩ (.int .i64 y3)).setCell ⟨A,5,none⟩ (.string x4)).setCell ⟨A,6,none⟩ (.string ⟨#[]⟩)).setCell ⟨A,7,none⟩ (.int .i64 n)
theorem YV{U G:Value}(h:TB A U G z1 z2 z3 z4 m w)(y1 y2 y3:Int)(x4:ByteArray)(n:Int):TB A T F y1 y2 y3 x4 n (DD w A T F y1 y2 y3 x4 n):=by
 unfold TB at h ⊢;simp[DD,World.setCell,Array.getElem?_modify,h]
theorem Ql{b:Nat}(h:RS b s j w)(hn:b≠A)(T F:Value)(y1 y2 y3:Int)(x4:ByteArray)(n:Int):RS b s j (DD w A T F y1 y2 y3 x4 n):=(((((((h.other hn _ _).other hn _ _).other hn _ _).other hn _ _).other hn _ _).other hn _ _).other hn _ _).other hn _ _
theorem ag2{b:Nat}(h:w.grownBy W (some b))(hA:w.heap.size<=A)(T F:Value)(y1 y2 y3:Int)(x4:ByteArray)(n:Int):w.grownBy (DD W A T F y1 y2 y3 x4 n) (some b):=dQ (dQ (dQ (dQ (dQ (dQ (dQ (dQ h hA _ _) hA _ _) hA _ _) hA _ _) hA _ _) hA _ _) hA _ _) hA _ _
theorem ag3{b:Nat}(h:RS b s j w)(hn:b≠A)(y1 y2 y3:Int)(x4:ByteArray)(n:Int):RS b s j (Kv w A y1 y2 y3 x4 n):=(((((h.other hn _ _).other hn _ _).other hn _ _).other hn _ _).other hn _ _).other hn _ _
theorem ag4{b:Nat}(h:w.grownBy W (some b))(hA:w.heap.size<=A)(y1 y2 y3:Int)(x4:ByteArray)(n:Int):w.grownBy (Kv W A y1 y2 y3 x4 n) (some b):=dQ (dQ (dQ (dQ (dQ (dQ h hA _ _) hA _ _) hA _ _) hA _ _) hA _ _) hA _ _
theorem ag5{V:Nat}(h:TB A T F a b c P m w)(hn:A≠V)(y1 y2 y3:Int)(x4:ByteArray)(n:Int):TB A T F a b c P m (Kv w V y1 y2 y3 x4 n):=(((((h.other hn _ _).other hn _ _).other hn _ _).other hn _ _).other hn _ _).other hn _ _
def YW(b:Nat)(s:ByteArray)(sg:Int)(R:Int × Nat × Pa)(w:World)(e:Ending)(w':World):Prop :=
 ∃(T:ByteArray) (x1 x2 x3:Int) (P:ByteArray) (n:Int),e=.returned (.tuple #[.agg #[.string T,.func (.func (zZ sg)) #[] #[],.int .i64 x1,.int .i64 x2,.int .i64 x3,.string P,.string ⟨#[]⟩,.int .i64 n],.int .i64 R.1])/\T.toList.isEmpty=decide (sg<0)/\RS b s R.2.1 w'/\w.grownBy w' (some b)/\(R.1=0->wV x1 x2 x3 P n=lV R.2.2)
def SR(B:Nat)(w:World):Prop:=w.heap[B]?=some (.cells Kr 224 (0,0))
theorem SR.growb{B:Nat}(h:SR B w)(hg:w.grownBy w' (some q))(hn:B≠q):SR B w':=by
 unfold SR at h ⊢;rw[hg.block B ((bJ h)) (by simpa using hn)];exact h
theorem ag6(b:Nat)(s:ByteArray)(i k:Nat)(T:ByteArray)(hT:T.data.toList=DC k)(w:World)(hi:i<=s.size)(h:RS b s i w)(hs:s.size<2 ^ 62) :
  Calls prog 109 #[.pointer (some ⟨b,0,none⟩),.string T] w fun e w'=>e=.returned (.bool (fG s.data.toList i k))/\RS b s (if fG s.data.toList i k=true then i+T.size else i) w'/\w.grownBy w' (some b):=by
 have:=take_any b s T i w hi h hs (by
  have:T.size=(DC k).length:=by rw[<-hT];simp
  rw[this];unfold DC;split<;>simp)
 rw[hT]at this;exact this
theorem ag7(k:Nat)(hk:k<8):∃(T:ByteArray) (fn:FuncId),Kr[k*2]?=some (.string T)/\Kr[k*2+1]?=some (.func (.func fn) #[] #[])/\T.data.toList=DC k/\(∀l i,(∀m,m<k->fG l i m=false)->fG l i k=true->∃sg,ai l i=(sg,i+T.size)/\zZ sg=fn/\T.toList.isEmpty=decide (sg<0))/\(k=7->∀l i,fG l i k=true):=by
 rcases(by omega:k=0\/k=1\/k=2\/k=3\/k=4\/k=5\/k=6\/k=7) with rfl|rfl|rfl|rfl|rfl|rfl|rfl|rfl
 ·exact⟨_,_,rfl,rfl,rfl,fun l i h p=>⟨_,(by rw[wX,if_pos p];rfl),rfl,(nR (by decide)).trans (by decide)⟩,fun e=>(by cases e)⟩
 ·exact⟨_,_,rfl,rfl,rfl,fun l i h p=>⟨_,(by rw[wX,if_neg (nf (h 0 (by omega))),if_pos p];rfl),rfl,(nR (by decide)).trans (by decide)⟩,fun e=>(by cases e)⟩
 ·exact⟨_,_,rfl,rfl,rfl,fun l i h p=>⟨_,(by rw[wX,if_neg (nf (h 0 (by omega))),if_neg (nf (h 1 (by omega))),if_pos p];rfl),rfl,(nR (by decide)).trans (by decide)⟩,fun e=>(by cases e)⟩
 ·exact⟨_,_,rfl,rfl,rfl,fun l i h p=>⟨_,(by rw[wX,if_neg (nf (h 0 (by omega))),if_neg (nf (h 1 (by omega))),if_neg (nf (h 2 (by omega))),if_pos p];rfl),rfl,(nR (by decide)).trans (by decide)⟩,fun e=>(by cases e)⟩
 ·exact⟨_,_,rfl,rfl,rfl,fun l i h p=>⟨_,(by rw[wX,if_neg (nf (h 0 (by omega))),if_neg (nf (h 1 (by omega))),if_neg (nf (h 2 (by omega))),if_neg (nf (h 3 (by omega))),if_pos p];rfl),rfl,(nR (by decide)).trans (by decide)⟩,fun e=>(by cases e)⟩
 ·exact⟨_,_,rfl,rfl,rfl,fun l i h p=>⟨_,(by rw[wX,if_neg (nf (h 0 (by omega))),if_neg (nf (h 1 (by omega))),if_neg (nf (h 2 (by omega))),if_neg (nf (h 3 (by omega))),if_neg (nf (h 4 (by omega))),if_pos p];rfl),rfl,(nR (by decide)).trans (by decide)⟩,fun e=>(by cases e)⟩
 ·exact⟨_,_,rfl,rfl,rfl,fun l i h p=>⟨_,(by rw[wX,if_neg (nf (h 0 (by omega))),if_neg (nf (h 1 (by omega))),if_neg (nf (h 2 (by omega))),if_neg (nf (h 3 (by omega))),if_neg (nf (h 4 (by omega))),if_neg (nf (h 5 (by omega))),if_pos p];rfl),rfl,(nR (by decide)).trans (by decide)⟩,fun e=>(by cases e)⟩
 ·exact⟨_,_,rfl,rfl,rfl,fun l i h p=>⟨_,(by rw[wX,if_neg (nf (h 0 (by omega))),if_neg (nf (h 1 (by omega))),if_neg (nf (h 2 (by omega))),if_neg (nf (h 3 (by omega))),if_neg (nf (h 4 (by omega))),if_neg (nf (h 5 (by omega))),if_neg (nf (h 6 (by omega)))];rfl),rfl,(vT (by decide)).trans (by decide)⟩,fun _ l i=>rfl⟩
theorem ag8(b:Nat)(s:ByteArray)(i:Nat)(w:World)(hi:i<=s.size)(h:RS b s i w)(hs:s.size<=281474976710656) :
  Calls prog 132 #[.pointer (some ⟨b,0,none⟩)] w (YW b s (ai s.data.toList i).1 (ah s.data.toList (ai s.data.toList i).2) w):=by
 have gQ:Hd ((ai s.data.toList i).2<=s.size):=by have:=(Gp s.data.toList i (by simpa using hi)).2;simp at this;exact this
 have CT:=ae (fun(k:Nat) (T:ByteArray) (w:World) (hT:T.data.toList=DC k) (h:RS b s i w)=>ag6 b s i k T hT w hi h (by omega));have CP:=ae (fun j w (hj:j<=s.size) (h:RS b s j w)=>YN b s j w hj h hs);obtain⟨l,hl⟩:=zN (s.data.toList);rw[hl]at gQ CT CP ⊢;obtain⟨sg,j,hsg⟩:∃sg j,ai l i=(sg,j):=⟨_,_,rfl⟩;rw[hsg]at gQ ⊢;have Qm:=ae (fun w (h:RS b s j w)=>CP.o j w gQ.o h);simp only[];obtain⟨R,hR⟩:=zN (ah l j);rw[hR]at Qm ⊢;have lg:=ae hsg;have HI:=ae h;have uX:Hd (b<w.heap.size):=by obtain⟨t,h⟩:=h;exact(bJ h)
 have CS:=ae ag1;clear hl hsg hR h hi hs CP gQ;go_enter func132,ntmps132;go_wp2_with (go_at_call 159;refine(CS.o _).mono ?_);rintro e w1 ⟨rfl,hw1⟩;obtain⟨A,hA⟩:=zN (w.heap.size);have HG:Hd (w.grownBy w1 none):=by show w.grownBy w1 none;rw[hw1];exact aH (aH (aH (ax w none) _) _) _
 have mr:Hd (TB A (.string ⟨#[]⟩) .nilFunc 0 0 0 ⟨#[]⟩ 0 w1):=by
  show TB A _ _ 0 0 0 _ 0 w1;unfold TB;rw[hw1,<-hA,Lib.alloc_old _ _ _ (by simp;omega),Lib.alloc_old _ _ _ (by simp)];exact heap_alloc_new w _
 have mF:Hd (TB (A+1) (.string ⟨#[]⟩) .nilFunc 0 0 0 ⟨#[]⟩ 0 w1):=by
  show TB (A+1) _ _ 0 0 0 _ 0 w1;unfold TB;rw[hw1,<-hA,Lib.alloc_old _ _ _ (by simp)];exact JD w _ _
 have ru:Hd (SR (A+2) w1):=by
  show SR (A+2) w1;unfold SR;rw[hw1,<-hA];exact XF w _ _ _
 have HA:Hd (w.heap.size<=A/\b<A):=⟨Nat.le_of_eq hA,by rw[<-hA];exact uX.o⟩;replace HI:=ae (HI.o.grow HG.o);have hsz:((w.alloc (.cells #[.string ⟨#[]⟩,.nilFunc,.int .i64 0,.int .i64 0,.int .i64 0,.string ⟨#[]⟩,.string ⟨#[]⟩,.int .i64 0] 228)).alloc (.cells #[.string ⟨#[]⟩,.nilFunc,.int .i64 0,.int .i64 0,.int .i64 0,.string ⟨#[]⟩,.string ⟨#[]⟩,.int .i64 0] 228)).heap.size=A+2:=by simp[hA]
 rw[hsz]
 try rw[hA]
 clear hA hw1 hsz;have eG:Hd (b≠A/\b≠A+1/\A+2≠b/\A≠A+1):=by have:=HA.o;refine⟨?_,?_,?_,?_⟩<;>omega
 have qU:Hd (w.heap.size<=A/\w.heap.size<=A+1):=by have:=HA.o;exact⟨this.1,by omega⟩
 go_wp2;go_loopw [10] (fun vi wr=>∃k:Nat,vi=.int .i64 k/\k<8/\(∀m,m<k->fG l i m=false)/\RS b s i wr/\TB A (.string ⟨#[]⟩) .nilFunc 0 0 0 ⟨#[]⟩ 0 wr/\TB (A+1) (.string ⟨#[]⟩) .nilFunc 0 0 0 ⟨#[]⟩ 0 wr/\SR (A+2) wr/\w.grownBy wr (some b)) (fun vi _=>8-(intOf vi).toNat)
 case atStart=>exact⟨0,rfl,by omega,fun m hm=>absurd hm (Nat.not_lt_zero _),HI.o,mr.o,mF.o,ru.o,iy HG.o _⟩
 case round=>
  obtain⟨k,rfl,hk,hno,hrs,hta,htb,EJ,hg⟩:=hrel;clear HI mr mF ru HG;have HI:=ae hrs;have mr:=ae hta;have mF:=ae htb;have ru:=ae EJ;have HG:=ae hg;have jI:=ae hno;clear hrs hta htb EJ hg hno;obtain⟨T,fn,hT0,hT1,hTs,hsi,YX⟩:=ag7 k hk;have HT:=ae hTs;have Qn:=ae hsi;have uC:=ae hk;have Kw:Hd (∀l i,fG l i k=false->k+1<8):=fun l i hf=>by
   by_cases e:k=7
   ·have:=YX e l i;rw[hf]at this
    cases this
   ·omega
  clear hTs hsi YX;have s0:wr.cell? ⟨A+2,k*2,none⟩=some (.string T):=by rw[aj (show _=_ from ru.o)];exact hT0
  have s1:wr.cell? ⟨A+2,k*2+1,none⟩=some (.func (.func fn) #[] #[]):=by rw[aj (show _=_ from ru.o)];exact hT1
  obtain⟨D,hD⟩:=zN (wr.heap.size);obtain⟨W0,hW0⟩:=zN (wr.alloc (.cells #[.string ⟨#[]⟩,.nilFunc] 224));have HD0:Hd (W0.heap[D]?=some (.cells #[.string ⟨#[]⟩,.nilFunc] 224 (0,0))):=by show _=_;rw[<-hW0,<-hD];exact heap_alloc_new wr _
  have k0:W0.cell? ⟨D,0,none⟩=some (.string ⟨#[]⟩):=by rw[aj HD0.o];rfl
  have k1:W0.cell? ⟨D,1,none⟩=some .nilFunc:=by rw[aj HD0.o];rfl
  have kf:=Lib.frozen_of_heap HD0.o;have stf:∀(a:Addr) (m:Mode) (w:World),(store a (.func (.func fn) #[] #[]) m).run prog w=stored prog w a (.func (.func fn) #[] #[]) m:=fun a m w=>run_store prog w a _ m rfl
  go_wp2_with (fail);obtain⟨W,hW⟩:=zN ((W0.setCell ⟨D,0,none⟩ (.string T)).setCell ⟨D,1,none⟩ (.func (.func fn) #[] #[]));have hgW:wr.grownBy W none:=by rw[<-hW];exact kD (kD (by rw[<-hW0];exact aH (ax wr none) _) (Nat.le_of_eq hD) _ _) (Nat.le_of_eq hD) _ _
  have HDR:Hd (W.heap[D]?=some (.cells #[.string T,.func (.func fn) #[] #[]] 224 (0,0))):=by show _=_;have h0:=HD0.o;rw[<-hW];simp[World.setCell,Array.getElem?_modify,h0]
  have aF:Hd (D≠b/\A+1<D):=by
   have h1:=(bJ mF.o);have h2:=HA.o;rw[hD]at h1;exact⟨by omega,h1⟩
  replace HI:=ae (HI.o.grow hgW);replace mr:=ae (mr.o.grow hgW);replace mF:=ae (mF.o.grow hgW);replace ru:=ae (ru.o.growb (iy hgW (some b)) eG.o.2.2.1);replace HG:=ae (ak HG.o (iy hgW _));have d0:W.cell? ⟨D,0,none⟩=some (.string T):=by rw[aj HDR.o];rfl
  try rw[hW]
  try rw[hD]
  clear hgW hW hD s0 s1 hW0 HD0 k0 k1 kf;have DF:Hd (∀w,RS b s i w->Calls prog 109 #[.pointer (some ⟨b,0,none⟩),.string T] w fun e w'=>e=.returned (.bool (fG l i k))/\RS b s (if fG l i k=true then i+T.size else i) w'/\w.grownBy w' (some b)):=fun w h=>CT.o k T w HT.o h
  cases hp:fG l i k with
  |true=>
   rw[hp]at DF;have Qo:Hd (∀w,RS b s i w->Calls prog 109 #[.pointer (some ⟨b,0,none⟩),.string T] w fun e w'=>e=.returned (.bool true)/\RS b s (i+T.size) w'/\w.grownBy w' (some b)):=DF.o;have HP:=ae hp;clear hp DF
   go_region_held3 (fun w'=>w'.cell? ⟨D,0,none⟩=some (.string T)) ((first|(simp only[pX];assumption)|(refine World.grownBy.cell (by assumption) (by assumption) ?_;simpa using aF.o.1))) (first|(go_at_call 109;refine(Qo.o _ (by first|exact HI.o|exact HI.o.drew 1)).mono ?_;rintro e u1 ⟨rfl,hr,hg⟩))
   have hg':=jJ hg;have HD1:Hd (u1.heap[D]?=some (.cells #[.string T,.func (.func fn) #[] #[]] 224 (0,0))):=by show _=_;rw[hg'.block D ((bJ HDR.o)) (by simpa using aF.o.1)];exact HDR.o
   replace HI:=ae hr;replace mr:=ae (mr.o.growb hg' (Ne.symm eG.o.1));replace mF:=ae (mF.o.growb hg' (Ne.symm eG.o.2.1));replace ru:=ae (ru.o.growb hg' eG.o.2.2.1);replace HG:=ae (ak HG.o hg');clear hg hg' hr HDR d0 stf;obtain⟨sg',hs1,hs2,hs3⟩:=Qn.o l i jI.o HP.o;obtain⟨hsg,hj⟩:sg=sg'/\j=i+T.size:=by have:=lg.o.symm.trans hs1;simpa using this
   rw[hj]at Qm;have HF:Hd (zZ sg=fn/\T.toList.isEmpty=decide (sg<0)):=by rw[hsg];exact⟨hs2,hs3⟩
   clear hsg hj hs1 hs2 hs3 jI lg CT CS;have stf:∀(a:Addr) (m:Mode) (w:World),(store a (.func (.func fn) #[] #[]) m).run prog w=stored prog w a (.func (.func fn) #[] #[]) m:=fun a m w=>run_store prog w a _ m rfl
   have d0:u1.cell? ⟨D,0,none⟩=some (.string T):=by rw[aj HD1.o];rfl
   have d1:u1.cell? ⟨D,1,none⟩=some (.func (.func fn) #[] #[]):=by rw[aj HD1.o];rfl
   obtain⟨b0,b1,b2,b3,b4,b5,b6,b7⟩:=mF.o.cells;have bf:=mF.o.f;go_wp2_with (first|(go_at_call 160;refine(Qm.o _ ((HI.o.other eG.o.2.1 _ _).other eG.o.2.1 _ _)).mono ?_));rintro e u2 ⟨x1,x2,x3,P,n,rfl,hr,hg,hok⟩;have HR2:=ae hr;replace mF:=ae ((mF.o.set01 _ _).growb hg (Ne.symm eG.o.2.1));replace mr:=ae (((mr.o.other eG.o.2.2.2 _ _).other eG.o.2.2.2 _ _).growb hg (Ne.symm eG.o.1));replace HG:=ae (ak (dQ (dQ HG.o qU.o.2 _ _) qU.o.2 _ _) hg);have jD:=ae hok;clear hr hg hok b0 b1 b2 b3 b4 b5 b6 b7 bf d0 d1;obtain⟨b0,b1,b2,b3,b4,b5,b6,b7⟩:=mF.o.cells;have bf:=mF.o.f;obtain⟨a0,a1,a2,a3,a4,a5,a6,a7⟩:=mr.o.cells;have af:=mr.o.f;obtain⟨E,hE⟩:=zN (R.1);have HE:=ae hE;rw[hE];clear hE;go_wp2;have hrow:TB A (.string T) (.func (.func fn) #[] #[]) x1 x2 x3 P n (DD (Kv u2 (A+1) x1 x2 x3 P n) A (.string T) (.func (.func fn) #[] #[]) x1 x2 x3 P n):=YV (ag5 mr.o eG.o.2.2.2 _ _ _ _ _) _ _ _ _ _
   refine bodyPost_ret (Bf (p:=2) (u:=3) rfl _ _ A _ _ (0,0) _ rfl hrow underlying228 rfl (by kernel_rfl)) rfl ?_;refine⟨T,x1,x2,x3,P,n,?_,HF.o.2,Ql (ag3 HR2.o eG.o.2.1 _ _ _ _ _) eG.o.1 _ _ _ _ _ _ _,ag2 (ag4 HG.o qU.o.2 _ _ _ _ _) qU.o.1 _ _ _ _ _ _ _,jD.o⟩;rw[HF.o.1,HE.o];rfl
  |false=>
   rw[hp]at DF;have Qo:Hd (∀w,RS b s i w->Calls prog 109 #[.pointer (some ⟨b,0,none⟩),.string T] w fun e w'=>e=.returned (.bool false)/\RS b s (i) w'/\w.grownBy w' (some b)):=DF.o;have HP:=ae hp;clear hp DF
   go_region_held3 (fun w'=>w'.cell? ⟨D,0,none⟩=some (.string T)) ((first|(simp only[pX];assumption)|(refine World.grownBy.cell (by assumption) (by assumption) ?_;simpa using aF.o.1))) (first|(go_at_call 109;refine(Qo.o _ (by first|exact HI.o|exact HI.o.drew 1)).mono ?_;rintro e u1 ⟨rfl,hr,hg⟩))
   have hg':=jJ hg;have HD1:Hd (u1.heap[D]?=some (.cells #[.string T,.func (.func fn) #[] #[]] 224 (0,0))):=by show _=_;rw[hg'.block D ((bJ HDR.o)) (by simpa using aF.o.1)];exact HDR.o
   replace HI:=ae hr;replace mr:=ae (mr.o.growb hg' (Ne.symm eG.o.1));replace mF:=ae (mF.o.growb hg' (Ne.symm eG.o.2.1));replace ru:=ae (ru.o.growb hg' eG.o.2.2.1);replace HG:=ae (ak HG.o hg');clear hg hg' hr HDR d0 stf;go_wp2;go_roundw
   case rel=>exact⟨k+1,by go_num,Kw.o l i HP.o,fun m hm=>by rcases Nat.lt_succ_iff_lt_or_eq.1 hm with h|h;exact jI.o m h;rw[h];exact HP.o,HI.o,mr.o,mF.o,ru.o,HG.o⟩
   case measure=>simp[intOf];omega
theorem ag9{base g:Nat}{e:TypeId}{size n cap:Nat}{xs:List Value}(h:w.ownsRow base e size (.slice (some ⟨g,0,none⟩) n cap) n xs):∀j u,xs[j]?=some u->w.cell? ((⟨g,0,none⟩:Addr).add j)=some u:=by
 intro j u hu
 rcases h.2 with⟨h1,_⟩|⟨g',cap',cur,hv,hb,hc,h3,h4,h5,h6⟩
 ·cases h1
 ·simp only[Value.slice.injEq,Option.some.injEq,Addr.mk.injEq]at hv;obtain⟨⟨rfl,_,_⟩,_,_⟩:=hv;rw[FH,cell_of_row w g j cur e (0,0) hc];rw[<-h6,List.getElem?_take]at hu;split at hu
  ·simpa using hu
  ·cases hu
theorem YY{wa wb:World}{row:Option Nat}{b:Nat}(h:w.grownBy wa (some b))(hg:wa.grownBy wb row)(hr:∀q,row=some q->w.heap.size<=q):w.grownBy wb (some b) :=
 ⟨hg.os.trans h.os,hg.tape.trans h.tape,hg.output.trans h.output,Nat.le_trans h.size hg.size,fun k hk hn=>(hg.block k (Nat.lt_of_lt_of_le hk h.size) (fun e=>by have:=hr k e.symm;omega)).trans (h.block k hk hn)⟩
end Go.Proofs.YtbcfhgpfgdbjgaaGreatDoor
