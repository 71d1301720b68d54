import Derived.Test.YtapodndfpecglaaGreatDoorK10
import Derived.Test.YtapodndfpecglaaGreatDoorK11
import Derived.Test.YtapodndfpecglaaGreatDoorK12
set_option linter.all false
set_option maxRecDepth 100000
set_option maxHeartbeats 0
open Go.Proofs.Tryz
namespace Go.Proofs.YtapodndfpecglaaGreatDoor
def lastH(h:V->Bool):Bool->List V->V->Bool
 | on,[],_=>on
 | on,d :: D,x=>if aB d x<=0 then lastH h (h d) D x else on
theorem Ij(h:V->Bool)(x:V):∀(D:List V) (on:Bool),rG D->par (rF h on D) x=(on ^^ lastH h on D x)
 | [],on,_=>by simp[rF,par,lastH]
 | d :: D,on,hr=>by
  have hD:=D7 hr
  by_cases hd:aB d x<=0
  ·rw[lastH,if_pos hd,rF];split
   ·rename_i e;rw[Ij h x D on hD,e]
   ·rename_i e;rw[par,decide_eq_true hd,Ij h x D (h d) hD]
    cases hb:h d<;>cases on<;>first|(exact absurd hb e)|(cases lastH h _ D x<;>rfl)
  ·rw[lastH,if_neg hd];have hx:aB x d<0:=by have:=eH x d;omega
   rw[par_none]
   ·cases on<;>rfl
   ·intro t ht
    rcases List.mem_cons.1 ((AU h (d :: D) on).subset ht) with e|e
    ·rw[e];exact hx
    ·exact Ap hx (AV hr t e)
theorem OY(h:V->Bool)(x:V):∀(D:List V) (on:Bool),rG D →
  ((∀d∈D,aB x d<0)/\lastH h on D x=on)\/∃z∈D,aB z x<=0/\(∀p∈D,aB z p<0->aB x p<0)/\lastH h on D x=h z
 | [],on,_=>Or.inl ⟨fun d hd=>by simp at hd,rfl⟩
 | d :: D,on,hr=>by
  have hD:=D7 hr
  by_cases hd:aB d x<=0
  ·right;rw[lastH,if_pos hd]
   rcases OY h x D (h d) hD with⟨h1,h2⟩|⟨z,hz,h1,h2,h3⟩
   ·refine⟨d,by simp,hd,fun p hp hlt=>?_,h2⟩
    rcases List.mem_cons.1 hp with e|e
    ·rw[e,Ak]at hlt;omega
    ·exact h1 p e
   ·refine⟨z,by simp[hz],h1,fun p hp hlt=>?_,h3⟩
    rcases List.mem_cons.1 hp with e|e
    ·rw[e]at hlt;have:=AV hr z hz;have:=eH d z;omega
    ·exact h2 p e hlt
  ·left;have hx:aB x d<0:=by have:=eH x d;omega
   rw[lastH,if_neg hd];refine⟨fun p hp=>?_,rfl⟩
   rcases List.mem_cons.1 hp with e|e
   ·rw[e];exact hx
   ·exact Ap hx (AV hr p e)
theorem Zd(ch:Int->Bool)(h0:ch 0=false)(Ls:List (List Sg))(E:List Ed)(hE:E.Perm (uw 0 Ls))(hs:nY E)(x:V) :
  par (eP (fun b=>ch (having Ls.length b)) (fun _=>0) false E) x=ch (oL Ls x):=by
 have e1:=Dv (fun b=>ch (having Ls.length b)) E (fun x=>ch (oL Ls x)) (fun x=>by simp only[Dx Ls E hE]) hs E [] false rfl;have e2:(fun j=>tot [] j)=(fun _=>(0:Int)):=rfl;rw[e2]at e1;rw[e1,Ij _ x _ _ (Gi E hs),Bool.false_xor];have hne:=(Gh E hs).2
 rcases OY (fun x=>ch (oL Ls x)) x (jd E) false (Gi E hs) with⟨h1,h2⟩|⟨z,hz,h1,h2,h3⟩
 ·rw[h2,<-Dx Ls E hE];have:(fun j=>eY E j x)=fun _=>(0:Int):=by
   funext j;refine MB E j x fun e he hle=>?_
   obtain⟨p,hp,h0⟩:=hne e he;have a1:=h1 p hp;have a2:=eH e.at_ p;have a3:=oK (show aB p e.at_<=0 by omega) hle;have a4:=eH x p;omega
  rw[this,NJ,h0]
 ·rw[h3];show ch (oL Ls z)=_;rw[<-Dx Ls E hE,<-Dx Ls E hE];congr 2;funext j;refine Vd E j z x fun e he=>?_
  obtain⟨p,hp,h0⟩:=hne e he;have a2:=eH e.at_ p
  by_cases hzp:aB z p<0
  ·have hxp:=h2 p hp hzp;constructor
   ·intro h;exfalso;have a3:=oK (show aB p e.at_<=0 by omega) h;have a4:=eH z p;omega
   ·intro h;exfalso;have a3:=oK (show aB p e.at_<=0 by omega) h;have a4:=eH x p;omega
  ·have hpz:aB p z<=0:=by have:=eH z p;omega
   have OZ:=oK (show aB e.at_ p<=0 by omega) hpz;exact⟨fun _=>oK OZ h1,fun _=>OZ⟩
theorem O0(l:List Sp)(x:V):yu (l.map rV) x=eu l x:=by
 unfold yu eu;rw[List.any_map];rfl
theorem Ze(L:List Sp)(x:V):decide (0<oL [L.map rV] x)=eu L x:=by
 unfold oL;simp only[List.map_cons,List.map_nil,List.sum_cons,List.sum_nil,O0]
 cases eu L x<;>simp
theorem Zf(L M:List Sp)(x:V):decide (oL [L.map rV,M.map rV] x=((2:Nat):Int))=(eu L x && eu M x):=by
 unfold oL;simp only[List.map_cons,List.map_nil,List.sum_cons,List.sum_nil,O0]
 cases eu L x<;>cases eu M x<;>simp
def uQ(t:V):Bool:=jM ⟨t.major,t.minor,t.patch,t.pre,[]⟩
theorem Zg(Ls:List (List Sp))(h:Ls.all (·.all gI)=true):∀(k:Nat),∀e∈dM k Ls,uQ (aP e).at_=true:=by
 have key:∀(a b c:Int) (p q:List UInt8),jM ⟨a,b,c,p,q⟩=true->jM ⟨a,b,c,p,[]⟩=true:=by
  intro a b c p q h;unfold jM at h ⊢;simp only[Bool.and_eq_true]at h ⊢;exact⟨h.1,h.2.1,h.2.2.1,h.2.2.2.1,rfl⟩
 induction Ls with
 | nil=>intro k e he;simp[dM]at he
 | cons l Ls ih =>
  intro k e he;rw[List.all_cons,Bool.and_eq_true]at h;rw[dM]at he
  rcases List.mem_append.1 he with he|he
  ·obtain⟨s,hs,he⟩:=List.mem_flatMap.1 he;have hm:=List.all_eq_true.1 h.1 s hs;unfold gI at hm;rw[Bool.and_eq_true]at hm;have hf:=key _ _ _ _ _ hm.1;unfold dL at he;split at he
   ·simp at he;rw[he];exact hf
   ·rename_i ho;split at he
    ·simp at he
     rcases he with rfl|rfl
     ·exact hf
     ·have:=hm.2;rw[Bool.or_eq_true]at this
      rcases this with h|this
      ·exact absurd h ho
      ·exact key _ _ _ _ _ this
    ·simp at he
  ·exact ih h.2 (k+1) e he
structure NT(T:List V)(k:Nat):Prop where
 up:rG T
 ok:∀t∈T,fJ true t.pre=true
 sm:∀t∈T,t.pre.length<=1048576
 sd:∀t∈T,uQ t=true
 ln:T.length<=2097152*k
theorem NT.nf{T:List V}{k:Nat}(h:NT T k)(hk:k<=2):NF (outs T):=⟨T,rfl,h.up,fun t ht=>⟨h.ok t ht,h.sm t ht⟩,by
 have h1:=h.ln;have h5:2097152*k<=2097152*2:=Nat.mul_le_mul_left _ hk;omega⟩
theorem Zh(ch:Int->Bool)(Ls:List (List Sp))(hsz:∀l∈Ls,l.length<=1048576/\∀s∈l,jg s)(hsd:Ls.all (·.all gI)=true)(E:List Er)(hE:E.Perm (dM 0 Ls))(hs:nY (E.map aP)) :
  NT (eP (fun b=>ch (having Ls.length b)) (fun _=>0) false (E.map aP)) Ls.length:=by
 have e1:=Dv (fun b=>ch (having Ls.length b)) (E.map aP) (fun x=>ch (having Ls.length (fun j=>eY (E.map aP) j x))) (fun x=>rfl) hs (E.map aP) [] false rfl;have e2:(fun j=>tot [] j)=(fun _=>(0:Int)):=rfl;rw[e2]at e1;have hsub:=AU (fun x=>ch (having Ls.length (fun j=>eY (E.map aP) j x))) (jd (E.map aP)) false;rw[<-e1]at hsub;have hmem:∀t,t∈(eP (fun b=>ch (having Ls.length b)) (fun _=>0) false (E.map aP))->∃e∈dM 0 Ls,(aP e).at_=t:=by
  intro t ht;obtain⟨d,hd,rfl⟩:=(Gh _ hs).1 t (hsub.subset ht);obtain⟨e,he,rfl⟩:=List.mem_map.1 hd;exact⟨e,hE.mem_iff.1 he,rfl⟩
 refine⟨List.Pairwise.sublist hsub (Gi _ hs),?_,?_,?_,?_⟩
 ·intro t ht;obtain⟨e,he,rfl⟩:=hmem t ht;exact XF Ls hsd 0 e he
 ·intro t ht;obtain⟨e,he,rfl⟩:=hmem t ht;have:=Gy Ls hsz 0 e he;show e.a4.data.toList.length<=_;rw[Array.length_toList];exact this
 ·intro t ht;obtain⟨e,he,rfl⟩:=hmem t ht;exact Zg Ls hsd 0 e he
 ·have h1:(jd (E.map aP)).length<=(E.map aP).length:=by
   have:∀l:List Ed,(jd l).length<=l.length:=by
    intro l
    induction l with
    | nil=>simp[jd]
    | cons e r ih =>
     rw[jd];split
     ·rw[List.length_cons];omega
     ·rw[List.length_cons,List.length_cons];omega
   exact this _
  have h2:=hsub.length_le;have h3:=NI Ls (fun l hl=>(hsz l hl).1) 0;have h4:=hE.length_eq;rw[List.length_map]at h1;omega
theorem Zi(T:List V):2*(outs T).length<=T.length+1:=by
 induction T using outs.induct with
 | case1=>simp[outs]
 | case2 x=>simp[outs]
 | case3 x y r ih=>rw[outs,List.length_cons,List.length_cons,List.length_cons];omega
theorem NT.sound{T:List V}{k:Nat}(h:NT T k):(outs T).all gI=true:=by
 rw[List.all_eq_true];intro s hs;have hv:∀x y o,uA (fM x y o)=⟨x.major,x.minor,x.patch,x.pre,[]⟩:=fun x y o=>by simp[uA,fM]
 have hw:∀x y o,uB (fM x y o)=⟨y.major,y.minor,y.patch,y.pre,[]⟩:=fun x y o=>by simp[uB,fM]
 rcases GY T s hs with⟨x,hx,rfl⟩|⟨x,hx,y,hy,rfl⟩
 ·unfold gI;rw[hv];have:=h.sd x hx;unfold uQ at this;rw[this];rfl
 ·unfold gI;rw[hv,hw];have h1:=h.sd x hx;have h2:=h.sd y hy;unfold uQ at h1 h2;rw[h1,h2];rfl
structure Pa where
 n:Nat
 a:Int
 b:Int
 c:Int
 pre:List UInt8
structure Te where
 sign:Int
 p:Pa
structure ed(p:Pa):Prop where
 n3:p.n<=3
 a0:0<=p.a/\p.a<=999999999
 b0:0<=p.b/\p.b<=999999999
 c0:0<=p.c/\p.c<=999999999
 z1:p.n<1->p.a=0
 z2:p.n<2->p.b=0
 z3:p.n<3->p.c=0/\p.pre=[]
 ok:fJ true p.pre=true
def jy:V:=⟨0,0,0,[48]⟩
def qH:V:=⟨0,0,0,[]⟩
def yX(p:Pa):V:=⟨p.a,p.b,p.c,p.pre⟩
def bu(p:Pa):V:=⟨p.a,p.b,p.c,if p.n<3 then[48] else p.pre⟩
def iF(p:Pa)(v:V):Bool:=if p.n=3 then decide (aB (yX p) v=0) else(decide (p.n<1) || decide (v.major=p.a)) && (decide (p.n<2) || decide (v.minor=p.b))
def gQ(p:Pa)(v:V):Int:=if(iF p v || decide (p.n=0))=true then 0 else aB v (yX p)
def o8(p:Pa)(v:V):Bool:=decide (p.n=0) || decide (aB (bu p) v<=0)
def mr(p:Pa)(v:V):Bool :=
 if p.n=0 then true else if v.major≠p.a then false else if 0<p.a\/p.n=1 then true else if v.minor≠p.b then false else(decide (0<p.b) || decide (p.n=2)) || decide (v.patch=p.c)
def iK(t:Te)(v:V):Bool :=
 if t.sign=0 then iF t.p v else if t.sign=1 then decide (0<=gQ t.p v) else if t.sign=2 then decide (gQ t.p v<=0) else if t.sign=3 then decide (0<gQ t.p v)
 else if t.sign=4 then decide (gQ t.p v<0) else if t.sign=5 then o8 t.p v && mr t.p v
 else if t.sign=6 then(o8 t.p v && (decide (t.p.n<1) || decide (v.major=t.p.a))) && (decide (t.p.n<2) || decide (v.minor=t.p.b)) else o8 t.p v
def Bq(v:V)(k:Nat):V:=if k=1 then⟨v.major+1,0,0,[48]⟩ else if k=2 then⟨v.major,v.minor+1,0,[48]⟩ else⟨v.major,v.minor,v.patch+1,[48]⟩
def jR(p:Pa)(k:Nat):Sg:=if k=0 then⟨bu p,qH,true⟩ else⟨bu p,Bq (bu p) k,false⟩
def bY(p:Pa):Sg:=if p.n=3 then⟨bu p,kS (bu p),false⟩ else jR p p.n
def pq(p:Pa):Nat:=if p.a≠0 then 1 else if p.b≠0 then 2 else if p.c≠0 then 3 else p.n
def wR(s:Int)(p:Pa):Sg :=
 if s=0 then bY p else if s=1 then⟨bu p,qH,true⟩ else if s=2 then⟨jy,(bY p).to_,(bY p).op⟩
 else if s=3 then(if(bY p).op=true then⟨jy,jy,false⟩ else⟨(bY p).to_,qH,true⟩) else if s=4 then⟨jy,bu p,false⟩
 else if s=5 then jR p (pq p) else jR p (min p.n 2)
def uS(p q:Pa):Sg:=⟨bu p,(bY q).to_,(bY q).op⟩
theorem yY(x y:V):aB x y<0↔x.major<y.major\/(x.major=y.major/\(x.minor<y.minor\/(x.minor=y.minor/\(x.patch<y.patch\/(x.patch=y.patch/\jX x.pre y.pre<0))))):=by
 rw[nU];have c1:∀a b:Int,Lib.compareInt a b=0↔a=b:=fun a b=>lV
 have c2:∀a b:Int,Lib.compareInt a b<0↔a<b:=fun a b=>by
  unfold Lib.compareInt
  repeat' split
  all_goals omega
 split
 ·rename_i h;rw[c1]at h;split
  ·rename_i h2;rw[c1]at h2;split
   ·rename_i h3;rw[c1]at h3;omega
   ·rename_i h3;rw[c1]at h3;rw[c2];omega
  ·rename_i h2;rw[c1]at h2;rw[c2];omega
 ·rename_i h;rw[c1]at h;rw[c2];omega
theorem O1(x y:V):aB x y<=0↔¬aB y x<0:=by have:=eH x y;omega
theorem Zj(l:List UInt8):¬jX l [48]<0:=by
 have h1:=Lc l;have h2:=Dk.anti [48] l;omega
structure sN(v:V):Prop where
 n1:0<=v.major
 n2:0<=v.minor
 n3:0<=v.patch
 ok:fJ true v.pre=true
theorem O3(f v:V)(h:f.patch<4611686018427387904):aB v (kS f)<0↔aB v f<=0:=by
 constructor
 ·intro hn
  by_cases hc:aB v f<=0
  ·exact hc
  ·exact(UL f v h (by have:=eH v f;omega) hn).elim
 ·intro hc;exact Am hc (by have:=UJ f h;omega)
theorem oz(v:V)(a b c:Int):aB v ⟨a,b,c,[48]⟩ < 0↔v.major<a\/(v.major=a/\(v.minor<b\/(v.minor=b/\v.patch<c))):=by
 rw[yY];have:=Zj v.pre;simp only[];omega
theorem qJ(s:Sg)(v:V):jk s v=true↔¬aB v s.fr<0/\(s.op=true\/aB v s.to_<0):=by
 unfold jk;rw[Bool.and_eq_true,Bool.or_eq_true,decide_eq_true_eq,decide_eq_true_eq,O1]
theorem Eo(v:V)(hv:sN v):¬aB v jy<0:=by
 unfold jy;rw[oz];have:=hv.n1;have:=hv.n2;have:=hv.n3;omega
theorem named_ok(p:Pa)(hp:ed p)(v:V)(hv:sN v):jk (bY p) v=iF p v:=by
 obtain⟨n,a,b,c,pre⟩:=p;obtain⟨n3,a0,b0,c0,z1,z2,z3,ok⟩:=hp;simp only at n3 a0 b0 c0 z1 z2 z3 ok;have v1:=hv.n1;have v2:=hv.n2;have v3:=hv.n3;have hn:n=0\/n=1\/n=2\/n=3:=by omega
 rw[Bool.eq_iff_iff,qJ]
 rcases hn with rfl|rfl|rfl|rfl
 ·simp[bY,jR,iF,bu,oz,z1,z2,z3];omega
 ·simp[bY,jR,iF,bu,Bq,oz,z2,z3];omega
 ·simp[bY,jR,iF,bu,Bq,oz,z3];omega
 ·have hG:bY ⟨3,a,b,c,pre⟩=⟨⟨a,b,c,pre⟩,kS ⟨a,b,c,pre⟩,false⟩:=rfl;have hB:iF ⟨3,a,b,c,pre⟩ v=decide (aB (⟨a,b,c,pre⟩:V) v=0):=rfl;rw[hG,hB,decide_eq_true_eq];simp only[];rw[O3 _ _ (by simp only[];omega)];have:=eH (⟨a,b,c,pre⟩:V) v;constructor
  ·rintro⟨h1,h2⟩
   rcases h2 with h2|h2
   ·cases h2
   ·omega
  ·intro h;exact⟨by omega,Or.inr (by omega)⟩
theorem Zk(p:Pa)(hp:ed p)(v:V)(hv:sN v):(gQ p v<0↔aB v (bu p)<0)/\(0<gQ p v↔(bY p).op=false/\¬aB v (bY p).to_<0):=by
 obtain⟨n,a,b,c,pre⟩:=p;obtain⟨n3,a0,b0,c0,z1,z2,z3,ok⟩:=hp;simp only at n3 a0 b0 c0 z1 z2 z3 ok;have v1:=hv.n1;have v2:=hv.n2;have v3:=hv.n3;have hn:n=0\/n=1\/n=2\/n=3:=by omega
 rcases hn with rfl|rfl|rfl|rfl
 ·simp[bY,jR,gQ,bu,oz,z1,z2,z3];omega
 ·have hc:=(z3 (by omega)).1;have hp:=(z3 (by omega)).2;have hb:=z2 (by omega);subst hc hp hb;have l1:=yY v ⟨a,0,0,[]⟩;have l2:=yY ⟨a,0,0,[]⟩ v;have l3:=eH v ⟨a,0,0,[]⟩;simp only at l1 l2;have k1:=oz v a 0 0;have k2:=oz v (a+1) 0 0;have hG:bY ⟨1,a,0,0,[]⟩=⟨⟨a,0,0,[48]⟩,⟨a+1,0,0,[48]⟩,false⟩:=rfl;have hF:bu ⟨1,a,0,0,[]⟩=⟨a,0,0,[48]⟩:=rfl;have hP:gQ ⟨1,a,0,0,[]⟩ v=if v.major=a then 0 else aB v ⟨a,0,0,[]⟩:=by
   unfold gQ iF yX
   by_cases hm:v.major=a<;>simp[hm]
  by_cases hm:v.major=a
  ·rw[if_pos hm]at hP;simp only[hG,hF,hP,eq_self,true_and];omega
  ·rw[if_neg hm]at hP;simp only[hG,hF,hP,eq_self,true_and];omega
 ·have hc:=(z3 (by omega)).1;have hp:=(z3 (by omega)).2;subst hc hp;have l1:=yY v ⟨a,b,0,[]⟩;have l2:=yY ⟨a,b,0,[]⟩ v;have l3:=eH v ⟨a,b,0,[]⟩;simp only at l1 l2;have k1:=oz v a b 0;have k2:=oz v a (b+1) 0;have hG:bY ⟨2,a,b,0,[]⟩=⟨⟨a,b,0,[48]⟩,⟨a,b+1,0,[48]⟩,false⟩:=rfl;have hF:bu ⟨2,a,b,0,[]⟩=⟨a,b,0,[48]⟩:=rfl;have hP:gQ ⟨2,a,b,0,[]⟩ v=if v.major=a/\v.minor=b then 0 else aB v ⟨a,b,0,[]⟩:=by
   unfold gQ iF yX
   by_cases hm:v.major=a<;>by_cases hm2:v.minor=b<;>simp[hm,hm2]
  by_cases hm:v.major=a/\v.minor=b
  ·rw[if_pos hm]at hP;simp only[hG,hF,hP,eq_self,true_and];omega
  ·rw[if_neg hm]at hP;simp only[hG,hF,hP,eq_self,true_and];omega
 ·have l3:=eH (⟨a,b,c,pre⟩:V) v;have hG:bY ⟨3,a,b,c,pre⟩=⟨⟨a,b,c,pre⟩,kS ⟨a,b,c,pre⟩,false⟩:=rfl;have hF:bu ⟨3,a,b,c,pre⟩=⟨a,b,c,pre⟩:=rfl;have hP:gQ ⟨3,a,b,c,pre⟩ v=if aB (⟨a,b,c,pre⟩:V) v=0 then 0 else aB v ⟨a,b,c,pre⟩:=by
   unfold gQ iF yX
   by_cases hm:aB (⟨a,b,c,pre⟩:V) v=0<;>simp[hm]
  have hx:=O3 ⟨a,b,c,pre⟩ v (by simp only[];omega)
  by_cases h0:aB (⟨a,b,c,pre⟩:V) v=0
  ·rw[if_pos h0]at hP;simp only[hG,hF,hP,hx,eq_self,true_and];omega
  ·rw[if_neg h0]at hP;simp only[hG,hF,hP,hx,eq_self,true_and];omega
theorem O4(p:Pa)(hp:ed p)(k:Nat)(hk:k<=3)(v:V)(hv:sN v)(h1:k=1->True)(hz:(k<2->p.b=0\/True)) :
  jk (jR p k) v=true↔¬aB v (bu p)<0/\(k=0\/(k=1/\v.major<p.a+1)\/(k=2/\(v.major<p.a\/(v.major=p.a/\v.minor<p.b+1)))\/(k=3/\(v.major<p.a\/(v.major=p.a/\(v.minor<p.b\/(v.minor=p.b/\v.patch<p.c+1)))))):=by
 rw[qJ];have v1:=hv.n1;have v2:=hv.n2;have v3:=hv.n3;have hn:k=0\/k=1\/k=2\/k=3:=by omega
 rcases hn with rfl|rfl|rfl|rfl
 ·simp[jR]
 ·have e:jR p 1=⟨bu p,⟨p.a+1,0,0,[48]⟩,false⟩:=rfl;have k1:=oz v (p.a+1) 0 0;rw[e];simp only[];simp;omega
 ·have e:jR p 2=⟨bu p,⟨p.a,p.b+1,0,[48]⟩,false⟩:=rfl;have k1:=oz v p.a (p.b+1) 0;rw[e];simp only[];simp;omega
 ·have e:jR p 3=⟨bu p,⟨p.a,p.b,p.c+1,[48]⟩,false⟩:=rfl;have k1:=oz v p.a p.b (p.c+1);rw[e];simp only[];simp;omega
theorem O5(p:Pa)(v:V)(h:¬aB v (bu p)<0):p.a<v.major\/(p.a=v.major/\(p.b<v.minor\/(p.b=v.minor/\p.c<=v.patch))):=by
 have l1:=yY v (bu p);have e1:(bu p).major=p.a:=rfl;have e2:(bu p).minor=p.b:=rfl;have e3:(bu p).patch=p.c:=rfl;rw[e1,e2,e3]at l1;omega
theorem Ik(p:Pa)(hp:ed p)(v:V)(hv:sN v):o8 p v=true↔¬aB v (bu p)<0:=by
 unfold o8;rw[Bool.or_eq_true,decide_eq_true_eq,decide_eq_true_eq,O1];constructor
 ·rintro(h|h)
  ·have e:bu p=⟨0,0,0,[48]⟩:=by
    unfold bu;rw[if_pos (by omega),hp.z1 (by omega),hp.z2 (by omega),(hp.z3 (by omega)).1]
   rw[e];exact Eo v hv
  ·exact h
 ·exact Or.inr
theorem O6(s:Int)(hs:0<=s/\s<=6)(p:Pa)(hp:ed p)(v:V)(hv:sN v):jk (wR s p) v=iK ⟨s,p⟩ v:=by
 have hl:=Eo v hv;have hpl:=Zk p hp v hv;have hss:s=0\/s=1\/s=2\/s=3\/s=4\/s=5\/s=6:=by omega
 rcases hss with rfl|rfl|rfl|rfl|rfl|rfl|rfl
 ·exact named_ok p hp v hv
 ·rw[Bool.eq_iff_iff,qJ];show(¬aB v (bu p)<0/\(true=true\/_))↔decide (0<=gQ p v)=true;rw[decide_eq_true_eq];simp only[true_or,and_true];omega
 ·rw[Bool.eq_iff_iff,qJ];show(¬aB v jy<0/\((bY p).op=true\/aB v (bY p).to_<0))↔decide (gQ p v<=0)=true;rw[decide_eq_true_eq]
  cases hop:(bY p).op with
  | true =>
   rw[hop]at hpl;simp only[Bool.true_eq_false,false_and,iff_false]at hpl;simp only[true_or,and_true];exact⟨fun _=>by omega,fun _=>hl⟩
  | false =>
   rw[hop]at hpl;simp only[eq_self,true_and]at hpl;simp only[Bool.false_eq_true,false_or];omega
 ·show jk (if(bY p).op=true then⟨jy,jy,false⟩ else⟨(bY p).to_,qH,true⟩) v=decide (0<gQ p v);rw[Bool.eq_iff_iff,decide_eq_true_eq]
  cases hop:(bY p).op with
  | true =>
   rw[hop]at hpl;simp only[Bool.true_eq_false,false_and,iff_false]at hpl;rw[if_pos rfl,qJ];simp only[Bool.false_eq_true,false_or];omega
  | false =>
   rw[hop]at hpl;simp only[eq_self,true_and]at hpl;rw[if_neg (by decide),qJ];simp only[true_or,and_true];omega
 ·rw[Bool.eq_iff_iff,qJ];show(¬aB v jy<0/\(false=true\/aB v (bu p)<0))↔decide (gQ p v<0)=true;rw[decide_eq_true_eq];simp only[Bool.false_eq_true,false_or];omega
 ·show jk (jR p (pq p)) v=(o8 p v && mr p v);have n3:=hp.n3;have a0:=hp.a0;have b0:=hp.b0;have c0:=hp.c0;have z1:=hp.z1;have z2:=hp.z2;have z3:=hp.z3;rw[Bool.eq_iff_iff,Bool.and_eq_true,Ik p hp v hv,O4 p hp (pq p) (by unfold pq;split;omega;split;omega;split;omega;exact n3) v hv (fun _=>trivial) (fun _=>Or.inr trivial)];refine and_congr_right fun hf=>?_
  have hn:=O5 p v hf;unfold pq mr
  by_cases h0:p.n=0
  ·have e1:=z1 (by omega);have e2:=z2 (by omega);have e3:=(z3 (by omega)).1;simp[h0,e1,e2,e3]
  ·rw[if_neg h0]
   by_cases ha:p.a=0
   ·by_cases hb:p.b=0
    ·by_cases hc:p.c=0
     ·simp only[ha,hb,hc,ne_eq,not_true_eq_false,if_false]
      by_cases hm:v.major=0
      ·by_cases h1:p.n=1
       ·simp[hm,h1]<;>omega
       ·by_cases hm2:v.minor=0
        ·by_cases h2:p.n=2
         ·simp[hm,hm2,h2]<;>omega
         ·simp[hm,hm2,h1,h2]<;>omega
        ·simp[hm,hm2,h1]<;>omega
      ·simp[hm]<;>omega
     ·simp only[ha,hb,hc,ne_eq,not_true_eq_false,if_false,not_false_eq_true,if_true]
      by_cases hm:v.major=0
      ·by_cases hm2:v.minor=0
       ·have h3:p.n=3:=by omega
        simp[hm,hm2,h3]<;>omega
       ·have h3:p.n=3:=by omega
        simp[hm,hm2,h3]<;>omega
      ·simp[hm]<;>omega
    ·simp only[ha,hb,ne_eq,not_true_eq_false,if_false,not_false_eq_true,if_true];have h3:¬p.n=1:=by omega
     by_cases hm:v.major=0
     ·by_cases hm2:v.minor=p.b
      ·simp[hm,hm2,h3]<;>omega
      ·simp[hm,hm2,h3]<;>omega
     ·simp[hm]<;>omega
   ·simp only[ha,ne_eq,not_false_eq_true,if_true]
    by_cases hm:v.major=p.a
    ·simp[hm]<;>omega
    ·simp[hm]<;>omega
 ·show jk (jR p (min p.n 2)) v=((o8 p v && (decide (p.n<1) || decide (v.major=p.a))) && (decide (p.n<2) || decide (v.minor=p.b)));have n3:=hp.n3;have z1:=hp.z1;have z2:=hp.z2;rw[Bool.eq_iff_iff,Bool.and_eq_true,Bool.and_eq_true,and_assoc,Ik p hp v hv,O4 p hp (min p.n 2) (by omega) v hv (fun _=>trivial) (fun _=>Or.inr trivial)];refine and_congr_right fun hf=>?_
  have hn:=O5 p v hf;simp only[Bool.or_eq_true,decide_eq_true_eq];omega
theorem Zl(p q:Pa)(hp:ed p)(hq:ed q)(v:V)(hv:sN v):jk (uS p q) v=(iK ⟨7,p⟩ v && iK ⟨2,q⟩ v):=by
 have h2:=O6 2 (by decide) q hq v hv;rw[<-h2];show _=(o8 p v && _);rw[Bool.eq_iff_iff,Bool.and_eq_true,Ik p hp v hv,qJ,qJ];show(¬aB v (bu p)<0/\_)↔(¬aB v (bu p)<0/\(¬aB v jy<0/\((bY q).op=true\/aB v (bY q).to_<0)));have hl:=Eo v hv;constructor
 ·rintro⟨h1,h2⟩;exact⟨h1,hl,h2⟩
 ·rintro⟨h1,_,h2⟩;exact⟨h1,h2⟩
def isSp(c:UInt8):Bool:=decide (c=32)
def dQ(l:List UInt8)(i:Nat):Bool:=decide (l[i]?=some 42) || (decide (l[i]?=some 120) || decide (l[i]?=some 88))
def pa0:Pa:=⟨0,0,0,0,[]⟩
def pa3(l:List UInt8)(j:Nat)(a b c:Int):Int × Nat × Pa :=
 if(aJ l j).1=0 then(0,(aJ l j).2.1,⟨3,a,b,c,(aJ l j).2.2.1⟩) else((aJ l j).1,(aJ l j).2.1,pa0)
def jA(l:List UInt8)(j:Nat)(a b:Int):Int × Nat × Pa :=
 if l[j]?=some 46 then(if dQ l (j+1)=true then(0,j+2,⟨2,a,b,0,[]⟩) else if(rdNum l (j+1)).1=0 then pa3 l (rdNum l (j+1)).2.2 a b (rdNum l (j+1)).2.1 else((rdNum l (j+1)).1,(rdNum l (j+1)).2.2,pa0))
 else(0,j,⟨2,a,b,0,[]⟩)
def jB(l:List UInt8)(j:Nat)(a:Int):Int × Nat × Pa :=
 if l[j]?=some 46 then(if dQ l (j+1)=true then(0,j+2,⟨1,a,0,0,[]⟩) else if(rdNum l (j+1)).1=0 then jA l (rdNum l (j+1)).2.2 a (rdNum l (j+1)).2.1 else((rdNum l (j+1)).1,(rdNum l (j+1)).2.2,pa0))
 else(0,j,⟨1,a,0,0,[]⟩)
def ay(l:List UInt8)(i:Nat):Int × Nat × Pa :=
 if dQ l i=true then(0,i+1,pa0) else if(rdNum l i).1=0 then jB l (rdNum l i).2.2 (rdNum l i).2.1 else((rdNum l i).1,(rdNum l i).2.2,pa0)
def ax(l:List UInt8)(i:Nat):Int × Nat :=
 if l[i]?=some 62 then(if l[i+1]?=some 61 then(1,i+2) else(3,i+1))
 else if l[i]?=some 60 then(if l[i+1]?=some 61 then(2,i+2) else(4,i+1))
 else if l[i]?=some 61 then(0,i+1) else if l[i]?=some 94 then(5,i+1) else if l[i]?=some 126 then(6,i+1) else(-1,i)
def jC(l:List UInt8)(i:Nat):Bool:=decide (l[i]?=some 124) && decide (l[i+1]?=some 124)
def dD(l:List UInt8)(i:Nat):Bool:=decide (l.length<=i) || jC l i
def aj(l:List UInt8)(i:Nat):Nat:=i+runN isSp l i
def fP(s:Int):Int:=if s<0 then 0 else s
def eF(l:List UInt8):Nat->Nat->List Te->Int × Nat × List Te
 | 0,i,acc=>(0,i,acc)
 | f+1,i,acc =>
  if dD l i=true then(0,i,acc) else
  if(ay l (ax l i).2).1=0 then
   (if((ax l i).1<0/\acc=[])/\(ay l (ax l i).2).2.1<aj l (ay l (ax l i).2).2.1/\l[aj l (ay l (ax l i).2).2.1]?=some 45 then
    (if aj l (aj l (ay l (ax l i).2).2.1+1)=aj l (ay l (ax l i).2).2.1+1 then(2,aj l (ay l (ax l i).2).2.1+1,acc) else
    if(ay l (aj l (aj l (ay l (ax l i).2).2.1+1))).1=0 then
     (if dD l (aj l (ay l (aj l (aj l (ay l (ax l i).2).2.1+1))).2.1)=true then(0,aj l (ay l (aj l (aj l (ay l (ax l i).2).2.1+1))).2.1,[⟨7,(ay l (ax l i).2).2.2⟩,⟨2,(ay l (aj l (aj l (ay l (ax l i).2).2.1+1))).2.2⟩])
     else(2,aj l (ay l (aj l (aj l (ay l (ax l i).2).2.1+1))).2.1,acc))
    else((ay l (aj l (aj l (ay l (ax l i).2).2.1+1))).1,(ay l (aj l (aj l (ay l (ax l i).2).2.1+1))).2.1,acc))
   else if ¬(ay l (ax l i).2).2.1<aj l (ay l (ax l i).2).2.1/\¬dD l (aj l (ay l (ax l i).2).2.1)=true then(2,aj l (ay l (ax l i).2).2.1,acc)
   else eF l f (aj l (ay l (ax l i).2).2.1) (acc++[⟨fP (ax l i).1,(ay l (ax l i).2).2.2⟩]))
  else((ay l (ax l i).2).1,(ay l (ax l i).2).2.1,acc)
def aW(l:List UInt8):Nat->Nat->List Te->Int × Nat × List Te
 | 0,i,acc=>(0,i,acc)
 | f+1,i,acc =>
  if l.length<=i\/l[i]?=some 124 then(0,i,acc) else
  if(ay l (ax l i).2).1=0 then
   (if((ax l i).1<0/\acc=[])/\(ay l (ax l i).2).2.1<aj l (ay l (ax l i).2).2.1/\l[aj l (ay l (ax l i).2).2.1]?=some 45 then
    (if aj l (aj l (ay l (ax l i).2).2.1+1)=aj l (ay l (ax l i).2).2.1+1 then(2,aj l (ay l (ax l i).2).2.1+1,acc) else
    if(ay l (aj l (aj l (ay l (ax l i).2).2.1+1))).1=0 then(0,(ay l (aj l (aj l (ay l (ax l i).2).2.1+1))).2.1,[⟨7,(ay l (ax l i).2).2.2⟩,⟨2,(ay l (aj l (aj l (ay l (ax l i).2).2.1+1))).2.2⟩])
    else((ay l (aj l (aj l (ay l (ax l i).2).2.1+1))).1,(ay l (aj l (aj l (ay l (ax l i).2).2.1+1))).2.1,acc))
   else if ¬(ay l (ax l i).2).2.1<aj l (ay l (ax l i).2).2.1 then(0,aj l (ay l (ax l i).2).2.1,acc++[⟨fP (ax l i).1,(ay l (ax l i).2).2.2⟩])
   else aW l f (aj l (ay l (ax l i).2).2.1) (acc++[⟨fP (ax l i).1,(ay l (ax l i).2).2.2⟩]))
  else((ay l (ax l i).2).1,(ay l (ax l i).2).2.1,acc)
def after(l:List UInt8)(r:Int × Nat × List Te):Int × Nat × List Te :=
 if r.1=0 then(if dD l (aj l r.2.1)=true then(0,aj l r.2.1,r.2.2) else(2,aj l r.2.1,r.2.2)) else r
theorem pz(l:List UInt8)(i:Nat):i<=aj l i:=by unfold aj;omega
theorem Il(l:List UInt8)(i:Nat)(h:i<=l.length):aj l (aj l i)=aj l i:=by
 unfold aj;have:runN isSp l (i+runN isSp l i)=0:=LP isSp l _ 0 (Nat.zero_le _) (fun hlt=>by
  have:=rE isSp l i (by simpa using hlt);simpa using this)
 omega
def same(x y:Int × Nat × List Te):Prop:=x.1=y.1/\x.2.1=y.2.1/\(x.1=0->x.2.2=y.2.2)
theorem Zm(l:List UInt8)(i:Nat)(h:l[i]?=some 124):ax l i=(-1,i)/\(ay l i).1=2/\(ay l i).2.1=i:=by
 have hs:ax l i=(-1,i):=by unfold ax;simp[h]
 have hw:dQ l i=false:=by unfold dQ;simp[h]
 have hr:runN aN l i=0:=LP aN l i 0 (Nat.zero_le _) (fun hlt=>by
  have:l[i+0]'hlt=124:=by
   have:=List.getElem?_eq_some_iff.1 h;obtain⟨_,e⟩:=this;simpa using e
  rw[this];decide)
 have hn:rdNum l i=(2,0,i):=by unfold rdNum;rw[if_pos hr]
 refine⟨hs,?_,?_⟩
 ·unfold ay;rw[hw,hn];rfl
 ·unfold ay;rw[hw,hn];rfl
theorem yZ(l:List UInt8)(i:Nat)(hi:i<=l.length)(h:(rdNum l i).1=0):i<(rdNum l i).2.2/\(rdNum l i).2.2<=l.length:=by
 have hr:=kU aN l i hi;unfold rdNum at h ⊢;split at h
 ·simp at h
 ·rename_i h1;split at h
  ·simp at h
  ·rename_i h2;split at h
   ·simp at h
   ·rename_i h3;rw[if_neg h1,if_neg h2,if_neg h3];simp only[];omega
theorem O7(c:UInt8)(st:Bool)(l:List UInt8)(i:Nat)(hi:i<=l.length)(h:(aX c st l i).1=0):i<=(aX c st l i).2.1/\(aX c st l i).2.1<=l.length:=by
 refine⟨?_,G7 hi h⟩
 by_cases hc:l[i]?=some c
 ·rw[oO hc]at h ⊢;simp only at h ⊢;have hlt:=(List.getElem?_eq_some_iff.1 hc).1;have:=(yh st l _ (i+1) rfl (by omega) h).1;omega
 ·rw[mi hc];simp
theorem Zn(l:List UInt8)(i:Nat)(hi:i<=l.length)(h:(aJ l i).1=0):i<=(aJ l i).2.1/\(aJ l i).2.1<=l.length:=by
 unfold aJ at h ⊢
 by_cases h1:(aX 45 true l i).1=0
 ·rw[if_pos h1]at h ⊢;have p1:=O7 45 true l i hi h1
  by_cases h2:(aX 43 false l (aX 45 true l i).2.1).1=0
  ·rw[if_pos h2]at h ⊢;have p2:=O7 43 false l _ p1.2 h2;simp only[];omega
  ·rw[if_neg h2]at h;exact absurd h h2
 ·rw[if_neg h1]at h;exact absurd h h1
theorem jS{l:List UInt8}{j:Nat}{c:UInt8}(h:l[j]?=some c):j<l.length:=(List.getElem?_eq_some_iff.1 h).1
theorem Ep{l:List UInt8}{i:Nat}(h:dQ l i=true):i<l.length:=by
 unfold dQ at h;simp only[Bool.or_eq_true,decide_eq_true_eq]at h
 rcases h with h|h|h<;>exact jS h
theorem Zo(l:List UInt8)(j:Nat)(a b c:Int)(hj:j<=l.length)(h:(pa3 l j a b c).1=0):j<=(pa3 l j a b c).2.1/\(pa3 l j a b c).2.1<=l.length:=by
 unfold pa3 at h ⊢
 by_cases h1:(aJ l j).1=0
 ·rw[if_pos h1];exact Zn l j hj h1
 ·rw[if_neg h1]at h;exact absurd h h1
theorem Zp(l:List UInt8)(j:Nat)(a b:Int)(hj:j<=l.length)(h:(jA l j a b).1=0):j<=(jA l j a b).2.1/\(jA l j a b).2.1<=l.length:=by
 unfold jA at h ⊢
 by_cases h1:l[j]?=some 46
 ·have hl:=jS h1;rw[if_pos h1]at h ⊢
  by_cases h2:dQ l (j+1)=true
  ·have:=Ep h2;rw[if_pos h2];simp only[];omega
  ·rw[if_neg h2]at h ⊢
   by_cases h3:(rdNum l (j+1)).1=0
   ·have p1:=yZ l (j+1) (by omega) h3;rw[if_pos h3]at h ⊢;have p2:=Zo l _ a b _ p1.2 h;omega
   ·rw[if_neg h3]at h;exact absurd h h3
 ·rw[if_neg h1];simp only[];omega
theorem Zq(l:List UInt8)(j:Nat)(a:Int)(hj:j<=l.length)(h:(jB l j a).1=0):j<=(jB l j a).2.1/\(jB l j a).2.1<=l.length:=by
 unfold jB at h ⊢
 by_cases h1:l[j]?=some 46
 ·have hl:=jS h1;rw[if_pos h1]at h ⊢
  by_cases h2:dQ l (j+1)=true
  ·have:=Ep h2;rw[if_pos h2];simp only[];omega
  ·rw[if_neg h2]at h ⊢
   by_cases h3:(rdNum l (j+1)).1=0
   ·have p1:=yZ l (j+1) (by omega) h3;rw[if_pos h3]at h ⊢;have p2:=Zp l _ a _ p1.2 h;omega
   ·rw[if_neg h3]at h;exact absurd h h3
 ·rw[if_neg h1];simp only[];omega
theorem Bv(l:List UInt8)(i:Nat)(hi:i<=l.length)(h:(ay l i).1=0):i<(ay l i).2.1/\(ay l i).2.1<=l.length:=by
 unfold ay at h ⊢
 by_cases h2:dQ l i=true
 ·have:=Ep h2;rw[if_pos h2];simp only[];omega
 ·rw[if_neg h2]at h ⊢
  by_cases h3:(rdNum l i).1=0
  ·have p1:=yZ l i hi h3;rw[if_pos h3]at h ⊢;have p2:=Zq l _ _ p1.2 h;omega
  ·rw[if_neg h3]at h;exact absurd h h3
theorem Bz(l:List UInt8)(i:Nat)(hi:i<=l.length):i<=(ax l i).2/\(ax l i).2<=l.length:=by
 unfold ax
 repeat' split
 all_goals simp only[]
 ·rename_i h1 h2;have:=jS h2;omega
 ·rename_i h1 h2;have:=jS h1;omega
 ·rename_i h0 h1 h2;have:=jS h2;omega
 ·rename_i h0 h1 h2;have:=jS h1;omega
 ·rename_i h;have:=jS h;omega
 ·rename_i h;have:=jS h;omega
 ·rename_i h;have:=jS h;omega
 ·omega
theorem oC(l:List UInt8)(i:Nat)(hi:i<=l.length):aj l i<=l.length:=kU isSp l i hi
theorem O8(l:List UInt8):∀(f i:Nat) (acc:List Te),l.length<f+i->i<=l.length->aj l i=i->same (after l (aW l f i acc)) (eF l f i acc)
 | 0,i,acc,hf,hi,_=>by omega
 | f+1,i,acc,hf,hi,hsk=>by
  by_cases he:dD l i=true
  ·have hp:l.length<=i\/l[i]?=some 124:=by
    unfold dD jC at he;simp only[Bool.or_eq_true,Bool.and_eq_true,decide_eq_true_eq]at he
    rcases he with h|h
    ·exact Or.inl h
    ·exact Or.inr h.1
   have e1:aW l (f+1) i acc=(0,i,acc):=by unfold aW;rw[if_pos hp]
   have e2:eF l (f+1) i acc=(0,i,acc):=by unfold eF;rw[if_pos he]
   rw[e1,e2];unfold after;simp only[if_true,hsk,he];exact⟨rfl,rfl,fun _=>rfl⟩
  ·by_cases hb:l[i]?=some 124
   ·obtain⟨b1,b2,b3⟩:=Zm l i hb;have e1:aW l (f+1) i acc=(0,i,acc):=by unfold aW;rw[if_pos (Or.inr hb)]
    have e2:eF l (f+1) i acc=(2,i,acc):=by
     unfold eF;rw[if_neg he,b1];simp only[];rw[b2,if_neg (by decide),b3]
    rw[e1,e2];unfold after;simp only[if_true,hsk,if_neg he];exact⟨rfl,rfl,fun h=>by cases h⟩
   ·have hnl:¬l.length<=i:=by
     intro h;apply he;unfold dD;simp[h]
    have pF:¬(l.length<=i\/l[i]?=some 124):=fun h=>h.elim hnl hb
    have sp:=Bz l i hi;unfold aW eF;rw[if_neg pF,if_neg he]
    by_cases hr:(ay l (ax l i).2).1=0
    ·have pp:=Bv l _ sp.2 hr;have hkl:=oC l _ pp.2;have hkg:=pz l (ay l (ax l i).2).2.1;rw[if_pos hr,if_pos hr]
     by_cases hbt:((ax l i).1<0/\acc=[])/\(ay l (ax l i).2).2.1<aj l (ay l (ax l i).2).2.1/\l[aj l (ay l (ax l i).2).2.1]?=some 45
     ·rw[if_pos hbt,if_pos hbt]
      by_cases hm:aj l (aj l (ay l (ax l i).2).2.1+1)=aj l (ay l (ax l i).2).2.1+1
      ·rw[if_pos hm,if_pos hm];unfold after;rw[if_neg (by simp)];exact⟨rfl,rfl,fun h=>by cases h⟩
      ·rw[if_neg hm,if_neg hm]
       by_cases hq:(ay l (aj l (aj l (ay l (ax l i).2).2.1+1))).1=0
       ·rw[if_pos hq,if_pos hq];unfold after;simp only[if_true]
        by_cases hz:dD l (aj l (ay l (aj l (aj l (ay l (ax l i).2).2.1+1))).2.1)=true
        ·rw[if_pos hz,if_pos hz];exact⟨rfl,rfl,fun _=>rfl⟩
        ·rw[if_neg hz,if_neg hz];exact⟨rfl,rfl,fun h=>by cases h⟩
       ·rw[if_neg hq,if_neg hq];unfold after;rw[if_neg hq];exact⟨rfl,rfl,fun h=>absurd h hq⟩
     ·rw[if_neg hbt,if_neg hbt]
      by_cases hg:(ay l (ax l i).2).2.1<aj l (ay l (ax l i).2).2.1
      ·rw[if_neg (not_not_intro hg),if_neg (fun h=>h.1 hg)];exact O8 l f _ _ (by omega) hkl (Il l _ pp.2)
      ·rw[if_pos hg];unfold after;simp only[if_true];rw[Il l _ pp.2]
       by_cases hz:dD l (aj l (ay l (ax l i).2).2.1)=true
       ·rw[if_pos hz,if_neg (fun h=>h.2 hz)]
        cases f with
        | zero=>omega
        | succ f =>
         have e2:eF l (f+1) (aj l (ay l (ax l i).2).2.1) (acc++[⟨fP (ax l i).1,(ay l (ax l i).2).2.2⟩])=(0,aj l (ay l (ax l i).2).2.1,acc++[⟨fP (ax l i).1,(ay l (ax l i).2).2.2⟩]):=by unfold eF;rw[if_pos hz]
         rw[e2];exact⟨rfl,rfl,fun _=>rfl⟩
       ·rw[if_neg hz,if_pos ⟨hg,hz⟩];exact⟨rfl,rfl,fun h=>by cases h⟩
    ·rw[if_neg hr,if_neg hr];unfold after;rw[if_neg hr];exact⟨rfl,rfl,fun h=>absurd h hr⟩
theorem Io(l:List UInt8)(i:Nat)(h:(rdNum l i).1=0):0<=(rdNum l i).2.1/\(rdNum l i).2.1<=999999999:=by
 unfold rdNum at h ⊢;split at h
 ·simp at h
 ·rename_i h1;split at h
  ·simp at h
  ·rename_i h2;split at h
   ·simp at h
   ·rename_i h3;rw[if_neg h1,if_neg h2,if_neg h3];simp only[];have:=Ah (aK l i (runN aN l i)) (vV aN l i);omega
theorem Zr(c:UInt8)(st:Bool)(l:List UInt8)(i:Nat)(hi:i<=l.length)(h:(aX c st l i).1=0):fJ st (aX c st l i).2.2=true:=by
 unfold aX at h ⊢
 by_cases hc:l[i]?=some c
 ·rw[if_pos hc]at h ⊢;have hlt:=jS hc
  by_cases h2:(aO st l (i+1)).1=0
  ·rw[if_pos h2];have:=(yh st l _ (i+1) rfl (by omega) h2).2.2;unfold fJ;simp only[];rw[this];simp
  ·rw[if_neg h2]at h;exact absurd h h2
 ·rw[if_neg hc];rfl
theorem Zt(l:List UInt8)(i:Nat)(hi:i<=l.length)(h:(aJ l i).1=0):fJ true (aJ l i).2.2.1=true:=by
 unfold aJ at h ⊢
 by_cases h1:(aX 45 true l i).1=0
 ·rw[if_pos h1]at h ⊢
  by_cases h2:(aX 43 false l (aX 45 true l i).2.1).1=0
  ·rw[if_pos h2];exact Zr 45 true l i hi h1
  ·rw[if_neg h2]at h;exact absurd h h2
 ·rw[if_neg h1]at h;exact absurd h h1
theorem Zu:ed pa0:=⟨by decide,by decide,by decide,by decide,fun _=>rfl,fun _=>rfl,fun _=>⟨rfl,rfl⟩,rfl⟩
theorem Zv(l:List UInt8)(j:Nat)(a b:Int)(hj:j<=l.length)(ha:0<=a/\a<=999999999)(hb:0<=b/\b<=999999999)(h:(jA l j a b).1=0):ed (jA l j a b).2.2:=by
 have base:ed ⟨2,a,b,0,[]⟩:=⟨by simp,ha,hb,by simp,fun h=>by simp at h,fun h=>by simp at h,fun _=>⟨rfl,rfl⟩,rfl⟩;unfold jA at h ⊢
 by_cases h1:l[j]?=some 46
 ·have hl:=jS h1;rw[if_pos h1]at h ⊢
  by_cases h2:dQ l (j+1)=true
  ·rw[if_pos h2];exact base
  ·rw[if_neg h2]at h ⊢
   by_cases h3:(rdNum l (j+1)).1=0
   ·have p1:=yZ l (j+1) (by omega) h3;have v1:=Io l (j+1) h3;rw[if_pos h3]at h ⊢;unfold pa3 at h ⊢
    by_cases h4:(aJ l (rdNum l (j+1)).2.2).1=0
    ·rw[if_pos h4];exact⟨by simp,ha,hb,v1,fun h=>by simp at h,fun h=>by simp at h,fun h=>by simp at h,Zt l _ p1.2 h4⟩
    ·rw[if_neg h4]at h;exact absurd h h4
   ·rw[if_neg h3]at h;exact absurd h h3
 ·rw[if_neg h1];exact base
theorem Zw(l:List UInt8)(j:Nat)(a:Int)(hj:j<=l.length)(ha:0<=a/\a<=999999999)(h:(jB l j a).1=0):ed (jB l j a).2.2:=by
 have base:ed ⟨1,a,0,0,[]⟩:=⟨by simp,ha,by simp,by simp,fun h=>by simp at h,fun _=>rfl,fun _=>⟨rfl,rfl⟩,rfl⟩;unfold jB at h ⊢
 by_cases h1:l[j]?=some 46
 ·have hl:=jS h1;rw[if_pos h1]at h ⊢
  by_cases h2:dQ l (j+1)=true
  ·rw[if_pos h2];exact base
  ·rw[if_neg h2]at h ⊢
   by_cases h3:(rdNum l (j+1)).1=0
   ·have p1:=yZ l (j+1) (by omega) h3;rw[if_pos h3]at h ⊢;exact Zv l _ a _ p1.2 ha (Io l (j+1) h3) h
   ·rw[if_neg h3]at h;exact absurd h h3
 ·rw[if_neg h1];exact base
theorem Es(l:List UInt8)(i:Nat)(hi:i<=l.length)(h:(ay l i).1=0):ed (ay l i).2.2:=by
 unfold ay at h ⊢
 by_cases h2:dQ l i=true
 ·rw[if_pos h2];exact Zu
 ·rw[if_neg h2]at h ⊢
  by_cases h3:(rdNum l i).1=0
  ·have p1:=yZ l i hi h3;rw[if_pos h3]at h ⊢;exact Zw l _ _ p1.2 (Io l i h3) h
  ·rw[if_neg h3]at h;exact absurd h h3
open Go.RowKit
theorem O9(c:UInt8)(w:World):Calls prog 156 #[.int .u8 (c.toNat:Int)] w fun e w'=>e=.returned (.bool (isSp c))/\w'=w:=by
 go_enter func156,ntmps156;go_wp2
 all_goals go_ret
 all_goals (refine⟨bn ?_,rfl⟩;rw[Bool.eq_iff_iff];unfold isSp;simp[<-UInt8.toNat_inj];try omega)
theorem Zx(b:Nat)(s:ByteArray)(i:Nat)(w:World)(hi:i<=s.size)(h:RS b s i w)(hs:s.size<2 ^ 62) :
  Calls prog 155 #[.pointer (some ⟨b,0,none⟩),.func (.func 156) #[] #[]] w fun e w'=>e=.returned (.string ⟨(aK s.data.toList i (runN isSp s.data.toList i)).toArray⟩)/\RS b s (i+runN isSp s.data.toList i) w'/\w.grownBy w' (some b):=by
 have h0:=h.c0;have h1:=h.c1;have HR:=ae h;obtain⟨N,hN⟩:=zN (i+runN isSp s.data.toList i);have HN:Hd (N<=s.size):=by
  show N<=s.size;have:=kU isSp s.data.toList i (by simpa using hi);simp at this;omega
 have HA:Hd (∀j,i<=j->(hj:j<s.size)->j<N->isSp s[j]=true):=by
  show ∀j,i<=j->(hj:j<s.size)->j<N->isSp s[j]=true;intro j h1 hj h2;obtain⟨g1,g2⟩:=yg isSp s.data.toList i (j-i) (by omega);have e:i+(j-i)=j:=by omega
  simp only[e]at g2;exact g2
 have HS:Hd (∀hj:N<s.size,isSp s[N]=false):=by
  show ∀hj:N<s.size,isSp s[N]=false;intro hj;have:=rE isSp s.data.toList i (by rw[hN];simpa using hj);simp only[hN]at this;exact this
 have HT:Hd (runN isSp s.data.toList i=N-i/\i<=N):=⟨by omega,by omega⟩;have HI:=ae hi;rw[show runN isSp s.data.toList i=N-i by omega];obtain⟨X,hX⟩:∃X:List UInt8,X=aK s.data.toList i (N-i):=⟨_,rfl⟩;have hsl:∀wx,(Instr.slice 9 (.string s) (some (.int .i64 (i:Int))) (some (.int .i64 (N:Int))) none).run prog wx=.ok (.string ⟨X.toArray⟩) wx:=fun wx=>by rw[hX];exact pY s i N (by omega) HN.o wx
 rw[<-hX,show i+(N-i)=N by omega];clear h hN hi hX;go_enter func155,ntmps155;go_wp2;go_loopw [] (fun wr=>∃j:Nat,i<=j/\j<=N/\RS b s j wr/\w.grownBy wr (some b)) (fun wr=>s.size-placeOf b wr)
 case atStart=>exact⟨i,Nat.le_refl _,HT.o.2,HR.o,ak _ _⟩
 case round =>
  obtain⟨j,hij,hjn,hrs,hgb⟩:=hrel;have d0:=hrs.c0;have d1:=hrs.c1;have df:=hrs.f1;have az:=ae hrs;have bg:=ae hgb;have hns:=HN.o;clear hrs hgb h0 h1
  by_cases hlt:j<N
  ·have hjs:j<s.size:=by omega
   have hD:=HA.o j hij hjs hlt;have HK:Hd (i<=j/\j<N):=⟨hij,hlt⟩;clear hlt hjn hns hij;have hlt2:(j:Int)<(s.size:Int):=by omega
   go_wp2;go_quiet (first|(go_at_call 156;exact Calls.quiet_of_same (O9 _ _)));go_wp2;go_roundw
   case rel =>
    have:=HK.o;exact⟨j+1,by omega,by omega,(az.o.drew _).set (j+1),bF (aF bg.o _) _ _⟩
   case measure =>
    have e1:=az.o.place;have e2:=((az.o.drew nq).set (j+1)).place;rw[e1];exact Nat.lt_of_le_of_lt (Nat.le_of_eq (congrArg (s.size - ·) e2)) (by omega)
  ·have hjN:j=N:=by omega
   subst hjN
   by_cases hjs:j<s.size
   ·have hD:=HS.o hjs;have hlt2:(j:Int)<(s.size:Int):=by omega
    clear hlt hjn hns hij;go_wp2;go_quiet (first|(go_at_call 156;exact Calls.quiet_of_same (O9 _ _)));go_wp2;obtain⟨W,hW⟩:=zN (wr.drewN nq);have e0:W.cell? ⟨b,0,none⟩=some (.string s):=by rw[<-hW];exact d0
    have e1:W.cell? ⟨b,1,none⟩=some (.int .i64 (j:Int)):=by rw[<-hW];exact d1
    have HW:Hd (RS b s j W/\w.grownBy W (some b)):=by
     show RS b s j W/\w.grownBy W (some b);rw[<-hW];exact⟨az.o.drew _,aF bg.o _⟩
    rw[hW];clear hW d0 d1 df az bg;go_quiet (fail);go_wp2;go_ret;exact⟨rfl,HW.o.1.drew _,aF HW.o.2 _⟩
   ·have hd2:decide ((j:Int)<(s.size:Int))=false:=by simp;omega
    clear hlt hjn hns hij;go_wp2;go_quiet (fail);go_wp2;obtain⟨W,hW⟩:=zN (wr.drewN nq);have e0:W.cell? ⟨b,0,none⟩=some (.string s):=by rw[<-hW];exact d0
    have e1:W.cell? ⟨b,1,none⟩=some (.int .i64 (j:Int)):=by rw[<-hW];exact d1
    have HW:Hd (RS b s j W/\w.grownBy W (some b)):=by
     show RS b s j W/\w.grownBy W (some b);rw[<-hW];exact⟨az.o.drew _,aF bg.o _⟩
    rw[hW];clear hW d0 d1 df az bg;go_quiet (fail);go_wp2;go_ret;exact⟨rfl,HW.o.1.drew _,aF HW.o.2 _⟩
theorem Pg{l:List UInt8}{i:Nat}(h:l[i]?=some 42):dQ l i=true:=by unfold dQ;rw[decide_eq_true h];rfl
theorem Ph{l:List UInt8}{i:Nat}(h:l[i]?=some 120):dQ l i=true:=by unfold dQ;rw[h];rfl
theorem Pj{l:List UInt8}{i:Nat}(h:l[i]?=some 88):dQ l i=true:=by unfold dQ;rw[h];rfl
theorem Pm{l:List UInt8}{i:Nat}(h0:¬l[i]?=some 42)(h1:¬l[i]?=some 120)(h2:¬l[i]?=some 88):dQ l i=false:=by unfold dQ;rw[decide_eq_false h0,decide_eq_false h1,decide_eq_false h2];rfl
theorem Ip(b:Nat)(s:ByteArray)(i:Nat)(w:World)(hi:i<=s.size)(h:RS b s i w)(hs:s.size<2 ^ 62) :
  Calls prog 129 #[.pointer (some ⟨b,0,none⟩)] w fun e w'=>e=.returned (.bool (decide (i<aj s.data.toList i)))/\RS b s (aj s.data.toList i) w'/\w.grownBy w' (some b):=by
 have CR:=ae (Zx b s i w hi h hs);have hsl:s.data.toList.length=s.size:=by simp
 have hle:i+runN isSp s.data.toList i<=s.size:=by have:=kU isSp s.data.toList i (by rw[hsl];exact hi);rw[hsl]at this;exact this
 have hln:=mP s.data.toList i (runN isSp s.data.toList i) (by rw[hsl];exact hle);unfold aj;obtain⟨k,hk⟩:=zN (runN isSp s.data.toList i);rw[hk]at CR hln ⊢;obtain⟨X,hX⟩:∃X:ByteArray,X=⟨(aK s.data.toList i k).toArray⟩:=⟨_,rfl⟩;rw[<-hX]at CR;have gX:X.size=k:=by rw[hX];show(aK s.data.toList i k).toArray.size=k;simpa using hln
 clear hk hX hln hsl hle h hi
 by_cases hk0:k=0
 ·have e1:=rQ (gX.trans hk0);have HZ:Hd (decide (i<i+k)=false):=by show _=_;rw[hk0];simp
  clear hk0 gX;go_enter func129,ntmps129;go_wp2_with (go_at_call 155;refine CR.o.mono ?_);rintro e w1 ⟨rfl,hr1,hg1⟩;have HF:Hd (RS b s (i+k) w1/\w.grownBy w1 (some b)):=⟨hr1,hg1⟩;clear hr1 hg1;go_wp2;go_ret;exact⟨bn HZ.o.symm,HF.o.1,HF.o.2⟩
 ·have e1:=lM (fun h=>hk0 (gX.symm.trans h));have HZ:Hd (decide (i<i+k)=true):=by show _=_;simp;omega
  clear hk0 gX;go_enter func129,ntmps129;go_wp2_with (go_at_call 155;refine CR.o.mono ?_);rintro e w1 ⟨rfl,hr1,hg1⟩;have HF:Hd (RS b s (i+k) w1/\w.grownBy w1 (some b)):=⟨hr1,hg1⟩;clear hr1 hg1;go_wp2;go_ret;exact⟨bn HZ.o.symm,HF.o.1,HF.o.2⟩
theorem Zy(b:Nat)(s:ByteArray)(i:Nat)(w:World)(hi:i<=s.size)(h:RS b s i w)(hs:s.size<2 ^ 62) :
  Calls prog 199 #[.pointer (some ⟨b,0,none⟩)] w fun e w'=>e=.returned (.bool (dQ s.data.toList i))/\RS b s (if dQ s.data.toList i=true then i+1 else i) w'/\w.grownBy w' (some b):=by
 by_cases q0:s.data.toList[i]?=some 42
 ·have C0:=ae (fun w (h:RS b s i w)=>qh b s i 42 w q0 h hs);have HZ:=ae (Pg q0);rw[HZ.o];have HR:=ae h;have HG:Hd (w.grownBy w (some b)):=ak _ _;clear h hi hs q0;go_enter func199,ntmps199;go_wp2_with (go_at_call 130;refine(C0.o _ HR.o).mono ?_);rintro e w1 ⟨rfl,hr,hg⟩;replace HR:=ae hr;replace HG:=ae (ah HG.o hg);clear hr hg;go_wp2;go_ret;exact⟨rfl,HR.o,HG.o⟩
 ·by_cases q1:s.data.toList[i]?=some 120
  ·have C0:=ae (fun w (h:RS b s i w)=>mQ b s i 42 w hi q0 h hs);have C1:=ae (fun w (h:RS b s i w)=>qh b s i 120 w q1 h hs);have HZ:=ae (Ph q1);rw[HZ.o];have HR:=ae h;have HG:Hd (w.grownBy w (some b)):=ak _ _;clear h hi hs q0 q1;go_enter func199,ntmps199;go_wp2_with (go_at_call 130;refine(C0.o _ HR.o).mono ?_);rintro e w1 ⟨rfl,hr,hg⟩;replace HR:=ae hr;replace HG:=ae (ah HG.o hg);clear hr hg;go_wp2_with (go_at_call 130;refine(C1.o _ HR.o).mono ?_);rintro e w2 ⟨rfl,hr,hg⟩;replace HR:=ae hr;replace HG:=ae (ah HG.o hg);clear hr hg;go_wp2;go_ret;exact⟨rfl,HR.o,HG.o⟩
  ·by_cases q2:s.data.toList[i]?=some 88
   ·have C0:=ae (fun w (h:RS b s i w)=>mQ b s i 42 w hi q0 h hs);have C1:=ae (fun w (h:RS b s i w)=>mQ b s i 120 w hi q1 h hs);have C2:=ae (fun w (h:RS b s i w)=>qh b s i 88 w q2 h hs);have HZ:=ae (Pj q2);rw[HZ.o];have HR:=ae h;have HG:Hd (w.grownBy w (some b)):=ak _ _;clear h hi hs q0 q1 q2;go_enter func199,ntmps199;go_wp2_with (go_at_call 130;refine(C0.o _ HR.o).mono ?_);rintro e w1 ⟨rfl,hr,hg⟩;replace HR:=ae hr;replace HG:=ae (ah HG.o hg);clear hr hg;go_wp2_with (go_at_call 130;refine(C1.o _ HR.o).mono ?_);rintro e w2 ⟨rfl,hr,hg⟩;replace HR:=ae hr;replace HG:=ae (ah HG.o hg);clear hr hg;go_wp2_with (go_at_call 130;refine(C2.o _ HR.o).mono ?_);rintro e w3 ⟨rfl,hr,hg⟩;replace HR:=ae hr;replace HG:=ae (ah HG.o hg);clear hr hg;go_wp2;go_ret;exact⟨rfl,HR.o,HG.o⟩
   ·have C0:=ae (fun w (h:RS b s i w)=>mQ b s i 42 w hi q0 h hs);have C1:=ae (fun w (h:RS b s i w)=>mQ b s i 120 w hi q1 h hs);have C2:=ae (fun w (h:RS b s i w)=>mQ b s i 88 w hi q2 h hs);have HZ:=ae (Pm q0 q1 q2);rw[HZ.o];have HR:=ae h;have HG:Hd (w.grownBy w (some b)):=ak _ _;clear h hi hs q0 q1 q2;go_enter func199,ntmps199;go_wp2_with (go_at_call 130;refine(C0.o _ HR.o).mono ?_);rintro e w1 ⟨rfl,hr,hg⟩;replace HR:=ae hr;replace HG:=ae (ah HG.o hg);clear hr hg;go_wp2_with (go_at_call 130;refine(C1.o _ HR.o).mono ?_);rintro e w2 ⟨rfl,hr,hg⟩;replace HR:=ae hr;replace HG:=ae (ah HG.o hg);clear hr hg;go_wp2_with (go_at_call 130;refine(C2.o _ HR.o).mono ?_);rintro e w3 ⟨rfl,hr,hg⟩;replace HR:=ae hr;replace HG:=ae (ah HG.o hg);clear hr hg;go_wp2;go_ret;exact⟨rfl,HR.o,HG.o⟩
open Go.RowKit
def jT(p:Pa):Value:=.agg #[.int .i64 p.a,.int .i64 p.b,.int .i64 p.c,.string ⟨(bu p).pre.toArray⟩,.string ⟨#[]⟩,.int .i64 (p.n:Int)]
def sO(g:Sg):Value:=.agg #[.int .i64 g.fr.major,.int .i64 g.fr.minor,.int .i64 g.fr.patch,.string ⟨g.fr.pre.toArray⟩,.string ⟨#[]⟩,.int .i64 g.to_.major,.int .i64 g.to_.minor,.int .i64 g.to_.patch,.string ⟨g.to_.pre.toArray⟩,.string ⟨#[]⟩,.bool g.op]
def Ans(f:Nat)(args:Array Value)(v:Value):Prop:=∀w,Calls prog f args w fun e w'=>e=.returned v/\w.grownBy w' none
theorem Iq(p:Pa)(hp:ed p)(k:Nat)(hk:k<=3):Ans 195 #[jT p,.int .i64 (k:Int)] (sO (jR p k)):=by
 intro w;have hc:k=0\/k=1\/k=2\/k=3:=by omega
 rcases hc with rfl|rfl|rfl|rfl
 ·exact V4 p.a p.b p.c p.n ⟨(bu p).pre.toArray⟩ w hp.a0 hp.b0 hp.c0
 ·exact V5 p.a p.b p.c p.n ⟨(bu p).pre.toArray⟩ w hp.a0 hp.b0 hp.c0
 ·exact V6 p.a p.b p.c p.n ⟨(bu p).pre.toArray⟩ w hp.a0 hp.b0 hp.c0
 ·exact V7 p.a p.b p.c p.n ⟨(bu p).pre.toArray⟩ w hp.a0 hp.b0 hp.c0
theorem Zz(p:Pa)(hp:ed p):Ans 196 #[jT p] (.int .i64 (pq p:Int)):=by
 intro w;unfold jT pq
 by_cases h1:p.a=0
 ·by_cases h2:p.b=0
  ·by_cases h3:p.c=0
   ·rw[h1,h2,h3];exact VZ p.n ⟨(bu p).pre.toArray⟩ w
   ·rw[if_neg (not_not_intro h1),if_neg (not_not_intro h2),if_pos h3,h1,h2];exact VY p.c p.n ⟨(bu p).pre.toArray⟩ w h3
  ·rw[if_neg (not_not_intro h1),if_pos h2,h1];exact VW p.b p.c p.n ⟨(bu p).pre.toArray⟩ w h2
 ·rw[if_pos h1];exact VV p.a p.b p.c p.n ⟨(bu p).pre.toArray⟩ w h1
theorem ZA(p:Pa)(hp:ed p):pq p<=3:=by
 have:=hp.n3;unfold pq
 repeat' split
 all_goals omega
theorem Pn(p:Pa)(hp:ed p)(hl:p.pre.length<1000):Ans 193 #[jT p] (sO (bY p)):=by
 intro w
 by_cases h3:p.n=3
 ·obtain⟨n3,n4,hn,he,h1⟩:=X9 p.a p.b p.c ⟨(bu p).pre.toArray⟩ ⟨#[]⟩ (by
   show(bu p).pre.toArray.size < _;unfold bu;rw[if_neg (by omega)];simp;omega) (by have:=hp.c0;omega)
  have hG:bY p=⟨bu p,kS (bu p),false⟩:=by unfold bY;rw[if_pos h3]
  have hV:kS (bu p)=⟨p.a,p.b,n3,n4.data.toList⟩:=by
   rw[<-he];rfl
  have:=Yb p.a p.b p.c n3 ⟨(bu p).pre.toArray⟩ n4 w h1;unfold jT;rw[h3,hG,hV];unfold sO;have e4:(⟨n4.data.toList.toArray⟩:ByteArray)=n4:=by cases n4;simp
  rw[e4];exact this
 ·have hn:=hp.n3;have hG:bY p=jR p p.n:=by unfold bY;rw[if_neg h3]
  rw[hG];exact Yc p.a p.b p.c p.n _ _ _ _ _ _ ⟨(bu p).pre.toArray⟩ _ _ _ _ _ w (by simp;omega) (fun w=>Iq p hp p.n hn w)
def nH(s:Int):Nat:=if s=1 then 189 else if s=2 then 190 else if s=3 then 191 else if s=4 then 192 else if s=5 then 194 else if s=6 then 197 else 193
theorem ZB(s:Int)(hs:-1<=s/\s<=6)(p:Pa)(hp:ed p)(hl:p.pre.length<1000):Ans (nH s) #[jT p] (sO (wR (if s<0 then 0 else s) p)):=by
 intro w;have hN:=Pn p hp hl;have hss:s=-1\/s=0\/s=1\/s=2\/s=3\/s=4\/s=5\/s=6:=by omega
 rcases hss with rfl|rfl|rfl|rfl|rfl|rfl|rfl|rfl
 ·exact hN w
 ·exact hN w
 ·exact VO p.a p.b p.c p.n ⟨(bu p).pre.toArray⟩ w
 ·exact V8 p.a p.b p.c p.n _ _ _ _ _ _ ⟨(bu p).pre.toArray⟩ _ _ _ _ _ w hN
 ·show Calls _ _ _ _ fun e w'=>e=.returned (sO (if(bY p).op=true then⟨jy,jy,false⟩ else⟨(bY p).to_,qH,true⟩))/\_
  cases ho:(bY p).op with
  | true =>
   have hN':∀w,Calls prog 193 #[jT p] w fun e w'=>e=.returned (.agg #[.int .i64 (bY p).fr.major,.int .i64 (bY p).fr.minor,.int .i64 (bY p).fr.patch,.string ⟨(bY p).fr.pre.toArray⟩,.string ⟨#[]⟩,.int .i64 (bY p).to_.major,.int .i64 (bY p).to_.minor,.int .i64 (bY p).to_.patch,.string ⟨(bY p).to_.pre.toArray⟩,.string ⟨#[]⟩,.bool true])/\w.grownBy w' none:=fun w=>by
    have:=hN w;unfold sO at this;rw[ho]at this;exact this
   exact V9 p.a p.b p.c p.n _ _ _ _ _ _ ⟨(bu p).pre.toArray⟩ _ _ _ _ w hN'
  | false =>
   have hN':∀w,Calls prog 193 #[jT p] w fun e w'=>e=.returned (.agg #[.int .i64 (bY p).fr.major,.int .i64 (bY p).fr.minor,.int .i64 (bY p).fr.patch,.string ⟨(bY p).fr.pre.toArray⟩,.string ⟨#[]⟩,.int .i64 (bY p).to_.major,.int .i64 (bY p).to_.minor,.int .i64 (bY p).to_.patch,.string ⟨(bY p).to_.pre.toArray⟩,.string ⟨#[]⟩,.bool false])/\w.grownBy w' none:=fun w=>by
    have:=hN w;unfold sO at this;rw[ho]at this;exact this
   exact We p.a p.b p.c p.n _ _ _ _ _ _ ⟨(bu p).pre.toArray⟩ _ _ _ _ w hN'
 ·exact Yd p.a p.b p.c p.n ⟨(bu p).pre.toArray⟩ w
 ·exact Yi (pq p:Int) p.a p.b p.c p.n _ _ _ _ _ _ ⟨(bu p).pre.toArray⟩ _ _ _ _ _ w (Zz p hp) (Iq p hp (pq p) (ZA p hp))
 ·show Calls _ _ _ _ fun e w'=>e=.returned (sO (jR p (min p.n 2)))/\_
  have hn:p.n=0\/p.n=1\/p.n=2\/p.n=3:=by have:=hp.n3;omega
  have hA:=Iq p hp (min p.n 2) (by omega);unfold jT at hA ⊢
  rcases hn with h|h|h|h
  ·rw[h]at hA ⊢;exact Ye p.a p.b p.c _ _ _ _ _ _ ⟨(bu p).pre.toArray⟩ _ _ _ _ _ w hA
  ·rw[h]at hA ⊢;exact Yf p.a p.b p.c _ _ _ _ _ _ ⟨(bu p).pre.toArray⟩ _ _ _ _ _ w hA
  ·rw[h]at hA ⊢;exact Yg p.a p.b p.c _ _ _ _ _ _ ⟨(bu p).pre.toArray⟩ _ _ _ _ _ w hA
  ·rw[h]at hA ⊢;exact Yh p.a p.b p.c _ _ _ _ _ _ ⟨(bu p).pre.toArray⟩ _ _ _ _ _ w hA
theorem ZC(p q:Pa)(hq:ed q)(hl:q.pre.length<1000):Ans 175 #[jT p,jT q] (sO (uS p q)):=by
 intro w;exact Wh p.a p.b p.c p.n ⟨(bu p).pre.toArray⟩ q.a q.b q.c q.n _ _ _ _ _ _ ⟨(bu q).pre.toArray⟩ _ _ _ _ _ w (Pn q hq hl)
open Go.RowKit
theorem PB.f{A:Nat}{a b c:Int}{P:ByteArray}{n:Int}{w:World}(h:PB A a b c P n w)(o:Nat):w.frozen? ⟨A,o,none⟩=false:=Lib.frozen_of_heap h o
theorem PB.growb{A:Nat}{a b c:Int}{P:ByteArray}{n:Int}{w w':World}{q:Nat}(h:PB A a b c P n w)(hg:w.grownBy w' (some q))(hn:A≠q):PB A a b c P n w':=by
 unfold PB at h ⊢;rw[hg.block A ((aA h)) (by simpa using hn)];exact h
theorem PB.other{A V:Nat}{a b c:Int}{P:ByteArray}{n:Int}{w:World}(h:PB A a b c P n w)(hn:A≠V)(o:Nat)(x:Value):PB A a b c P n (w.setCell ⟨V,o,none⟩ x):=by
 unfold PB at h ⊢;rw[heap_setCell_other w _ A x (by simpa using hn)];exact h
theorem PB.set0{A:Nat}{a b c:Int}{P:ByteArray}{n:Int}{w:World}(h:PB A a b c P n w)(y:Int):PB A y b c P n (w.setCell ⟨A,0,none⟩ (.int .i64 y)):=by
 unfold PB at h ⊢;simp[World.setCell,Array.getElem?_modify,h]
theorem PB.set1{A:Nat}{a b c:Int}{P:ByteArray}{n:Int}{w:World}(h:PB A a b c P n w)(y:Int):PB A a y c P n (w.setCell ⟨A,1,none⟩ (.int .i64 y)):=by
 unfold PB at h ⊢;simp[World.setCell,Array.getElem?_modify,h]
theorem PB.set2{A:Nat}{a b c:Int}{P:ByteArray}{n:Int}{w:World}(h:PB A a b c P n w)(y:Int):PB A a b y P n (w.setCell ⟨A,2,none⟩ (.int .i64 y)):=by
 unfold PB at h ⊢;simp[World.setCell,Array.getElem?_modify,h]
theorem PB.set3{A:Nat}{a b c:Int}{P:ByteArray}{n:Int}{w:World}(h:PB A a b c P n w)(y:ByteArray):PB A a b c y n (w.setCell ⟨A,3,none⟩ (.string y)):=by
 unfold PB at h ⊢;simp[World.setCell,Array.getElem?_modify,h]
theorem PB.set5{A:Nat}{a b c:Int}{P:ByteArray}{n:Int}{w:World}(h:PB A a b c P n w)(y:Int):PB A a b c P y (w.setCell ⟨A,5,none⟩ (.int .i64 y)):=by
 unfold PB at h ⊢;simp[World.setCell,Array.getElem?_modify,h]
def y9(w:World)(A:Nat)(y1 y2 y3:Int)(x4:ByteArray)(n:Int):World:=(((((w.setCell ⟨A,0,none⟩ (.int .i64 y1)).setCell ⟨A,1,none⟩ (.int .i64 y2)).setCell ⟨A,2,none⟩ (.int .i64 y3)).setCell ⟨A,3,none⟩ (.string x4)).setCell ⟨A,4,none⟩ (.string ⟨#[]⟩)).setCell ⟨A,5,none⟩ (.int .i64 n)
theorem ZE{w:World}{A:Nat}{z1 z2 z3:Int}{z4:ByteArray}{m:Int}(h:PB A z1 z2 z3 z4 m w)(y1 y2 y3:Int)(x4:ByteArray)(n:Int):PB A y1 y2 y3 x4 n (y9 w A y1 y2 y3 x4 n):=by
 unfold PB at h ⊢;simp[y9,World.setCell,Array.getElem?_modify,h]
theorem ZF{b A:Nat}{s:ByteArray}{j:Nat}{w:World}(h:RS b s j w)(hn:b≠A)(y1 y2 y3:Int)(x4:ByteArray)(n:Int):RS b s j (y9 w A y1 y2 y3 x4 n):=(((((h.other hn _ _).other hn _ _).other hn _ _).other hn _ _).other hn _ _).other hn _ _
theorem ZG{b A:Nat}{w W:World}(h:w.grownBy W (some b))(hA:w.heap.size<=A)(y1 y2 y3:Int)(x4:ByteArray)(n:Int):w.grownBy (y9 W A y1 y2 y3 x4 n) (some b):=bi (bi (bi (bi (bi (bi h hA _ _) hA _ _) hA _ _) hA _ _) hA _ _) hA _ _
def uT(x1 x2 x3:Int)(P:ByteArray)(n:Int):Value:=.agg #[.int .i64 x1,.int .i64 x2,.int .i64 x3,.string P,.string ⟨#[]⟩,.int .i64 n]
def Po(b:Nat)(s:ByteArray)(R:Int × Nat × Pa)(w:World)(e:Ending)(w':World):Prop :=
 ∃(x1 x2 x3:Int) (P:ByteArray) (n:Int),e=.returned (.tuple #[.agg #[.int .i64 x1,.int .i64 x2,.int .i64 x3,.string P,.string ⟨#[]⟩,.int .i64 n],.int .i64 R.1])/\RS b s R.2.1 w'/\w.grownBy w' (some b)/\(R.1=0->uT x1 x2 x3 P n=jT R.2.2)
theorem Pq(b:Nat)(s:ByteArray)(i:Nat)(w:World)(hi:i<=s.size)(h:RS b s i w)(hs:s.size<=281474976710656) :
  Calls prog 174 #[.pointer (some ⟨b,0,none⟩)] w (Po b s (ay s.data.toList i) w):=by
 obtain⟨l,hl⟩:∃l,l=s.data.toList:=⟨_,rfl⟩;have hll:l.length=s.size:=by rw[hl];simp
 have bP:=ae hll;obtain⟨R,hR⟩:=zN (ay l i);rw[<-hl,hR];have HR:Hd (R=if dQ l i=true then(0,i+1,pa0) else if(rdNum l i).1=0 then jB l (rdNum l i).2.2 (rdNum l i).2.1 else((rdNum l i).1,(rdNum l i).2.2,pa0)):=hR.symm;have CN:Hd (∀i w,i<=s.size->RS b s i w->Calls prog 133 #[.pointer (some ⟨b,0,none⟩)] w fun e w'=>e=.returned (.tuple #[.int .i64 (rdNum l i).2.1,.int .i64 (rdNum l i).1])/\RS b s (rdNum l i).2.2 w'/\w.grownBy w' (some b)):=fun i w hi h=>by rw[hl];exact Nk b s i w hi h (by omega)
 have TY:=ae (fun i w (hc:l[i]?=some 46) (h:RS b s i w)=>qh b s i 46 w (by rw[<-hl];exact hc) h (by omega));have TN:Hd (∀i w,i<=s.size->¬l[i]?=some 46->RS b s i w->Calls prog 130 #[.pointer (some ⟨b,0,none⟩),.string ⟨#[46]⟩] w fun e w'=>e=.returned (.bool false)/\RS b s i w'/\w.grownBy w' (some b)):=fun i w hi hc h=>mQ b s i 46 w hi (by rw[<-hl];exact hc) h (by omega)
 have CW:Hd (∀i w,i<=s.size->RS b s i w->Calls prog 199 #[.pointer (some ⟨b,0,none⟩)] w fun e w'=>e=.returned (.bool (dQ l i))/\RS b s (if dQ l i=true then i+1 else i) w'/\w.grownBy w' (some b)):=fun i w hi h=>by rw[hl];exact Zy b s i w hi h (by omega)
 have CT:Hd (∀i w,i<=s.size->RS b s i w->Calls prog 107 #[.pointer (some ⟨b,0,none⟩)] w fun e w'=>e=.returned (.tuple #[.string ⟨(aJ l i).2.2.1.toArray⟩,.string ⟨(aJ l i).2.2.2.toArray⟩,.int .i64 (aJ l i).1])/\RS b s (aJ l i).2.1 w'/\w.grownBy w' (some b)):=fun i w hi h=>by rw[hl];exact Oh b s i w hi h hs
 have CL:=ae yA;have ou:Hd (∀i,i<=s.size->(rdNum l i).2.2<=s.size):=fun i hi=>by have:=Oc l i (by rw[hll];exact hi);rw[hll]at this;exact this
 have BC:Hd (∀i,l[i]?=some 46->i+1<=s.size):=fun i hc=>by have:=jS hc;rw[hll]at this;exact this
 have HI:=ae h;have lm:=ae hi;have qK:Hd (b<w.heap.size):=by obtain⟨t,h⟩:=h;exact(aA h)
 clear hl hll hR h hs hi;go_enter func174,ntmps174;go_wp2_with (go_at_call 150;refine(CL.o _).mono ?_);rintro e w1 ⟨rfl,hg⟩;obtain⟨A,hA⟩:=zN (w.heap.size);have sQ:Hd (PB A 0 0 0 ⟨#[]⟩ 0 w1):=by
  refine PB.grow ?_ hg;unfold PB;rw[<-hA];exact heap_alloc_new w _
 have HG:=ae (ah (au (ak w none) _) hg);have HA:Hd (w.heap.size<=A/\b<A/\A<w1.heap.size):=⟨Nat.le_of_eq hA,by rw[<-hA];exact qK.o,(aA sQ.o)⟩
 try rw[hA]
 clear hA hg;obtain⟨C,hC⟩:=zN (w1.heap.size);go_wp2_with (go_at_call 198;refine(uD _ _ (by simp;omega)).mono ?_);rintro e w2 ⟨rfl,hg⟩;have aG:Hd (PB C 0 0 0 ⟨#[48]⟩ 0 w2):=by
  refine PB.grow ?_ hg;unfold PB;rw[<-hC];exact heap_alloc_new w1 _
 replace sQ:=ae ((sQ.o.grow (au (ak w1 none) _)).grow hg);replace HG:=ae (ah HG.o (ah (au (ak w1 none) _) hg));replace HA:Hd (w.heap.size<=A/\b<A/\A<C):=⟨HA.o.1,HA.o.2.1,by rw[<-hC];exact HA.o.2.2⟩;replace HI:=ae (HI.o.grow HG.o)
 try rw[hC]
 clear hC hg;have ai:Hd (b≠C/\b≠A/\C≠A/\A≠C/\C≠b/\A≠b):=by have:=HA.o;refine⟨?_,?_,?_,?_,?_,?_⟩<;>omega
 have pG:Hd (w.heap.size<=C/\w.heap.size<=A):=by have:=HA.o;exact⟨by omega,this.1⟩
 have END:Hd (∀(W:World) (j:Nat) (y1 y2 y3:Int) (P:ByteArray) (n E:Int),RS b s j W->PB A 0 0 0 ⟨#[]⟩ 0 W->w.grownBy W (some b)->E=R.1->j=R.2.1->(E=0->uT y1 y2 y3 P n=jT R.2.2)->PB A y1 y2 y3 P n (y9 W A y1 y2 y3 P n)/\Po b s R w (.returned (.tuple #[.agg #[.int .i64 y1,.int .i64 y2,.int .i64 y3,.string P,.string ⟨#[]⟩,.int .i64 n],.int .i64 E])) (y9 W A y1 y2 y3 P n)):=by
  intro W j y1 y2 y3 P n E h1 h2 h3 h4 h5 h6;subst h4 h5;exact⟨ZE h2 _ _ _ _ _,y1,y2,y3,P,n,rfl,ZF h1 ai.o.2.1 _ _ _ _ _,ZG h3 pG.o.2 _ _ _ _ _,h6⟩
 go_wp2;go_loopw [13] (fun vi wr=>∃(k j:Nat) (x1 x2 x3 n:Int),vi=.int .i64 k/\j<=s.size/\RS b s j wr/\PB C x1 x2 x3 ⟨#[48]⟩ n wr/\PB A 0 0 0 ⟨#[]⟩ 0 wr/\w.grownBy wr (some b)/\((k=0/\j=i/\x1=0/\x2=0/\x3=0/\n=0)\/(k=1/\R=jB l j x1/\x2=0/\x3=0/\n=1)\/(k=2/\R=jA l j x1 x2/\x3=0/\n=2)\/(k=3/\R=pa3 l j x1 x2 x3/\n=3))) (fun vi _=>3-(intOf vi).toNat)
 case atStart=>exact⟨0,i,0,0,0,0,rfl,lm.o,HI.o,aG.o,sQ.o,bH HG.o _,Or.inl ⟨rfl,rfl,rfl,rfl,rfl,rfl⟩⟩
 case round =>
  obtain⟨k,j,x1,x2,x3,n,rfl,hj,hrs,hpc,hpa,hg,hcase⟩:=hrel;clear HI aG sQ HG;have HJ:=ae hj;have az:=ae hrs;have aG:=ae hpc;have aC:=ae hpa;have HG:=ae hg;clear hj hrs hpc hpa hg
  rcases hcase with⟨rfl,rfl,rfl,rfl,rfl,rfl⟩|⟨rfl,hrk,rfl,rfl,rfl⟩|⟨rfl,hrk,rfl,rfl⟩|⟨rfl,hrk,rfl⟩
  ·have ix:=uF C wr;have gY:=ae HJ.o;have HRk:=ae HR.o;clear HR
   cases hw:dQ l j with
   | true =>
    have HZ:Hd (R=(0,j+1,⟨0,0,0,0,[]⟩)):=by show R=_;rw[HRk.o,if_pos hw];rfl
    have iP:Hd (∀w,RS b s (j) w->Calls prog 199 #[.pointer (some ⟨b,0,none⟩)] w fun e w'=>e=.returned (.bool true)/\RS b s (j+1) w'/\w.grownBy w' (some b)):=fun w h=>by have:=CW.o (j) w gY.o h;rw[hw]at this;exact this
    clear hw;go_wp2_with (go_at_call 199;refine(iP.o _ az.o).mono ?_);rintro e u1 ⟨rfl,hr,hg⟩;replace az:=ae hr;replace aG:=ae (aG.o.growb hg ai.o.2.2.2.2.1);replace aC:=ae (aC.o.growb hg ai.o.2.2.2.2.2);replace HG:=ae (ah HG.o hg);clear hr hg;obtain⟨a0,a1,a2,a3,a4,a5⟩:=aC.o.cells;have af:=aC.o.f;obtain⟨c0,c1,c2,c3,c4,c5⟩:=aG.o.cells;have cf:=aG.o.f;obtain⟨n1,n2,n3,n4,n5,n6⟩:=ai.o;go_wp2;obtain⟨hrow,hpost⟩:=END.o u1 (j+1) 0 0 0 ⟨#[48]⟩ 0 0 az.o aC.o HG.o (by rw[HZ.o]) (by rw[HZ.o]) (fun _=>by rw[HZ.o];rfl);exact bodyPost_ret (je (p:=2) (u:=3) rfl _ _ A _ _ (0,0) _ rfl hrow underlying227 rfl (by kernel_rfl)) rfl hpost
   | false =>
    have HRn:Hd (R=if(rdNum l (j)).1=0 then jB l (rdNum l (j)).2.2 (rdNum l (j)).2.1 else((rdNum l (j)).1,(rdNum l (j)).2.2,pa0)):=by show R=_;rw[HRk.o,if_neg (by rw[hw];decide)]
    have iP:Hd (∀w,RS b s (j) w->Calls prog 199 #[.pointer (some ⟨b,0,none⟩)] w fun e w'=>e=.returned (.bool false)/\RS b s (j) w'/\w.grownBy w' (some b)):=fun w h=>by have:=CW.o (j) w gY.o h;rw[hw]at this;exact this
    have kF:=ae (fun w (h:RS b s (j) w)=>CN.o (j) w gY.o h);have kG:=ae (ou.o (j) gY.o);obtain⟨E,hE⟩:=zN ((rdNum l (j)).1);obtain⟨V,hV⟩:=zN ((rdNum l (j)).2.1);obtain⟨Q,hQ⟩:=zN ((rdNum l (j)).2.2);rw[hE,hV,hQ]at kF HRn;rw[hQ]at kG;clear hE hV hQ hw;go_wp2_with (go_at_call 199;refine(iP.o _ az.o).mono ?_);rintro e u1 ⟨rfl,hr,hg⟩;replace az:=ae hr;replace aG:=ae (aG.o.growb hg ai.o.2.2.2.2.1);replace aC:=ae (aC.o.growb hg ai.o.2.2.2.2.2);replace HG:=ae (ah HG.o hg);clear hr hg;go_wp2_with (go_at_call 133;refine(kF.o _ az.o).mono ?_);rintro e u2 ⟨rfl,hr,hg⟩;replace az:=ae hr;replace aG:=ae (aG.o.growb hg ai.o.2.2.2.2.1);replace aC:=ae (aC.o.growb hg ai.o.2.2.2.2.2);replace HG:=ae (ah HG.o hg);clear hr hg
    cases hz:(E == 0) with
    | false =>
     have HZ:Hd (R=(E,Q,pa0)):=by show R=_;rw[HRn.o,if_neg (by simpa using hz)]
     have jP:Hd (E≠0):=by show E≠0;simpa using hz
     obtain⟨a0,a1,a2,a3,a4,a5⟩:=aC.o.cells;have af:=aC.o.f;obtain⟨c0,c1,c2,c3,c4,c5⟩:=aG.o.cells;have cf:=aG.o.f;obtain⟨n1,n2,n3,n4,n5,n6⟩:=ai.o;go_wp2;obtain⟨hrow,hpost⟩:=END.o (u2.setCell ⟨C,0,none⟩ (.int .i64 V)) Q 0 0 0 ⟨#[]⟩ 0 E (az.o.other ai.o.1 _ _) (aC.o.other ai.o.2.2.2.1 _ _) (bi HG.o pG.o.1 _ _) (by rw[HZ.o]) (by rw[HZ.o]) (fun h=>absurd h jP.o);exact bodyPost_ret (je (p:=2) (u:=3) rfl _ _ A _ _ (0,0) _ rfl hrow underlying227 rfl (by kernel_rfl)) rfl hpost
    | true =>
     have HZ:Hd (R=jB l Q V):=by show R=_;rw[HRn.o,if_pos (by simpa using hz)]
     obtain⟨c0,c1,c2,c3,c4,c5⟩:=aG.o.cells;have cf:=aG.o.f;go_wp2;go_roundw
     case rel=>exact⟨1,Q,V,0,0,1,rfl,kG.o,(az.o.other ai.o.1 _ _).other ai.o.1 _ _,(aG.o.set0 V).set5 1,(aC.o.other ai.o.2.2.2.1 _ _).other ai.o.2.2.2.1 _ _,bi (bi HG.o pG.o.1 _ _) pG.o.1 _ _,Or.inr (Or.inl ⟨rfl,HZ.o,rfl,rfl,rfl⟩)⟩
     case measure=>simp[intOf]
  ·have ix:=vZ C wr;have mY:=ae hrk;clear hrk HR
   cases hc:decide (l[j]?=some 46) with
   | false =>
    have hc':=of_decide_eq_false hc;have HZ:Hd (R=(0,j,⟨1,x1,0,0,[]⟩)):=by show R=_;rw[mY.o];unfold jB;rw[if_neg hc']
    have wS:=ae (fun w (h:RS b s j w)=>TN.o j w HJ.o hc' h);clear hc hc';go_wp2_with (go_at_call 130;refine(wS.o _ az.o).mono ?_);rintro e u1 ⟨rfl,hr,hg⟩;replace az:=ae hr;replace aG:=ae (aG.o.growb hg ai.o.2.2.2.2.1);replace aC:=ae (aC.o.growb hg ai.o.2.2.2.2.2);replace HG:=ae (ah HG.o hg);clear hr hg;obtain⟨a0,a1,a2,a3,a4,a5⟩:=aC.o.cells;have af:=aC.o.f;obtain⟨c0,c1,c2,c3,c4,c5⟩:=aG.o.cells;have cf:=aG.o.f;obtain⟨n1,n2,n3,n4,n5,n6⟩:=ai.o;go_wp2;obtain⟨hrow,hpost⟩:=END.o u1 j x1 0 0 ⟨#[48]⟩ 1 0 az.o aC.o HG.o (by rw[HZ.o]) (by rw[HZ.o]) (fun _=>by rw[HZ.o];rfl);exact bodyPost_ret (je (p:=2) (u:=3) rfl _ _ A _ _ (0,0) _ rfl hrow underlying227 rfl (by kernel_rfl)) rfl hpost
   | true =>
    have hc':=of_decide_eq_true hc;have HRk:Hd (R=if dQ l (j+1)=true then(0,j+1+1,⟨1,x1,0,0,[]⟩) else if(rdNum l (j+1)).1=0 then jA l (rdNum l (j+1)).2.2 x1 (rdNum l (j+1)).2.1 else((rdNum l (j+1)).1,(rdNum l (j+1)).2.2,pa0)):=by show R=_;rw[mY.o];unfold jB;rw[if_pos hc']
    have wS:=ae (fun w (h:RS b s j w)=>TY.o j w hc' h);have gY:=ae (BC.o j hc');clear hc hc';go_wp2_with (go_at_call 130;refine(wS.o _ az.o).mono ?_);rintro e u0 ⟨rfl,hr,hg⟩;replace az:=ae hr;replace aG:=ae (aG.o.growb hg ai.o.2.2.2.2.1);replace aC:=ae (aC.o.growb hg ai.o.2.2.2.2.2);replace HG:=ae (ah HG.o hg);clear hr hg
    cases hw:dQ l (j+1) with
    | true =>
     have HZ:Hd (R=(0,(j+1)+1,⟨1,x1,0,0,[]⟩)):=by show R=_;rw[HRk.o,if_pos hw]
     have iP:Hd (∀w,RS b s ((j+1)) w->Calls prog 199 #[.pointer (some ⟨b,0,none⟩)] w fun e w'=>e=.returned (.bool true)/\RS b s ((j+1)+1) w'/\w.grownBy w' (some b)):=fun w h=>by have:=CW.o ((j+1)) w gY.o h;rw[hw]at this;exact this
     clear hw;go_wp2_with (go_at_call 199;refine(iP.o _ az.o).mono ?_);rintro e u1 ⟨rfl,hr,hg⟩;replace az:=ae hr;replace aG:=ae (aG.o.growb hg ai.o.2.2.2.2.1);replace aC:=ae (aC.o.growb hg ai.o.2.2.2.2.2);replace HG:=ae (ah HG.o hg);clear hr hg;obtain⟨a0,a1,a2,a3,a4,a5⟩:=aC.o.cells;have af:=aC.o.f;obtain⟨c0,c1,c2,c3,c4,c5⟩:=aG.o.cells;have cf:=aG.o.f;obtain⟨n1,n2,n3,n4,n5,n6⟩:=ai.o;go_wp2;obtain⟨hrow,hpost⟩:=END.o u1 ((j+1)+1) x1 0 0 ⟨#[48]⟩ 1 0 az.o aC.o HG.o (by rw[HZ.o]) (by rw[HZ.o]) (fun _=>by rw[HZ.o];rfl);exact bodyPost_ret (je (p:=2) (u:=3) rfl _ _ A _ _ (0,0) _ rfl hrow underlying227 rfl (by kernel_rfl)) rfl hpost
    | false =>
     have HRn:Hd (R=if(rdNum l ((j+1))).1=0 then jA l (rdNum l ((j+1))).2.2 x1 (rdNum l ((j+1))).2.1 else((rdNum l ((j+1))).1,(rdNum l ((j+1))).2.2,pa0)):=by show R=_;rw[HRk.o,if_neg (by rw[hw];decide)]
     have iP:Hd (∀w,RS b s ((j+1)) w->Calls prog 199 #[.pointer (some ⟨b,0,none⟩)] w fun e w'=>e=.returned (.bool false)/\RS b s ((j+1)) w'/\w.grownBy w' (some b)):=fun w h=>by have:=CW.o ((j+1)) w gY.o h;rw[hw]at this;exact this
     have kF:=ae (fun w (h:RS b s ((j+1)) w)=>CN.o ((j+1)) w gY.o h);have kG:=ae (ou.o ((j+1)) gY.o);obtain⟨E,hE⟩:=zN ((rdNum l ((j+1))).1);obtain⟨V,hV⟩:=zN ((rdNum l ((j+1))).2.1);obtain⟨Q,hQ⟩:=zN ((rdNum l ((j+1))).2.2);rw[hE,hV,hQ]at kF HRn;rw[hQ]at kG;clear hE hV hQ hw;go_wp2_with (go_at_call 199;refine(iP.o _ az.o).mono ?_);rintro e u1 ⟨rfl,hr,hg⟩;replace az:=ae hr;replace aG:=ae (aG.o.growb hg ai.o.2.2.2.2.1);replace aC:=ae (aC.o.growb hg ai.o.2.2.2.2.2);replace HG:=ae (ah HG.o hg);clear hr hg;go_wp2_with (go_at_call 133;refine(kF.o _ az.o).mono ?_);rintro e u2 ⟨rfl,hr,hg⟩;replace az:=ae hr;replace aG:=ae (aG.o.growb hg ai.o.2.2.2.2.1);replace aC:=ae (aC.o.growb hg ai.o.2.2.2.2.2);replace HG:=ae (ah HG.o hg);clear hr hg
     cases hz:(E == 0) with
     | false =>
      have HZ:Hd (R=(E,Q,pa0)):=by show R=_;rw[HRn.o,if_neg (by simpa using hz)]
      have jP:Hd (E≠0):=by show E≠0;simpa using hz
      obtain⟨a0,a1,a2,a3,a4,a5⟩:=aC.o.cells;have af:=aC.o.f;obtain⟨c0,c1,c2,c3,c4,c5⟩:=aG.o.cells;have cf:=aG.o.f;obtain⟨n1,n2,n3,n4,n5,n6⟩:=ai.o;go_wp2;obtain⟨hrow,hpost⟩:=END.o (u2.setCell ⟨C,1,none⟩ (.int .i64 V)) Q 0 0 0 ⟨#[]⟩ 0 E (az.o.other ai.o.1 _ _) (aC.o.other ai.o.2.2.2.1 _ _) (bi HG.o pG.o.1 _ _) (by rw[HZ.o]) (by rw[HZ.o]) (fun h=>absurd h jP.o);exact bodyPost_ret (je (p:=2) (u:=3) rfl _ _ A _ _ (0,0) _ rfl hrow underlying227 rfl (by kernel_rfl)) rfl hpost
     | true =>
      have HZ:Hd (R=jA l Q x1 V):=by show R=_;rw[HRn.o,if_pos (by simpa using hz)]
      obtain⟨c0,c1,c2,c3,c4,c5⟩:=aG.o.cells;have cf:=aG.o.f;go_wp2;go_roundw
      case rel=>exact⟨2,Q,x1,V,0,2,rfl,kG.o,(az.o.other ai.o.1 _ _).other ai.o.1 _ _,(aG.o.set1 V).set5 2,(aC.o.other ai.o.2.2.2.1 _ _).other ai.o.2.2.2.1 _ _,bi (bi HG.o pG.o.1 _ _) pG.o.1 _ _,Or.inr (Or.inr (Or.inl ⟨rfl,HZ.o,rfl,rfl⟩))⟩
      case measure=>simp[intOf]
  ·have ix:=yz C wr;have mY:=ae hrk;clear hrk HR
   cases hc:decide (l[j]?=some 46) with
   | false =>
    have hc':=of_decide_eq_false hc;have HZ:Hd (R=(0,j,⟨2,x1,x2,0,[]⟩)):=by show R=_;rw[mY.o];unfold jA;rw[if_neg hc']
    have wS:=ae (fun w (h:RS b s j w)=>TN.o j w HJ.o hc' h);clear hc hc';go_wp2_with (go_at_call 130;refine(wS.o _ az.o).mono ?_);rintro e u1 ⟨rfl,hr,hg⟩;replace az:=ae hr;replace aG:=ae (aG.o.growb hg ai.o.2.2.2.2.1);replace aC:=ae (aC.o.growb hg ai.o.2.2.2.2.2);replace HG:=ae (ah HG.o hg);clear hr hg;obtain⟨a0,a1,a2,a3,a4,a5⟩:=aC.o.cells;have af:=aC.o.f;obtain⟨c0,c1,c2,c3,c4,c5⟩:=aG.o.cells;have cf:=aG.o.f;obtain⟨n1,n2,n3,n4,n5,n6⟩:=ai.o;go_wp2;obtain⟨hrow,hpost⟩:=END.o u1 j x1 x2 0 ⟨#[48]⟩ 2 0 az.o aC.o HG.o (by rw[HZ.o]) (by rw[HZ.o]) (fun _=>by rw[HZ.o];rfl);exact bodyPost_ret (je (p:=2) (u:=3) rfl _ _ A _ _ (0,0) _ rfl hrow underlying227 rfl (by kernel_rfl)) rfl hpost
   | true =>
    have hc':=of_decide_eq_true hc;have HRk:Hd (R=if dQ l (j+1)=true then(0,j+1+1,⟨2,x1,x2,0,[]⟩) else if(rdNum l (j+1)).1=0 then pa3 l (rdNum l (j+1)).2.2 x1 x2 (rdNum l (j+1)).2.1 else((rdNum l (j+1)).1,(rdNum l (j+1)).2.2,pa0)):=by show R=_;rw[mY.o];unfold jA;rw[if_pos hc']
    have wS:=ae (fun w (h:RS b s j w)=>TY.o j w hc' h);have gY:=ae (BC.o j hc');clear hc hc';go_wp2_with (go_at_call 130;refine(wS.o _ az.o).mono ?_);rintro e u0 ⟨rfl,hr,hg⟩;replace az:=ae hr;replace aG:=ae (aG.o.growb hg ai.o.2.2.2.2.1);replace aC:=ae (aC.o.growb hg ai.o.2.2.2.2.2);replace HG:=ae (ah HG.o hg);clear hr hg
    cases hw:dQ l (j+1) with
    | true =>
     have HZ:Hd (R=(0,(j+1)+1,⟨2,x1,x2,0,[]⟩)):=by show R=_;rw[HRk.o,if_pos hw]
     have iP:Hd (∀w,RS b s ((j+1)) w->Calls prog 199 #[.pointer (some ⟨b,0,none⟩)] w fun e w'=>e=.returned (.bool true)/\RS b s ((j+1)+1) w'/\w.grownBy w' (some b)):=fun w h=>by have:=CW.o ((j+1)) w gY.o h;rw[hw]at this;exact this
     clear hw;go_wp2_with (go_at_call 199;refine(iP.o _ az.o).mono ?_);rintro e u1 ⟨rfl,hr,hg⟩;replace az:=ae hr;replace aG:=ae (aG.o.growb hg ai.o.2.2.2.2.1);replace aC:=ae (aC.o.growb hg ai.o.2.2.2.2.2);replace HG:=ae (ah HG.o hg);clear hr hg;obtain⟨a0,a1,a2,a3,a4,a5⟩:=aC.o.cells;have af:=aC.o.f;obtain⟨c0,c1,c2,c3,c4,c5⟩:=aG.o.cells;have cf:=aG.o.f;obtain⟨n1,n2,n3,n4,n5,n6⟩:=ai.o;go_wp2;obtain⟨hrow,hpost⟩:=END.o u1 ((j+1)+1) x1 x2 0 ⟨#[48]⟩ 2 0 az.o aC.o HG.o (by rw[HZ.o]) (by rw[HZ.o]) (fun _=>by rw[HZ.o];rfl);exact bodyPost_ret (je (p:=2) (u:=3) rfl _ _ A _ _ (0,0) _ rfl hrow underlying227 rfl (by kernel_rfl)) rfl hpost
    | false =>
     have HRn:Hd (R=if(rdNum l ((j+1))).1=0 then pa3 l (rdNum l ((j+1))).2.2 x1 x2 (rdNum l ((j+1))).2.1 else((rdNum l ((j+1))).1,(rdNum l ((j+1))).2.2,pa0)):=by show R=_;rw[HRk.o,if_neg (by rw[hw];decide)]
     have iP:Hd (∀w,RS b s ((j+1)) w->Calls prog 199 #[.pointer (some ⟨b,0,none⟩)] w fun e w'=>e=.returned (.bool false)/\RS b s ((j+1)) w'/\w.grownBy w' (some b)):=fun w h=>by have:=CW.o ((j+1)) w gY.o h;rw[hw]at this;exact this
     have kF:=ae (fun w (h:RS b s ((j+1)) w)=>CN.o ((j+1)) w gY.o h);have kG:=ae (ou.o ((j+1)) gY.o);obtain⟨E,hE⟩:=zN ((rdNum l ((j+1))).1);obtain⟨V,hV⟩:=zN ((rdNum l ((j+1))).2.1);obtain⟨Q,hQ⟩:=zN ((rdNum l ((j+1))).2.2);rw[hE,hV,hQ]at kF HRn;rw[hQ]at kG;clear hE hV hQ hw;go_wp2_with (go_at_call 199;refine(iP.o _ az.o).mono ?_);rintro e u1 ⟨rfl,hr,hg⟩;replace az:=ae hr;replace aG:=ae (aG.o.growb hg ai.o.2.2.2.2.1);replace aC:=ae (aC.o.growb hg ai.o.2.2.2.2.2);replace HG:=ae (ah HG.o hg);clear hr hg;go_wp2_with (go_at_call 133;refine(kF.o _ az.o).mono ?_);rintro e u2 ⟨rfl,hr,hg⟩;replace az:=ae hr;replace aG:=ae (aG.o.growb hg ai.o.2.2.2.2.1);replace aC:=ae (aC.o.growb hg ai.o.2.2.2.2.2);replace HG:=ae (ah HG.o hg);clear hr hg
     cases hz:(E == 0) with
     | false =>
      have HZ:Hd (R=(E,Q,pa0)):=by show R=_;rw[HRn.o,if_neg (by simpa using hz)]
      have jP:Hd (E≠0):=by show E≠0;simpa using hz
      obtain⟨a0,a1,a2,a3,a4,a5⟩:=aC.o.cells;have af:=aC.o.f;obtain⟨c0,c1,c2,c3,c4,c5⟩:=aG.o.cells;have cf:=aG.o.f;obtain⟨n1,n2,n3,n4,n5,n6⟩:=ai.o;go_wp2;obtain⟨hrow,hpost⟩:=END.o (u2.setCell ⟨C,2,none⟩ (.int .i64 V)) Q 0 0 0 ⟨#[]⟩ 0 E (az.o.other ai.o.1 _ _) (aC.o.other ai.o.2.2.2.1 _ _) (bi HG.o pG.o.1 _ _) (by rw[HZ.o]) (by rw[HZ.o]) (fun h=>absurd h jP.o);exact bodyPost_ret (je (p:=2) (u:=3) rfl _ _ A _ _ (0,0) _ rfl hrow underlying227 rfl (by kernel_rfl)) rfl hpost
     | true =>
      have HZ:Hd (R=pa3 l Q x1 x2 V):=by show R=_;rw[HRn.o,if_pos (by simpa using hz)]
      obtain⟨c0,c1,c2,c3,c4,c5⟩:=aG.o.cells;have cf:=aG.o.f;go_wp2;go_roundw
      case rel=>exact⟨3,Q,x1,x2,V,3,rfl,kG.o,(az.o.other ai.o.1 _ _).other ai.o.1 _ _,(aG.o.set2 V).set5 3,(aC.o.other ai.o.2.2.2.1 _ _).other ai.o.2.2.2.1 _ _,bi (bi HG.o pG.o.1 _ _) pG.o.1 _ _,Or.inr (Or.inr (Or.inr ⟨rfl,HZ.o,rfl⟩))⟩
      case measure=>simp[intOf]
  ·have mY:=ae hrk;clear hrk HR;have wU:=ae (fun w (h:RS b s j w)=>CT.o j w HJ.o h);have Pv:Hd (R=if(aJ l j).1=0 then(0,(aJ l j).2.1,⟨3,x1,x2,x3,(aJ l j).2.2.1⟩) else((aJ l j).1,(aJ l j).2.1,pa0)):=mY.o;obtain⟨E,Q,P,B,hT⟩:∃E Q P B,aJ l j=(E,Q,P,B):=⟨_,_,_,_,rfl⟩;rw[hT]at wU Pv;clear hT;go_wp2_with (go_at_call 107;refine(wU.o _ az.o).mono ?_);rintro e u1 rfl hr hg;replace az:=ae hr;replace aG:=ae (aG.o.growb hg ai.o.2.2.2.2.1);replace aC:=ae (aC.o.growb hg ai.o.2.2.2.2.2);replace HG:=ae (ah HG.o hg);clear hr hg;obtain⟨a0,a1,a2,a3,a4,a5⟩:=aC.o.cells;have af:=aC.o.f;obtain⟨c0,c1,c2,c3,c4,c5⟩:=aG.o.cells;have cf:=aG.o.f;obtain⟨n1,n2,n3,n4,n5,n6⟩:=ai.o;have HZ:Hd (E=R.1/\Q=R.2.1/\(E=0->uT x1 x2 x3 ⟨P.toArray⟩ 3=jT R.2.2)):=by
    have h:=Pv.o
    by_cases h0:E=0
    ·rw[if_pos h0]at h;rw[h];exact⟨h0,rfl,fun _=>rfl⟩
    ·rw[if_neg h0]at h;rw[h];exact⟨rfl,rfl,fun e=>absurd e h0⟩
   go_wp2;obtain⟨hrow,hpost⟩:=END.o (u1.setCell ⟨C,3,none⟩ (.string ⟨P.toArray⟩)) Q x1 x2 x3 ⟨P.toArray⟩ 3 E (az.o.other ai.o.1 _ _) (aC.o.other ai.o.2.2.2.1 _ _) (bi HG.o pG.o.1 _ _) HZ.o.1 HZ.o.2.1 (HZ.o.2.2);exact bodyPost_ret (je (p:=2) (u:=3) rfl _ _ A _ _ (0,0) _ rfl hrow underlying227 rfl (by kernel_rfl)) rfl hpost
def jU(l:List UInt8)(i:Nat):Int × Nat × List Te:=eF l (l.length+1) (aj l i) []
def jD(l:List UInt8)(i:Nat):Int × Nat × List Te:=after l (aW l (l.length+1) (aj l i) [])
def pI(l:List UInt8):Nat->Nat->List (List Te)->Int × Nat × List (List Te)
 | 0,i,acc=>(0,i,acc)
 | f+1,i,acc =>
  if(jU l i).1=0 then(if jC l (jU l i).2.1=true then pI l f ((jU l i).2.1+2) (acc++[(jU l i).2.2]) else(0,(jU l i).2.1,acc++[(jU l i).2.2]))
  else((jU l i).1,(jU l i).2.1,acc)
def iy(l:List UInt8):Nat->Nat->List (List Te)->Int × Nat × List (List Te)
 | 0,i,acc=>(0,i,acc)
 | f+1,i,acc =>
  if(jD l i).1=0 then(if l.length<=(jD l i).2.1 then(0,(jD l i).2.1,acc++[(jD l i).2.2]) else iy l f ((jD l i).2.1+2) (acc++[(jD l i).2.2]))
  else((jD l i).1,(jD l i).2.1,acc)
def ZH(x y:Int × Nat × List (List Te)):Prop:=x.1=y.1/\x.2.1=y.2.1/\(x.1=0->x.2.2=y.2.2)
theorem Px(l:List UInt8)(i:Nat)(hi:i<=l.length):same (jD l i) (jU l i):=by
 have h1:=oC l i hi;exact O8 l (l.length+1) (aj l i) [] (by omega) h1 (Il l i hi)
theorem ZI(l:List UInt8)(r:Int × Nat × List Te)(h:(after l r).1=0):dD l (after l r).2.1=true:=by
 unfold after at h ⊢
 by_cases h1:r.1=0
 ·rw[if_pos h1]at h ⊢
  by_cases h2:dD l (aj l r.2.1)=true
  ·rw[if_pos h2];exact h2
  ·rw[if_neg h2]at h;cases h
 ·rw[if_neg h1]at h;exact absurd h h1
theorem ZJ(l:List UInt8)(i:Nat)(h:dD l i=true):jC l i=true↔¬l.length<=i:=by
 unfold dD at h;rw[Bool.or_eq_true,decide_eq_true_eq]at h;constructor
 ·intro hb hl;unfold jC at hb;rw[List.getElem?_eq_none hl]at hb;simp at hb
 ·intro hn;exact h.resolve_left hn
theorem Eu(l:List UInt8)(i:Nat)(h:jC l i=true):i+2<=l.length:=by
 unfold jC at h;rw[Bool.and_eq_true,decide_eq_true_eq,decide_eq_true_eq]at h;have:=jS h.2;omega
theorem Ir(l:List UInt8):∀(f i:Nat) (acc:List Te),i<=l.length->(aW l f i acc).1=0->i<=(aW l f i acc).2.1/\(aW l f i acc).2.1<=l.length
 | 0,i,acc,hi,_=>by unfold aW;exact⟨Nat.le_refl _,hi⟩
 | f+1,i,acc,hi,h=>by
  have sp:=Bz l i hi;unfold aW at h ⊢
  by_cases h0:l.length<=i\/l[i]?=some 124
  ·rw[if_pos h0];exact⟨Nat.le_refl _,hi⟩
  ·rw[if_neg h0]at h ⊢
   by_cases hr:(ay l (ax l i).2).1=0
   ·have pp:=Bv l _ sp.2 hr;have hkl:=oC l _ pp.2;have hkg:=pz l (ay l (ax l i).2).2.1;rw[if_pos hr]at h ⊢
    by_cases hbt:((ax l i).1<0/\acc=[])/\(ay l (ax l i).2).2.1<aj l (ay l (ax l i).2).2.1/\l[aj l (ay l (ax l i).2).2.1]?=some 45
    ·rw[if_pos hbt]at h ⊢;have h45:=jS hbt.2.2
     by_cases hm:aj l (aj l (ay l (ax l i).2).2.1+1)=aj l (ay l (ax l i).2).2.1+1
     ·rw[if_pos hm]at h;cases h
     ·rw[if_neg hm]at h ⊢;have hk2:=oC l (aj l (ay l (ax l i).2).2.1+1) (by omega);have hk3:=pz l (aj l (ay l (ax l i).2).2.1+1)
      by_cases hq:(ay l (aj l (aj l (ay l (ax l i).2).2.1+1))).1=0
      ·rw[if_pos hq];have:=Bv l _ hk2 hq;simp only[];omega
      ·rw[if_neg hq]at h;exact absurd h hq
    ·rw[if_neg hbt]at h ⊢
     by_cases hg:(ay l (ax l i).2).2.1<aj l (ay l (ax l i).2).2.1
     ·rw[if_neg (not_not_intro hg)]at h ⊢;have:=Ir l f _ _ hkl h;omega
     ·rw[if_pos hg];simp only[];omega
   ·rw[if_neg hr]at h;exact absurd h hr
theorem Py(l:List UInt8)(i:Nat)(hi:i<=l.length)(h:(jD l i).1=0):i<=(jD l i).2.1/\(jD l i).2.1<=l.length:=by
 unfold jD after at h ⊢
 by_cases h1:(aW l (l.length+1) (aj l i) []).1=0
 ·rw[if_pos h1]at h ⊢;have h2:=Ir l _ _ _ (oC l i hi) h1;have h3:=pz l i;have h4:=pz l (aW l (l.length+1) (aj l i) []).2.1;have h5:=oC l _ h2.2;split<;>(simp only[];omega)
 ·rw[if_neg h1]at h;exact absurd h h1
theorem Pz(l:List UInt8):∀(f i:Nat) (acc:List (List Te)),i<=l.length->ZH (iy l f i acc) (pI l f i acc)
 | 0,i,acc,hi=>⟨rfl,rfl,fun _=>rfl⟩
 | f+1,i,acc,hi=>by
  obtain⟨s1,s2,s3⟩:=Px l i hi;unfold iy pI
  by_cases h:(jD l i).1=0
  ·have h':(jU l i).1=0:=by rw[<-s1];exact h
   have he:dD l (jD l i).2.1=true:=ZI l _ h;have hb:=ZJ l _ he;have hp:=Py l i hi h;rw[if_pos h,if_pos h',<-s2,<-s3 h]
   by_cases hl:l.length<=(jD l i).2.1
   ·rw[if_pos hl,if_neg (fun hb'=>hb.1 hb' hl)];exact⟨rfl,rfl,fun _=>rfl⟩
   ·have hb':=hb.2 hl;rw[if_neg hl];rw[if_pos hb'];exact Pz l f _ _ (Eu l _ hb')
  ·have h':¬(jU l i).1=0:=by rw[<-s1];exact h
   rw[if_neg h,if_neg h',<-s1,<-s2];exact⟨rfl,rfl,fun h0=>absurd h0 h⟩
def fF(l:List UInt8):Int × Nat × List (List Te) :=
 if 200<l.length then(1,0,[]) else if(pI l (l.length+1) 0 []).1=0 then(0,0,(pI l (l.length+1) 0 []).2.2) else((pI l (l.length+1) 0 []).1,(pI l (l.length+1) 0 []).2.1,[])
theorem PD(l:List UInt8)(i:Nat):-1<=(ax l i).1/\(ax l i).1<=6:=by
 unfold ax
 repeat' split
 all_goals simp
theorem ZK(l:List UInt8)(i k:Nat):(aK l i k).length<=l.length:=by unfold aK;simp;omega
theorem ZL(c:UInt8)(st:Bool)(l:List UInt8)(i:Nat):(aX c st l i).2.2.length<=l.length:=by
 unfold aX
 repeat' split
 all_goals first|exact ZK _ _ _|exact Nat.zero_le _
theorem ZM(l:List UInt8)(i:Nat):(aJ l i).2.2.1.length<=l.length:=by
 unfold aJ
 repeat' split
 all_goals first|exact ZL _ _ _ _|exact Nat.zero_le _
theorem Iu(l:List UInt8)(i:Nat):(ay l i).2.2.pre.length<=l.length:=by
 unfold ay jB jA pa3
 repeat' split
 all_goals first|exact ZM _ _|exact Nat.zero_le _
def kJ(ts:List Te)(v:V):Bool:=ts.all fun t=>iK t v
def iZ(S:List (List Te))(v:V):Bool:=S.any fun ts=>kJ ts v
theorem ZN(ts:List Te)(t:Te)(v:V):kJ (ts++[t]) v=(kJ ts v && iK t v):=by unfold kJ;simp
theorem ZO(S:List (List Te))(ts:List Te)(v:V):iZ (S++[ts]) v=(iZ S v || kJ ts v):=by unfold iZ;simp
def jE(g:Sg):Sp:=fM g.fr g.to_ g.op
structure BOk(v:V)(n:Nat):Prop where
 m1:0<=v.major/\v.major<=1000000000
 m2:0<=v.minor/\v.minor<=1000000000
 m3:0<=v.patch/\v.patch<=1000000000
 ok:fJ true v.pre=true
 sm:v.pre.length<=n
theorem BOk.sound{v:V}{n:Nat}(h:BOk v n):uQ v=true:=by
 unfold uQ jM;simp only[Bool.and_eq_true,nV];exact⟨h.m1,h.m2,h.m3,h.ok,rfl⟩
structure GOk(g:Sg)(n:Nat):Prop where
 fr:BOk g.fr n
 to_:g.op=false->BOk g.to_ n
 tn:g.to_.pre.length<=n
theorem BD:fJ true [48]=true:=by decide
theorem PE(n:Nat)(hn:1<=n):BOk jy n:=⟨by decide,by decide,by decide,by decide,by simpa [jy] using hn⟩
theorem BF(p:Pa)(hp:ed p)(n:Nat)(hn:1<=n)(hl:p.pre.length<=n):BOk (bu p) n:=by
 have a0:=hp.a0;have b0:=hp.b0;have c0:=hp.c0;refine⟨⟨a0.1,?_⟩,⟨b0.1,?_⟩,⟨c0.1,?_⟩,?_,?_⟩
 ·show p.a<=_;omega
 ·show p.b<=_;omega
 ·show p.c<=_;omega
 ·show fJ true (if p.n<3 then[48] else p.pre)=true;split
  ·exact BD
  ·exact hp.ok
 ·show(if p.n<3 then[48] else p.pre).length<=n;split
  ·exact hn
  ·exact hl
theorem ZP(p:Pa)(hp:ed p)(k:Nat)(n:Nat)(hn:1<=n):BOk (Bq (bu p) k) n:=by
 have a0:=hp.a0;have b0:=hp.b0;have c0:=hp.c0;unfold Bq;have e1:(bu p).major=p.a:=rfl;have e2:(bu p).minor=p.b:=rfl;have e3:(bu p).patch=p.c:=rfl;rw[e1,e2,e3];split
 ·exact⟨by simp only[];omega,by simp,by simp,BD,hn⟩
 ·split
  ·exact⟨by simp only[];omega,by simp only[];omega,by simp,BD,hn⟩
  ·exact⟨by simp only[];omega,by simp only[];omega,by simp only[];omega,BD,hn⟩
theorem ZQ(v:V)(n:Nat)(h1:0<=v.major/\v.major<=1000000000)(h2:0<=v.minor/\v.minor<=1000000000)(h3:0<=v.patch/\v.patch<=999999999)(hk:fJ true v.pre=true)(hn:1<=n)(hl:v.pre.length+2<=n):BOk (kS v) n:=by
 unfold kS
 by_cases e:v.pre=[]
 ·rw[if_pos e,if_pos (by omega)];exact⟨h1,h2,by simp only[];omega,BD,hn⟩
 ·rw[if_neg e];refine⟨h1,h2,by simp only[];omega,?_,by simp only[List.length_append,List.length_cons,List.length_nil];omega⟩;have h4:=UY hk e;show fJ true (v.pre++[46,48])=true;unfold fJ;rw[show v.pre++[46,48]=v.pre++46 :: [48] from rfl,Dj,List.all_append,h4];simp only[Bool.true_and,Bool.or_eq_true];exact Or.inr (by decide)
theorem Iw(p:Pa)(hp:ed p)(k n:Nat)(hn:1<=n)(hl:p.pre.length<=n):GOk (jR p k) n:=by
 unfold jR;split
 ·exact⟨BF p hp n hn hl,fun h=>(by cases h),Nat.zero_le _⟩
 ·have:=ZP p hp k n hn;exact⟨BF p hp n hn hl,fun _=>this,this.sm⟩
theorem PG(p:Pa)(hp:ed p)(n:Nat)(hn:1<=n)(hl:p.pre.length+2<=n):GOk (bY p) n:=by
 unfold bY;have a0:=hp.a0;have b0:=hp.b0;have c0:=hp.c0;split
 ·rename_i h3;have hf:=BF p hp n hn (by omega);have e:(bu p).pre=p.pre:=by unfold bu;rw[if_neg (by omega)]
  have:=ZQ (bu p) n hf.m1 hf.m2 ⟨hf.m3.1,by show p.c<=_;omega⟩ hf.ok hn (by rw[e];exact hl);exact⟨hf,fun _=>this,this.sm⟩
 ·exact Iw p hp p.n n hn (by omega)
theorem ZR(s:Int)(p:Pa)(hp:ed p)(n:Nat)(hn:1<=n)(hl:p.pre.length+2<=n):GOk (wR s p) n:=by
 have hlow:=PE n hn;have hf:=BF p hp n hn (by omega);have hN:=PG p hp n hn hl;unfold wR;split
 ·exact hN
 ·split
  ·exact⟨hf,fun h=>(by cases h),Nat.zero_le _⟩
  ·split
   ·exact⟨hlow,hN.to_,hN.tn⟩
   ·split
    ·split
     ·exact⟨hlow,fun _=>hlow,hlow.sm⟩
     ·rename_i hop;have hb:=hN.to_ (by simpa using hop);exact⟨hb,fun h=>(by cases h),Nat.zero_le _⟩
    ·split
     ·exact⟨hlow,fun _=>hf,hf.sm⟩
     ·split
      ·exact Iw p hp _ n hn (by omega)
      ·exact Iw p hp _ n hn (by omega)
theorem ZT(p q:Pa)(hp:ed p)(hq:ed q)(n:Nat)(hn:1<=n)(hl:p.pre.length<=n)(hl2:q.pre.length+2<=n):GOk (uS p q) n:=by
 have hN:=PG q hq n hn hl2;exact⟨BF p hp n hn hl,hN.to_,hN.tn⟩
theorem GOk.sound{g:Sg}{n:Nat}(h:GOk g n):gI (jE g)=true:=by
 have hv:uA (jE g)=⟨g.fr.major,g.fr.minor,g.fr.patch,g.fr.pre,[]⟩:=by simp[uA,jE,fM]
 have hw:uB (jE g)=⟨g.to_.major,g.to_.minor,g.to_.patch,g.to_.pre,[]⟩:=by simp[uB,jE,fM]
 have h1:=h.fr.sound;unfold uQ at h1;unfold gI;rw[hv,hw,h1];show(true && (g.op || _))=true
 cases ho:g.op with
 | true=>rfl
 | false =>
  have h2:=(h.to_ ho).sound;unfold uQ at h2;rw[h2];rfl
theorem GOk.small{g:Sg}{n:Nat}(h:GOk g n)(hn:n<=1048576):jg (jE g):=by
 have h1:=h.fr.sm;have h2:=h.tn;refine⟨?_,?_,?_,?_⟩
 ·show g.fr.pre.toArray.size<=_;simp;omega
 ·show(0:Nat)<=_;omega
 ·show g.to_.pre.toArray.size<=_;simp;omega
 ·show(0:Nat)<=_;omega
theorem ZU(g:Sg)(v:V):rO (jE g) v=jk g v:=by
 unfold rO jk;rw[show rM (jE g)=g.fr from GX _ _ _,show uC (jE g)=g.to_ from N9 _ _ _];rfl
structure LOk(L:List Sp)(k:Nat):Prop where
 sd:L.all gI=true
 sm:∀s∈L,jg s
 ln:L.length<=k
theorem LOk.one{g:Sg}{n:Nat}(h:GOk g n)(hn:n<=1048576):LOk [jE g] 1:=⟨by simp[h.sound],by intro s hs;simp at hs;subst hs;exact h.small hn,Nat.le_refl _⟩
theorem LOk.app{L M:List Sp}{j k:Nat}(h:LOk L j)(h':LOk M k):LOk (L++M) (j+k) :=
 ⟨by rw[List.all_append,h.sd,h'.sd];rfl,fun s hs=>(List.mem_append.1 hs).elim (h.sm s) (h'.sm s),by have:=h.ln;have:=h'.ln;rw[List.length_append];omega⟩
theorem LOk.mono{L:List Sp}{j k:Nat}(h:LOk L j)(hk:j<=k):LOk L k:=⟨h.sd,h.sm,Nat.le_trans h.ln hk⟩
theorem ZV(L M:List Sp)(v:V):eu (L++M) v=(eu L v || eu M v):=by unfold eu;simp
theorem holds_one(g:Sg)(v:V):eu [jE g] v=jk g v:=by unfold eu;simp[ZU]
def Has(L:List Sp)(f:V->Bool):Prop:=∀v,sN v->eu L v=f v
end Go.Proofs.YtapodndfpecglaaGreatDoor
