import Derived.Test.YteciokcdpadmpaaGreatDoorS14
import Derived.Test.YteciokcdpadmpaaGreatDoorS15
import Derived.Test.YteciokcdpadmpaaGreatDoorS16
import Derived.Defers
import Derived.Recover
import Derived.Laws.Pointers
import Derived.Test.YteciokcdpadmpaaGreatDoorRows
import Derived.ProofKit
import Derived.OpenShut
import Derived.ShutString
import Derived.SizedLaws
import Derived.Deep.Slices
import Derived.DataReads
set_option linter.all false
set_option maxRecDepth 100000
set_option maxHeartbeats 0
open Go.Proofs.Tryz
namespace Go.Proofs.YteciokcdpadmpaaGreatDoor
def kS(l:List UInt8)(i:Nat):Int × Nat × List Te:=fE l (l.length+1) (au l i) []
def jW(l:List UInt8)(i:Nat):Int × Nat × List Te:=after l (aX l (l.length+1) (au l i) [])
def qJ(l:List UInt8):Nat->Nat->List (List Te)->Int × Nat × List (List Te)
 | 0,i,acc=>(0,i,acc)
 | f+1,i,acc =>
  if(kS l i).1=0 then(if jU l (kS l i).2.1=true then qJ l f ((kS l i).2.1+2) (acc++[(kS l i).2.2]) else(0,(kS l i).2.1,acc++[(kS l i).2.2]))
  else((kS l i).1,(kS l i).2.1,acc)
def iK(l:List UInt8):Nat->Nat->List (List Te)->Int × Nat × List (List Te)
 | 0,i,acc=>(0,i,acc)
 | f+1,i,acc =>
  if(jW l i).1=0 then(if l.length<=(jW l i).2.1 then(0,(jW l i).2.1,acc++[(jW l i).2.2]) else iK l f ((jW l i).2.1+2) (acc++[(jW l i).2.2]))
  else((jW l i).1,(jW l i).2.1,acc)
def aax(x y:Int × Nat × List (List Te)):Prop:=x.1=y.1/\x.2.1=y.2.1/\(x.1=0->x.2.2=y.2.2)
theorem QT(l:List UInt8)(i:Nat)(hi:i<=l.length):same (jW l i) (kS l i):=by
 have h1:=pG l i hi;exact P9 l (l.length+1) (au l i) [] (by omega) h1 (Jl l i hi)
theorem aay(l:List UInt8)(r:Int × Nat × List Te)(h:(after l r).1=0):dL l (after l r).2.1=true:=by
 unfold after at h ⊢
 by_cases h1:r.1=0
 ·rw[if_pos h1]at h ⊢
  by_cases h2:dL l (au l r.2.1)=true
  ·rw[if_pos h2];exact h2
  ·rw[if_neg h2]at h;cases h
 ·rw[if_neg h1]at h;exact absurd h h1
theorem aaz(l:List UInt8)(i:Nat)(h:dL l i=true):jU l i=true↔¬l.length<=i:=by
 unfold dL at h;rw[Bool.or_eq_true,decide_eq_true_eq]at h;constructor
 ·intro hb hl;unfold jU at hb;rw[List.getElem?_eq_none hl]at hb;simp at hb
 ·intro hn;exact h.resolve_left hn
theorem FW(l:List UInt8)(i:Nat)(h:jU l i=true):i+2<=l.length:=by
 unfold jU at h;rw[Bool.and_eq_true,decide_eq_true_eq,decide_eq_true_eq]at h;have:=kR h.2;omega
theorem JW(l:List UInt8):∀(f i:Nat) (acc:List Te),i<=l.length->(aX l f i acc).1=0->i<=(aX l f i acc).2.1/\(aX l f i acc).2.1<=l.length
 | 0,i,acc,hi,_=>by unfold aX;exact⟨Nat.le_refl _,hi⟩
 | f+1,i,acc,hi,h=>by
  have sp:=CU l i hi;unfold aX at h ⊢
  by_cases h0:l.length<=i\/l[i]?=some 124
  ·rw[if_pos h0];exact⟨Nat.le_refl _,hi⟩
  ·rw[if_neg h0]at h ⊢
   by_cases hr:(ay l (ax l i).2).1=0
   ·have pp:=CJ l _ sp.2 hr;have hkl:=pG l _ pp.2;have hkg:=qy l (ay l (ax l i).2).2.1;rw[if_pos hr]at h ⊢
    by_cases hbt:((ax l i).1<0/\acc=[])/\(ay l (ax l i).2).2.1<au l (ay l (ax l i).2).2.1/\l[au l (ay l (ax l i).2).2.1]?=some 45
    ·rw[if_pos hbt]at h ⊢;have h45:=kR hbt.2.2
     by_cases hm:au l (au l (ay l (ax l i).2).2.1+1)=au l (ay l (ax l i).2).2.1+1
     ·rw[if_pos hm]at h;cases h
     ·rw[if_neg hm]at h ⊢;have hk2:=pG l (au l (ay l (ax l i).2).2.1+1) (by omega);have hk3:=qy l (au l (ay l (ax l i).2).2.1+1)
      by_cases hq:(ay l (au l (au l (ay l (ax l i).2).2.1+1))).1=0
      ·rw[if_pos hq];have:=CJ l _ hk2 hq;simp only[];omega
      ·rw[if_neg hq]at h;exact absurd h hq
    ·rw[if_neg hbt]at h ⊢
     by_cases hg:(ay l (ax l i).2).2.1<au l (ay l (ax l i).2).2.1
     ·rw[if_neg (not_not_intro hg)]at h ⊢;have:=JW l f _ _ hkl h;omega
     ·rw[if_pos hg];simp only[];omega
   ·rw[if_neg hr]at h;exact absurd h hr
theorem QU(l:List UInt8)(i:Nat)(hi:i<=l.length)(h:(jW l i).1=0):i<=(jW l i).2.1/\(jW l i).2.1<=l.length:=by
 unfold jW after at h ⊢
 by_cases h1:(aX l (l.length+1) (au l i) []).1=0
 ·rw[if_pos h1]at h ⊢;have h2:=JW l _ _ _ (pG l i hi) h1;have h3:=qy l i;have h4:=qy l (aX l (l.length+1) (au l i) []).2.1;have h5:=pG l _ h2.2;split<;>(simp only[];omega)
 ·rw[if_neg h1]at h;exact absurd h h1
theorem QV(l:List UInt8):∀(f i:Nat) (acc:List (List Te)),i<=l.length->aax (iK l f i acc) (qJ l f i acc)
 | 0,i,acc,hi=>⟨rfl,rfl,fun _=>rfl⟩
 | f+1,i,acc,hi=>by
  obtain⟨s1,s2,s3⟩:=QT l i hi;unfold iK qJ
  by_cases h:(jW l i).1=0
  ·have h':(kS l i).1=0:=by rw[<-s1];exact h
   have he:dL l (jW l i).2.1=true:=aay l _ h;have hb:=aaz l _ he;have hp:=QU l i hi h;rw[if_pos h,if_pos h',<-s2,<-s3 h]
   by_cases hl:l.length<=(jW l i).2.1
   ·rw[if_pos hl,if_neg (fun hb'=>hb.1 hb' hl)];exact⟨rfl,rfl,fun _=>rfl⟩
   ·have hb':=hb.2 hl;rw[if_neg hl];rw[if_pos hb'];exact QV l f _ _ (FW l _ hb')
  ·have h':¬(kS l i).1=0:=by rw[<-s1];exact h
   rw[if_neg h,if_neg h',<-s1,<-s2];exact⟨rfl,rfl,fun h0=>absurd h0 h⟩
def fP(l:List UInt8):Int × Nat × List (List Te) :=
 if 200<l.length then(1,0,[]) else if(qJ l (l.length+1) 0 []).1=0 then(0,0,(qJ l (l.length+1) 0 []).2.2) else((qJ l (l.length+1) 0 []).1,(qJ l (l.length+1) 0 []).2.1,[])
theorem QW(l:List UInt8)(i:Nat):-1<=(ax l i).1/\(ax l i).1<=6:=by
 unfold ax
 repeat' split
 all_goals simp
theorem aaA(l:List UInt8)(i k:Nat):(aO l i k).length<=l.length:=by unfold aO;simp;omega
theorem aaB(c:UInt8)(st:Bool)(l:List UInt8)(i:Nat):(aY c st l i).2.2.length<=l.length:=by
 unfold aY
 repeat' split
 all_goals first|exact aaA _ _ _|exact Nat.zero_le _
theorem aaC(l:List UInt8)(i:Nat):(aN l i).2.2.1.length<=l.length:=by
 unfold aN
 repeat' split
 all_goals first|exact aaB _ _ _ _|exact Nat.zero_le _
theorem JX(l:List UInt8)(i:Nat):(ay l i).2.2.pre.length<=l.length:=by
 unfold ay jT jS pa3
 repeat' split
 all_goals first|exact aaC _ _|exact Nat.zero_le _
def lw(ts:List Te)(v:V):Bool:=ts.all fun t=>iD t v
def jq(S:List (List Te))(v:V):Bool:=S.any fun ts=>lw ts v
theorem aaD(ts:List Te)(t:Te)(v:V):lw (ts++[t]) v=(lw ts v && iD t v):=by unfold lw;simp
theorem aaE(S:List (List Te))(ts:List Te)(v:V):jq (S++[ts]) v=(jq S v || lw ts v):=by unfold jq;simp
def jX(g:Sg):Sp:=dD g.fr g.to_ g.op
structure BOk(v:V)(n:Nat):Prop where
 m1:0<=v.major/\v.major<=1000000000
 m2:0<=v.minor/\v.minor<=1000000000
 m3:0<=v.patch/\v.patch<=1000000000
 ok:fV true v.pre=true
 sm:v.pre.length<=n
theorem BOk.sound{v:V}{n:Nat}(h:BOk v n):vU v=true:=by
 unfold vU kE;simp only[Bool.and_eq_true,oQ];exact⟨h.m1,h.m2,h.m3,h.ok,rfl⟩
structure GOk(g:Sg)(n:Nat):Prop where
 fr:BOk g.fr n
 to_:g.op=false->BOk g.to_ n
 tn:g.to_.pre.length<=n
theorem Dq:fV true [48]=true:=by decide
theorem QX(n:Nat)(hn:1<=n):BOk jR n:=⟨by decide,by decide,by decide,by decide,by simpa [jR] using hn⟩
theorem Dt(p:Pa)(hp:fA p)(n:Nat)(hn:1<=n)(hl:p.pre.length<=n):BOk (bF p) n:=by
 have a0:=hp.a0;have b0:=hp.b0;have c0:=hp.c0;refine⟨⟨a0.1,?_⟩,⟨b0.1,?_⟩,⟨c0.1,?_⟩,?_,?_⟩
 ·show p.a<=_;omega
 ·show p.b<=_;omega
 ·show p.c<=_;omega
 ·show fV true (if p.n<3 then[48] else p.pre)=true;split
  ·exact Dq
  ·exact hp.ok
 ·show(if p.n<3 then[48] else p.pre).length<=n;split
  ·exact hn
  ·exact hl
theorem aaF(p:Pa)(hp:fA p)(k:Nat)(n:Nat)(hn:1<=n):BOk (Cm (bF p) k) n:=by
 have a0:=hp.a0;have b0:=hp.b0;have c0:=hp.c0;unfold Cm;have e1:(bF p).major=p.a:=rfl;have e2:(bF p).minor=p.b:=rfl;have e3:(bF p).patch=p.c:=rfl;rw[e1,e2,e3];split
 ·exact⟨by simp only[];omega,by simp,by simp,Dq,hn⟩
 ·split
  ·exact⟨by simp only[];omega,by simp only[];omega,by simp,Dq,hn⟩
  ·exact⟨by simp only[];omega,by simp only[];omega,by simp only[];omega,Dq,hn⟩
theorem aaG(v:V)(n:Nat)(h1:0<=v.major/\v.major<=1000000000)(h2:0<=v.minor/\v.minor<=1000000000)(h3:0<=v.patch/\v.patch<=999999999)(hk:fV true v.pre=true)(hn:1<=n)(hl:v.pre.length+2<=n):BOk (lL v) n:=by
 unfold lL
 by_cases e:v.pre=[]
 ·rw[if_pos e,if_pos (by omega)];exact⟨h1,h2,by simp only[];omega,Dq,hn⟩
 ·rw[if_neg e];refine⟨h1,h2,by simp only[];omega,?_,by simp only[List.length_append,List.length_cons,List.length_nil];omega⟩;have h4:=V5 hk e;show fV true (v.pre++[46,48])=true;unfold fV;rw[show v.pre++[46,48]=v.pre++46 :: [48] from rfl,Eg,List.all_append,h4];simp only[Bool.true_and,Bool.or_eq_true];exact Or.inr (by decide)
theorem JY(p:Pa)(hp:fA p)(k n:Nat)(hn:1<=n)(hl:p.pre.length<=n):GOk (kP p k) n:=by
 unfold kP;split
 ·exact⟨Dt p hp n hn hl,fun h=>(by cases h),Nat.zero_le _⟩
 ·have:=aaF p hp k n hn;exact⟨Dt p hp n hn hl,fun _=>this,this.sm⟩
theorem QY(p:Pa)(hp:fA p)(n:Nat)(hn:1<=n)(hl:p.pre.length+2<=n):GOk (dh p) n:=by
 unfold dh;have a0:=hp.a0;have b0:=hp.b0;have c0:=hp.c0;split
 ·rename_i h3;have hf:=Dt p hp n hn (by omega);have e:(bF p).pre=p.pre:=by unfold bF;rw[if_neg (by omega)]
  have:=aaG (bF p) n hf.m1 hf.m2 ⟨hf.m3.1,by show p.c<=_;omega⟩ hf.ok hn (by rw[e];exact hl);exact⟨hf,fun _=>this,this.sm⟩
 ·exact JY p hp p.n n hn (by omega)
theorem aaH(s:Int)(p:Pa)(hp:fA p)(n:Nat)(hn:1<=n)(hl:p.pre.length+2<=n):GOk (xW s p) n:=by
 have hlow:=QX n hn;have hf:=Dt p hp n hn (by omega);have hN:=QY p hp n hn hl;unfold xW;split
 ·exact hN
 ·split
  ·exact⟨hf,fun h=>(by cases h),Nat.zero_le _⟩
  ·split
   ·exact⟨hlow,hN.to_,hN.tn⟩
   ·split
    ·split
     ·exact⟨hlow,fun _=>hlow,hlow.sm⟩
     ·rename_i hop;have hb:=hN.to_ (by simpa using hop);exact⟨hb,fun h=>(by cases h),Nat.zero_le _⟩
    ·split
     ·exact⟨hlow,fun _=>hf,hf.sm⟩
     ·split
      ·exact JY p hp _ n hn (by omega)
      ·exact JY p hp _ n hn (by omega)
theorem aaI(p q:Pa)(hp:fA p)(hq:fA q)(n:Nat)(hn:1<=n)(hl:p.pre.length<=n)(hl2:q.pre.length+2<=n):GOk (vV p q) n:=by
 have hN:=QY q hq n hn hl2;exact⟨Dt p hp n hn hl,hN.to_,hN.tn⟩
theorem GOk.sound{g:Sg}{n:Nat}(h:GOk g n):fZ (jX g)=true:=by
 have hv:uY (jX g)=⟨g.fr.major,g.fr.minor,g.fr.patch,g.fr.pre,[]⟩:=by simp[uY,jX,dD]
 have hw:uZ (jX g)=⟨g.to_.major,g.to_.minor,g.to_.patch,g.to_.pre,[]⟩:=by simp[uZ,jX,dD]
 have h1:=h.fr.sound;unfold vU at h1;unfold fZ;rw[hv,hw,h1];show(true && (g.op || _))=true
 cases ho:g.op with
 | true=>rfl
 | false =>
  have h2:=(h.to_ ho).sound;unfold vU at h2;rw[h2];rfl
theorem GOk.small{g:Sg}{n:Nat}(h:GOk g n)(hn:n<=1048576):jK (jX g):=by
 have h1:=h.fr.sm;have h2:=h.tn;refine⟨?_,?_,?_,?_⟩
 ·show g.fr.pre.toArray.size<=_;simp;omega
 ·show(0:Nat)<=_;omega
 ·show g.to_.pre.toArray.size<=_;simp;omega
 ·show(0:Nat)<=_;omega
theorem aaJ(g:Sg)(v:V):sW (jX g) v=jJ g v:=by
 unfold sW jJ;rw[show sV (jX g)=g.fr from Jg _ _ _,show vg (jX g)=g.to_ from PS _ _ _];rfl
structure LOk(L:List Sp)(k:Nat):Prop where
 sd:L.all fZ=true
 sm:∀s∈L,jK s
 ln:L.length<=k
theorem LOk.one{g:Sg}{n:Nat}(h:GOk g n)(hn:n<=1048576):LOk [jX g] 1:=⟨by simp[h.sound],by intro s hs;simp at hs;subst hs;exact h.small hn,Nat.le_refl _⟩
theorem LOk.app{L M:List Sp}{j k:Nat}(h:LOk L j)(h':LOk M k):LOk (L++M) (j+k) :=
 ⟨by rw[List.all_append,h.sd,h'.sd];rfl,fun s hs=>(List.mem_append.1 hs).elim (h.sm s) (h'.sm s),by have:=h.ln;have:=h'.ln;rw[List.length_append];omega⟩
theorem LOk.mono{L:List Sp}{j k:Nat}(h:LOk L j)(hk:j<=k):LOk L k:=⟨h.sd,h.sm,Nat.le_trans h.ln hk⟩
theorem aaK(L M:List Sp)(v:V):fB (L++M) v=(fB L v || fB M v):=by unfold fB;simp
theorem holds_one(g:Sg)(v:V):fB [jX g] v=jJ g v:=by unfold fB;simp[aaJ]
def Has(L:List Sp)(f:V->Bool):Prop:=∀v,ul v->fB L v=f v
open Go.RowKit
def okR(s:ByteArray):Bool:=decide ((fP s.data.toList).1=0)
noncomputable def iF(x:Nd):Bool:=nameB x.n && okR x.r
noncomputable def dB(L:List Nd):Int:=if L.all iF=true then(if eY L L.length=true then 5 else 0) else 2
theorem QZ(L:List Nd)(i:Nat)(hi:i<L.length)(h:iF L[i]=false):dB L=2:=by
 unfold dB;rw[if_neg];intro ha;have:=List.all_eq_true.1 ha L[i] (List.getElem_mem _);rw[h]at this
 cases this
theorem Q4(L:List Nd)(i:Nat)(hi:i<L.length)(h:iF L[i]=true)(h0:(L.take i).all iF=true):(L.take (i+1)).all iF=true:=by
 rw[List.take_succ_eq_append_getElem hi,List.all_append,h0];simp[h]
theorem Q5(L:List Nd)(h:L.all iF=true)(h2:eY L L.length=true):dB L=5:=by unfold dB;rw[if_pos h,if_pos h2]
theorem Q7(L:List Nd)(h:L.all iF=true)(h2:eY L L.length=false):dB L=0:=by unfold dB;rw[if_pos h,if_neg (by rw[h2];simp)]
theorem Q8(L:List Nd):dB L=0\/dB L=2\/dB L=5:=by
 unfold dB
 repeat' split
 all_goals simp
noncomputable def nG(i:Nat)(P:List Re)(x:Re):Int :=
 if 50<=i\/20<x.nd.length then 4
 else if nameB x.nm=false\/okV x.ve=false\/dB x.nd=2 then 2
 else if dB x.nd=5\/P.any (iE x.nm x.ve)=true then 5 else 0
theorem Q9(name v:ByteArray):∀(l:List Re) (k:Nat),(0<=oC name v l k↔l.any (iE name v)=true)
 | [],k=>by simp[oC]
 | x :: r,k=>by
  rw[oC,List.any_cons];split
  ·rename_i h;rw[h];simp
  ·rename_i h;rw[Q9 name v r (k+1)];simp[h]
noncomputable def lC(L:List Re)(i:Nat):Int:=match L[i]? with|some x=>nG i (L.take i) x|none=>0
theorem JZ(L:List Re)(i:Nat)(hi:i<L.length):lC L i=nG i (L.take i) L[i]:=by simp[lC,List.getElem?_eq_getElem hi]
noncomputable def dV(L:List Re):Nat->Int × Nat
 | 0=>(0,0)
 | n+1=>if lC L (L.length-(n+1))=0 then dV L n else(lC L (L.length-(n+1)),L.length-(n+1))
theorem Rf(L:List Re)(i:Nat)(hi:i<L.length)(h:¬lC L i=0):dV L (L.length-i)=(lC L i,i):=by
 obtain⟨n,hn⟩:∃n,L.length-i=n+1:=⟨L.length-i-1,by omega⟩;rw[hn,dV,show L.length-(n+1)=i by omega,if_neg h]
theorem Rh(L:List Re)(i:Nat)(hi:i<L.length)(h:lC L i=0):dV L (L.length-i)=dV L (L.length-(i+1)):=by
 obtain⟨n,hn⟩:∃n,L.length-i=n+1:=⟨L.length-i-1,by omega⟩;rw[hn,dV,show L.length-(n+1)=i by omega,if_pos h,show L.length-(i+1)=n by omega]
open Go.RowKit
theorem ifA(w:World):(binOp .eql 20 (.iface 26 (.int .i64 10)) .nilIface).run prog w=.ok (.bool false) w:=by kernel_rfl
theorem ifB(w:World):(binOp .eql 20 (.iface 26 (.int .i64 10)) (.iface 26 (.int .i64 10))).run prog w=.ok (.bool true) w:=by kernel_rfl
theorem ifC(w:World):(binOp .eql 20 .nilIface .nilIface).run prog w=.ok (.bool true) w:=by kernel_rfl
theorem catch_panicking(p:Addr)(x:Int)(w:World)(hc:w.cell? p=some (.int .i64 x))(hz:w.frozen? p=false) :
  CallsD prog 13 #[.pointer (some p)] (.panicking [{ v:=.iface 26 (.int .i64 10),recovered:=false }]) w fun e u' w' =>
   e=.returned (.tuple #[])/\u'=.panicking [{ v:=.iface 26 (.int .i64 10),recovered:=true }]/\w'=w.setCell p (.int .i64 10):=by
 refine callsD_of_wpS func13 rfl fun c₀ cs hu=>?_
 apply wpS_seq;apply wpS_region;simp[wpOpsS,go_sem,recoverD,hu,ntmps13,Exit.thenS];have q1:=ifA;have q2:=ifB;refine wpS_of_wp ?_;go_wp2;simp[bodyPostS,results,Tryz.results13]
theorem catch_idle(p:Addr)(w:World) :
  CallsD prog 13 #[.pointer (some p)] .returning w fun e u' w'=>e=.returned (.tuple #[])/\u'=.returning/\w'=w:=by
 refine callsD_of_wpS func13 rfl fun c₀ cs hu=>?_
 apply wpS_seq;apply wpS_region;simp[wpOpsS,go_sem,recoverD,hu,ntmps13,Exit.thenS];have q1:=ifC;refine wpS_of_wp ?_;go_wp2
 cases c₀
 simp_all [bodyPostS,results,Tryz.results13]
open Go.ChangeShapes Go.WideShapes Go.ChangeAt Go.RowKit Go.Joins
instance:Inhabited Nd:=⟨⟨⟨#[]⟩,⟨#[]⟩⟩⟩
instance:Inhabited Re:=⟨⟨⟨#[]⟩,⟨#[]⟩,[],⟨#[]⟩⟩⟩
theorem Ri:prog.cellsOf 49=2:=by kernel_rfl
theorem Rj:prog.cellsOf 41=4:=by kernel_rfl
theorem J3{H:Type}(d:DataW H):1<=Rows.uptoBulk d:=by
 cases d with
 | lit l=>cases l<;>simp[Rows.uptoBulk]
 | _=>simp[Rows.uptoBulk]
theorem FX{H:Type}(l:List (DataW H)):l.length<=Rows.uptoBulkAll l:=by
 induction l with
 | nil=>simp
 | cons d l ih =>
  have:=J3 d;simp only[Rows.uptoBulkAll,List.length_cons];omega
theorem FY{H:Type}(l:List (DataW H))(d:DataW H)(h:d∈l):Rows.uptoBulk d<=Rows.uptoBulkAll l:=by
 induction l with
 | nil=>cases h
 | cons e l ih =>
  simp only[Rows.uptoBulkAll]
  rcases List.mem_cons.1 h with rfl|h
  ·omega
  ·have:=ih h;omega
theorem aaL{α:Type}{cs:List α}(h:cs.length=2):∃c0 c1,cs=[c0,c1]:=by
 match cs,h with
 | [c0,c1],_=>exact⟨c0,c1,rfl⟩
theorem list4{α:Type}{cs:List α}(h:cs.length=4):∃c0 c1 c2 c3,cs=[c0,c1,c2,c3]:=by
 match cs,h with
 | [c0,c1,c2,c3],_=>exact⟨c0,c1,c2,c3,rfl⟩
theorem aaM{H:Type}{enc:TypeId × Value->H}{w:World}{base:Nat}{spare:Nat->Bool}{held:Bool}{fuel:Nat}{cs:List Value}{x:DataW H × List MemPlace}
  (h:DataW.trod enc prog w base spare held fuel 49 cs=some x):∃s:Nd,cs=kV s/\s.n.size<=Rows.uptoBulk x.1/\s.r.size<=Rows.uptoBulk x.1:=by
 have hu:=underlying49;obtain⟨xs,n,_,hx,hl,hlen,hfs⟩:=DataW.trod_struct hu h;obtain⟨c0,c1,rfl⟩:=aaL (hl.trans Ri)
 match xs,hlen with
 | [y0,y1],_ =>
  have k9:prog.cellsOf 9=1:=by kernel_rfl
  have g0:=hfs 0 _ rfl;have g1:=hfs 1 _ rfl;simp[k9]at g0 g1;obtain⟨a4,e4,rfl,w4⟩:=DataW.trod_string underlying9 g0;obtain⟨a5,e5,rfl,w5⟩:=DataW.trod_string underlying9 g1;simp at e4 e5;subst e4;subst e5;refine⟨⟨a4,a5⟩,rfl,?_,?_⟩
  ·rw[hx];simp only[List.map,Rows.uptoBulk,Rows.uptoBulkAll,Array.length_toList];have e1:a4.data.size=a4.size:=rfl;omega
  ·rw[hx];simp only[List.map,Rows.uptoBulk,Rows.uptoBulkAll,Array.length_toList];have e1:a5.data.size=a5.size:=rfl;omega
theorem aaN{w:World}{a:Addr}{n:Nat}{s:Nd}(h:∀k v,(kV s)[k]?=some v->w.cell? (a.add (n+k))=some v):NdAt w (a.add n) s :=
 ⟨by have:=h 0 _ rfl;simpa using this,by have:=h 1 _ rfl;rw[xO a n 1 (by omega)]at this;exact this⟩
theorem Rk{H:Type}{enc:TypeId × Value->H}{w:World}{base:Nat}{spare:Nat->Bool}{held:Bool}{fuel:Nat}{v:Value}{x:DataW H × List MemPlace}
  (h:DataW.trod enc prog w base spare held fuel 22 [v]=some x):∃L:List Nd,NdS w v L/\L.length<=Rows.uptoBulk x.1/\∀y∈L,y.n.size<=Rows.uptoBulk x.1/\y.r.size<=Rows.uptoBulk x.1:=by
 have hu:=underlying22
 rcases Deep.open_slice hu h with⟨hcs,hx⟩|⟨a,len,cap,m,n,D,Pl,hcs,hb,hl,hm,hmm,hx,hel⟩
 ·simp at hcs;exact⟨[],Or.inl ⟨hcs,rfl⟩,by simp,by simp⟩
 ·simp at hcs;subst hcs;have hle:len<=m:=by rw[hmm];split<;>omega
  have hS:∀i,i<len->∃s:Nd,(∀k u,(kV s)[k]?=some u->w.cell? (a.add (i*2+k))=some u)/\s.n.size<=Rows.uptoBulk (D i)/\s.r.size<=Rows.uptoBulk (D i):=by
   intro i hi;obtain⟨cs',h1,h2⟩:=hel i (by omega);obtain⟨s,hc,hs1,hs2⟩:=aaM h2;refine⟨s,fun k u hu=>?_,hs1,hs2⟩;rw[Ri]at h1;obtain⟨-,h4,h3⟩:=World.cells?_some h1;have hk:k<2:=(List.getElem?_eq_some_iff.1 hu).1;have h5:=h3 k hk;rw[Deep.add_add,hc,hu]at h5;exact h5
  obtain⟨S,hS⟩:=Deep.choose_lt hS;have hlen:((List.range len).map S).length=len:=by simp
  refine⟨(List.range len).map S,Or.inr ⟨a,cap,by rw[hlen],by rw[hlen];exact hl,fun i hi=>?_⟩,?_,fun y hy=>?_⟩
  ·have hi':i<len:=by rw[hlen]at hi;exact hi
   rw[List.getElem_map,List.getElem_range];exact aaN (hS i hi').1
  ·rw[hx,hlen];simp only[Rows.uptoBulk];have:=FX ((List.range len).map D);simp only[List.length_map,List.length_range]at this;omega
  ·obtain⟨i,hi,rfl⟩:=List.mem_map.1 hy;have hm:=FY ((List.range len).map D) (D i) (List.mem_map.2 ⟨i,hi,rfl⟩);have:=(hS i (List.mem_range.1 hi)).2;rw[hx];simp only[Rows.uptoBulk];omega
theorem aaO{H:Type}{enc:TypeId × Value->H}{w:World}{base:Nat}{spare:Nat->Bool}{held:Bool}{fuel:Nat}{cs:List Value}{x:DataW H × List MemPlace}
  (h:DataW.trod enc prog w base spare held fuel 41 cs=some x) :
  ∃(r:Re) (v:Value),cs=[.string r.nm,.string r.ve,v,.string r.da]/\NdS w v r.nd/\r.nm.size<=Rows.uptoBulk x.1/\r.ve.size<=Rows.uptoBulk x.1/\r.nd.length<=Rows.uptoBulk x.1/\∀y∈r.nd,y.n.size<=Rows.uptoBulk x.1/\y.r.size<=Rows.uptoBulk x.1:=by
 have hu:=underlying41;obtain⟨xs,n,_,hx,hl,hlen,hfs⟩:=DataW.trod_struct hu h;obtain⟨c0,c1,c2,c3,rfl⟩:=list4 (hl.trans Rj)
 match xs,hlen with
 | [y0,y1,y2,y3],_ =>
  have k9:prog.cellsOf 9=1:=by kernel_rfl
  have k8:prog.cellsOf 22=1:=by kernel_rfl
  have g0:=hfs 0 _ rfl;have g1:=hfs 1 _ rfl;have g2:=hfs 2 _ rfl;have g3:=hfs 3 _ rfl;simp[k8,k9]at g0 g1 g2 g3;obtain⟨a0,e0,rfl,w0⟩:=DataW.trod_string underlying9 g0;obtain⟨a1,e1,rfl,w1⟩:=DataW.trod_string underlying9 g1;obtain⟨a3,e3,rfl,w3⟩:=DataW.trod_string underlying9 g3;obtain⟨N,hN,hNl,J4⟩:=Rk g2;simp at e0 e1 e3;subst e0;subst e1;subst e3;refine⟨⟨a0,a1,N,a3⟩,c2,rfl,hN,?_,?_,?_,fun y hy=>?_⟩
  ·rw[hx];simp only[List.map,Rows.uptoBulk,Rows.uptoBulkAll,Array.length_toList];have e1:a0.data.size=a0.size:=rfl;omega
  ·rw[hx];simp only[List.map,Rows.uptoBulk,Rows.uptoBulkAll,Array.length_toList];have e1:a1.data.size=a1.size:=rfl;omega
  ·rw[hx];simp only[List.map,Rows.uptoBulk,Rows.uptoBulkAll,Array.length_toList];omega
  ·have:=J4 y hy;rw[hx];simp only[List.map,Rows.uptoBulk,Rows.uptoBulkAll,Array.length_toList];omega
theorem aaP{H:Type}{enc:TypeId × Value->H}{w:World}{base:Nat}{spare:Nat->Bool}{held:Bool}{r:Reach}{b0:Nat}{v:Value}{d:DataW H}{p:List MemPlace}
  (hv:Value.okWide prog w r b0 23 v) (h:DataW.Trod enc prog w base spare held 23 v d p) :
  ∃L:List Re,ReS w v L/\L.length<=Rows.uptoBulk d/\∀s∈L,s.nm.size<=Rows.uptoBulk d/\s.ve.size<=Rows.uptoBulk d/\s.nd.length<=Rows.uptoBulk d/\∀y∈s.nd,y.n.size<=Rows.uptoBulk d/\y.r.size<=Rows.uptoBulk d:=by
 have hu:=underlying23;obtain⟨a0,l0,c0,rfl⟩:=okWide_slice hu hv;obtain⟨fuel,hf⟩:=h
 rcases Deep.open_slice hu hf with⟨hcs,hx⟩|⟨a,len,cap,m,n,D,Pl,hcs,hb,hl,hm,hmm,hx,hel⟩
 ·simp[Value.cells]at hcs;obtain⟨rfl,rfl,rfl⟩:=hcs;exact⟨[],Or.inl ⟨rfl,rfl⟩,by simp,by simp⟩
 ·simp[Value.cells]at hcs;obtain⟨rfl,rfl,rfl⟩:=hcs;have hle:l0<=m:=by rw[hmm];split<;>omega
  have hS:∀i,i<l0->∃s:Re,ReAt w (a.add (i*4)) s/\s.nm.size<=Rows.uptoBulk (D i)/\s.ve.size<=Rows.uptoBulk (D i)/\s.nd.length<=Rows.uptoBulk (D i)/\∀y∈s.nd,y.n.size<=Rows.uptoBulk (D i)/\y.r.size<=Rows.uptoBulk (D i):=by
   intro i hi;obtain⟨cs',h1,h2⟩:=hel i (by omega);obtain⟨s,v,hc,hn,hv1,hv2,hv3,hv4⟩:=aaO h2;rw[Rj]at h1;obtain⟨-,h4,h3⟩:=World.cells?_some h1;subst hc;have q0:=h3 0 (by omega);have q1:=h3 1 (by omega);have q2:=h3 2 (by omega);have q3:=h3 3 (by omega);rw[Deep.add_add]at q0 q1 q2 q3;rw[xO _ _ _ (by omega)]at q1 q2 q3;exact⟨s,⟨by simpa using q0,by simpa using q1,⟨v,by simpa using q2,hn⟩,by simpa using q3⟩,hv1,hv2,hv3,hv4⟩
  obtain⟨S,hS⟩:=Deep.choose_lt hS;have hlen:((List.range l0).map S).length=l0:=by simp
  have hd:d=.slice ((List.range l0).map D) ((List.range (m-l0)).map fun j=>D (l0+j)):=congrArg Prod.fst hx;have hbl:=FX ((List.range l0).map D);simp only[List.length_map,List.length_range]at hbl;refine⟨(List.range l0).map S,Or.inr ⟨a,c0,by rw[hlen],by rw[hlen];exact hl,fun i hi=>?_⟩,?_,fun s hs=>?_⟩
  ·have hi':i<l0:=by rw[hlen]at hi;exact hi
   rw[List.getElem_map,List.getElem_range];exact(hS i hi').1
  ·rw[hd,hlen];simp only[Rows.uptoBulk];omega
  ·obtain⟨i,hi,rfl⟩:=List.mem_map.1 hs;have hm:=FY ((List.range l0).map D) (D i) (List.mem_map.2 ⟨i,hi,rfl⟩);obtain⟨-,b1,b2,b3,b4⟩:=hS i (List.mem_range.1 hi);rw[hd];simp only[Rows.uptoBulk];exact⟨by omega,by omega,by omega,fun y hy=>by have:=b4 y hy;exact⟨by omega,by omega⟩⟩
open Go.ChangeShapes Go.WideShapes Go.ChangeAt Go.RowKit Go.Joins
theorem aaQ{H:Type}{enc:TypeId × Value->H}{w:World}{base:Nat}{spare:Nat->Bool}{held:Bool}{r:Reach}{b0:Nat}{v:Value}{d:DataW H}{p:List MemPlace}
  (hv:Value.okWide prog w r b0 22 v) (h:DataW.Trod enc prog w base spare held 22 v d p) :
  ∃L:List Nd,NdS w v L/\L.length<=Rows.uptoBulk d/\∀y∈L,y.n.size<=Rows.uptoBulk d/\y.r.size<=Rows.uptoBulk d:=by
 have hu:=underlying22;obtain⟨a0,l0,c0,rfl⟩:=okWide_slice hu hv;obtain⟨fuel,hf⟩:=h;exact Rk hf
end Go.Proofs.YteciokcdpadmpaaGreatDoor
