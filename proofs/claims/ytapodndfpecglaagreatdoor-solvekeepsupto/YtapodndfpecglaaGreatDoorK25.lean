import Derived.Test.YtapodndfpecglaaGreatDoorK15
import Derived.Test.YtapodndfpecglaaGreatDoorK18
import Derived.Test.YtapodndfpecglaaGreatDoorK17
set_option linter.all false
set_option maxRecDepth 100000
set_option maxHeartbeats 0
namespace Go.Proofs.YtapodndfpecglaaGreatDoor
open Go.RowKit
def okR(s:ByteArray):Bool:=decide ((fF s.data.toList).1=0)
noncomputable def iC(x:Nd):Bool:=nameB x.n && okR x.r
noncomputable def dm(L:List Nd):Int:=if L.all iC=true then(if fE L L.length=true then 5 else 0) else 2
theorem QM(L:List Nd)(i:Nat)(hi:i<L.length)(h:iC L[i]=false):dm L=2:=by
 unfold dm;rw[if_neg];intro ha;have:=List.all_eq_true.1 ha L[i] (List.getElem_mem _);rw[h]at this
 cases this
theorem QN(L:List Nd)(i:Nat)(hi:i<L.length)(h:iC L[i]=true)(h0:(L.take i).all iC=true):(L.take (i+1)).all iC=true:=by
 rw[List.take_succ_eq_append_getElem hi,List.all_append,h0];simp[h]
theorem QO(L:List Nd)(h:L.all iC=true)(h2:fE L L.length=true):dm L=5:=by unfold dm;rw[if_pos h,if_pos h2]
theorem QP(L:List Nd)(h:L.all iC=true)(h2:fE L L.length=false):dm L=0:=by unfold dm;rw[if_pos h,if_neg (by rw[h2];simp)]
theorem QQ(L:List Nd):dm L=0\/dm L=2\/dm L=5:=by
 unfold dm
 repeat' split
 all_goals simp
noncomputable def mJ(i:Nat)(P:List Re)(x:Re):Int :=
 if 50<=i\/20<x.nd.length then 4
 else if nameB x.nm=false\/okV x.ve=false\/dm x.nd=2 then 2
 else if dm x.nd=5\/P.any (fG x.nm x.ve)=true then 5 else 0
theorem QR(name v:ByteArray):∀(l:List Re) (k:Nat),(0<=gU name v l k↔l.any (fG name v)=true)
 | [],k=>by simp[gU]
 | x :: r,k=>by
  rw[gU,List.any_cons];split
  ·rename_i h;rw[h];simp
  ·rename_i h;rw[QR name v r (k+1)];simp[h]
noncomputable def kM(L:List Re)(i:Nat):Int:=match L[i]? with|some x=>mJ i (L.take i) x|none=>0
theorem Jr(L:List Re)(i:Nat)(hi:i<L.length):kM L i=mJ i (L.take i) L[i]:=by simp[kM,List.getElem?_eq_getElem hi]
noncomputable def dV(L:List Re):Nat->Int × Nat
 | 0=>(0,0)
 | n+1=>if kM L (L.length-(n+1))=0 then dV L n else(kM L (L.length-(n+1)),L.length-(n+1))
theorem QS(L:List Re)(i:Nat)(hi:i<L.length)(h:¬kM L i=0):dV L (L.length-i)=(kM L i,i):=by
 obtain⟨n,hn⟩:∃n,L.length-i=n+1:=⟨L.length-i-1,by omega⟩;rw[hn,dV,show L.length-(n+1)=i by omega,if_neg h]
theorem QT(L:List Re)(i:Nat)(hi:i<L.length)(h:kM L i=0):dV L (L.length-i)=dV L (L.length-(i+1)):=by
 obtain⟨n,hn⟩:∃n,L.length-i=n+1:=⟨L.length-i-1,by omega⟩;rw[hn,dV,show L.length-(n+1)=i by omega,if_pos h,show L.length-(i+1)=n by omega]
end Go.Proofs.YtapodndfpecglaaGreatDoor
