import Derived.Test.YtiinliaoojfjaaaGreatDoorF15
import Derived.Test.YtiinliaoojfjaaaGreatDoorF19
import Derived.Test.YtiinliaoojfjaaaGreatDoorF20
set_option linter.all false
set_option maxRecDepth 100000
set_option maxHeartbeats 0
namespace Go.Proofs.YtiinliaoojfjaaaGreatDoor
open Go.RowKit
def okR(s:ByteArray):Bool:=decide ((fJ s.data.toList).1=0)
noncomputable def iC(x:Nd):Bool:=nameB x.n && okR x.r
noncomputable def bY(L:List Nd):Int:=if L.all iC=true then(if fU L L.length=true then 5 else 0) else 2
theorem VO(L:List Nd)(i:Nat)(hi:i<L.length)(h:iC L[i]=false):bY L=2:=by
 unfold bY;rw[if_neg];intro ha;have:=List.all_eq_true.1 ha L[i] (List.getElem_mem _);rw[h]at this
 cases this
theorem VQ(L:List Nd)(i:Nat)(hi:i<L.length)(h:iC L[i]=true)(h0:(L.take i).all iC=true):(L.take (i+1)).all iC=true:=by
 rw[List.take_succ_eq_append_getElem hi,List.all_append,h0];simp[h]
theorem VT(L:List Nd)(h:L.all iC=true)(h2:fU L L.length=true):bY L=5:=by unfold bY;rw[if_pos h,if_pos h2]
theorem VU(L:List Nd)(h:L.all iC=true)(h2:fU L L.length=false):bY L=0:=by unfold bY;rw[if_pos h,if_neg (by rw[h2];simp)]
theorem IW(L:List Nd):bY L=0\/bY L=2\/bY L=5:=by
 unfold bY
 repeat' split
 all_goals simp
noncomputable def pG(i:Nat)(P:List Re)(x:Re):Int :=
 if 50<=i\/20<x.nd.length then 4
 else if nameB x.nm=false\/okV x.ve=false\/bY x.nd=2 then 2
 else if bY x.nd=5\/P.any (fA x.nm x.ve)=true then 5 else 0
theorem VV(name v:ByteArray):∀(l:List Re) (k:Nat),(0<=fB name v l k↔l.any (fA name v)=true)
 | [],k=>by simp[fB]
 | x :: r,k=>by
  rw[fB,List.any_cons];split
  ·rename_i h;rw[h];simp
  ·rename_i h;rw[VV name v r (k+1)];simp[h]
noncomputable def lD(L:List Re)(i:Nat):Int:=match L[i]? with|some x=>pG i (L.take i) x|none=>0
theorem CU(L:List Re)(i:Nat)(hi:i<L.length):lD L i=pG i (L.take i) L[i]:=by simp[lD,List.getElem?_eq_getElem hi]
noncomputable def bQ(L:List Re):Nat->Int × Nat
 | 0=>(0,0)
 | n+1=>if lD L (L.length-(n+1))=0 then bQ L n else(lD L (L.length-(n+1)),L.length-(n+1))
theorem VW(L:List Re)(i:Nat)(hi:i<L.length)(h:¬lD L i=0):bQ L (L.length-i)=(lD L i,i):=by
 obtain⟨n,hn⟩:∃n,L.length-i=n+1:=⟨L.length-i-1,by omega⟩;rw[hn,bQ,show L.length-(n+1)=i by omega,if_neg h]
theorem VY(L:List Re)(i:Nat)(hi:i<L.length)(h:lD L i=0):bQ L (L.length-i)=bQ L (L.length-(i+1)):=by
 obtain⟨n,hn⟩:∃n,L.length-i=n+1:=⟨L.length-i-1,by omega⟩;rw[hn,bQ,show L.length-(n+1)=i by omega,if_pos h,show L.length-(i+1)=n by omega]
end Go.Proofs.YtiinliaoojfjaaaGreatDoor
