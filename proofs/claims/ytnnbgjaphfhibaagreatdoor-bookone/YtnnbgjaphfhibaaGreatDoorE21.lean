import Derived.Test.YtnnbgjaphfhibaaGreatDoorE16
import Derived.Deep.RegionLaw
set_option linter.all false
set_option maxRecDepth 100000
set_option maxHeartbeats 0
open Go.Proofs.Tryz
namespace Go.Proofs.YtnnbgjaphfhibaaGreatDoor
open Go.RowKit
def cT(a b:ByteArray):Int:=Lib.compareBytes a.data.toList b.data.toList
theorem qG:Good cT:=Rl aab (fun a:ByteArray=>a.data.toList)
theorem Wl{a b:ByteArray}(h:cT a b=0):a=b:=by
 unfold cT at h
 cases h1:Op.bytesLess a.data.toList b.data.toList with
 | true=>rw[(xx _ _).1 h1]at h;cases h
 | false =>
  cases h2:(a.data.toList == b.data.toList) with
  | true=>exact ByteArray.ext (Array.ext' (by simpa using h2))
  | false=>rw[(xx _ _).2.1 h1 h2]at h;cases h
theorem ad2{a b:ByteArray}(h:cT a b<0):Op.bytesLess a.toList b.toList=true:=by
 rw[Lib.toList_data,Lib.toList_data]
 cases h1:Op.bytesLess a.data.toList b.data.toList with
 | true=>rfl
 | false =>
  exfalso;unfold cT at h
  cases h2:(a.data.toList == b.data.toList) with
  | true=>rw[(xx _ _).2.2 h2]at h;cases h
  | false=>rw[(xx _ _).2.1 h1 h2]at h;cases h
theorem Wn{a b:ByteArray}(h:¬cT a b<0):cT b a<=0:=by
 have:=qG.anti a b;omega
theorem ad3{a b c:ByteArray}(h1:cT a b<=0)(h2:cT b c<=0):cT a c<=0:=(qG.trans a b c h1 h2).1
def Ei(S:List ByteArray):Prop:=S.Pairwise (fun a b=>cT a b<=0)
theorem N7{α:Type}(r:α->α->Prop):∀(A B:List α),A.Perm B->A.Pairwise r->B.Pairwise r->(∀a∈A,∀b∈A,r a b->r b a->a=b)->A=B
 | [],B,hp,_,_,_=>(List.Perm.nil_eq hp)
 | a :: A,[],hp,_,_,_=>by have:=hp.length_eq;simp at this
 | a :: A,b :: B,hp,hA,hB,hu=>by
  have hab:a=b:=by
   have h1:a∈b :: B:=hp.subset (by simp);have h2:b∈a :: A:=hp.symm.subset (by simp)
   rcases List.mem_cons.1 h1 with e|h1
   ·exact e
   ·rcases List.mem_cons.1 h2 with e|h2
    ·exact e.symm
    ·exact hu a (by simp) b (by simp[h2]) ((List.pairwise_cons.1 hA).1 b h2) ((List.pairwise_cons.1 hB).1 a h1)
  subst hab;have hp':=(List.perm_cons a).1 hp;rw[N7 r A B hp' (List.pairwise_cons.1 hA).2 (List.pairwise_cons.1 hB).2 (fun x hx y hy=>hu x (by simp[hx]) y (by simp[hy]))]
theorem ad4{S T:List ByteArray}(hp:S.Perm T)(h1:Ei S)(h2:Ei T):S=T :=
 N7 _ S T hp h1 h2 (fun a _ b _ r1 r2=>Wl (by have:=qG.anti a b;omega))
open Go.RowKit
theorem ad5{w:World}{base:Nat}{e:TypeId}{size:Nat}{g n cap:Nat}{xs:List Value}(h:w.ownsRow base e size (.slice (some ⟨g,0,none⟩) n cap) n xs)(o:Nat)(x:Value)(ho:o<n*size):(w.setCell ⟨g,o,none⟩ x).ownsRow base e size (.slice (some ⟨g,0,none⟩) n cap) n (xs.set o x):=by
 refine⟨by rw[List.length_set];exact h.1,?_⟩
 rcases h.2 with⟨h1,_⟩|⟨g',cap',cur,h1,hb,hg,hn,hm,hs,ht⟩
 ·cases h1
 ·cases h1
  refine Or.inr ⟨g,cap,cur.setIfInBounds o x,rfl,hb,?_,hn,hm,by simpa using hs,?_⟩
  ·simp[World.setCell,Array.getElem?_modify,hg]
  ·rw[Array.toList_setIfInBounds,List.take_set,ht]
theorem Wp(g k:Nat):(⟨g,0,none⟩:Addr).add k=⟨g,k,none⟩:=by
 unfold Addr.add;split
 ·rename_i h;rw[h]
 ·simp
theorem ad6{w:World}{base:Nat}{e:TypeId}{size gs n cap:Nat}{xs:List Value}(h:w.ownsRow base e size (.slice (some ⟨gs,0,none⟩) n cap) n xs)(o:Nat):w.frozen? ⟨gs,o,none⟩=false:=by
 rcases h.2 with⟨h1,_⟩|⟨g',cap',cur,h1,hb,hg,_⟩
 ·cases h1
 ·cases h1;exact Lib.frozen_of_heap hg o
theorem ad7{w:World}{base g n cap:Nat}{A B:List ByteArray}{x:ByteArray}(h:w.ownsRow base 9 1 (.slice (some ⟨g,0,none⟩) n cap) n ((A++x :: B).map Value.string)):w.cell? ⟨g,A.length,none⟩=some (.string x):=by
 have:=h.cells (g:=g) rfl A.length (.string x) (by simp);rw[Wp]at this;exact this
open Go.RowKit
theorem ad8(n:Int)(w:World):Calls prog 8 #[.int .i64 n] w fun e w'=>e=.returned (.int .i64 n)/\w'=w:=by
 go_enter func8,ntmps8;go_wp2;go_ret;exact⟨rfl,rfl⟩
theorem ad9(n:Int)(w:World):Calls prog 8 #[.int .i64 n] w fun e w'=>e=.returned (.int .i64 n)/\w.grownBy w' none:=by
 refine(ad8 n w).mono ?_;rintro e w' ⟨rfl,rfl⟩;exact⟨rfl,au _ _⟩
end Go.Proofs.YtnnbgjaphfhibaaGreatDoor
