import Derived.Test.YtbcfhgpfgdbjgaaGreatDoorK29
import Derived.Test.YtbcfhgpfgdbjgaaGreatDoorK32
set_option linter.all false
set_option maxRecDepth 100000
set_option maxHeartbeats 0
namespace Go.Proofs.YtbcfhgpfgdbjgaaGreatDoor
open Go.RowKit Go.Maps Go.WideMaps Go.Joins
variable{b0 b1:Nat}{w w':World}
structure SpF(b0 b1:Nat)(w w':World):Prop where
 os:w'.os=w.os
 tape:w'.tape=w.tape
 output:w'.output=w.output
 size:w.heap.size<=w'.heap.size
 block:∀b,(b<b0\/b1<=b)->w'.heap[b]?=w.heap[b]?
theorem SpF.refl(b0 b1:Nat)(w:World):SpF b0 b1 w w:=⟨rfl,rfl,rfl,Nat.le_refl _,fun _ _=>rfl⟩
theorem SpF.set(h:SpF b0 b1 w w'){g:Nat}(h0:b0<=g)(h1:g<b1)(o:Nat)(v:Value):SpF b0 b1 w (w'.setCell ⟨g,o,none⟩ v) :=
 ⟨h.os,h.tape,h.output,by have:=h.size;simpa [World.setCell] using this,fun b hb=>(heap_setCell_other w' _ b v (by simp only[];omega)).trans (h.block b hb)⟩
theorem SpF.below(h:SpF b0 b1 w w'):Below b0 w w':=⟨h.os,h.tape,h.output,h.size,fun k hk=>h.block k (Or.inl hk)⟩
structure SpL(w:World)(b0 b1 N n i:Nat)(ks:Nat->Value)(ls:Nat->Nat):Prop where
 lo:b0<=N
 hi:N<b1
 row:∃cur,w.heap[N]?=some (.cells cur 63 (0,0))/\n*6<=cur.size/\∀j,i<=j->j<n->cur[j*6+4]?=some (ks j)
 kid:∀j,j<n->∃o c,ks j=.slice o (ls j) c/\ls j<=1000000/\(0<ls j->∃g cur,o=some ⟨g,0,none⟩/\b0<=g/\g<b1/\w.heap[g]?=some (.cells cur 3 (0,0))/\ls j<=cur.size)
section
variable {w:World} {b0 b1 N n i:Nat} {ks:Nat->Value} {ls:Nat->Nat}
theorem SpL.next(h:SpL w b0 b1 N n i ks ls):SpL w b0 b1 N n (i+1) ks ls:=by
 obtain⟨cur,h1,h2,h3⟩:=h.row;exact⟨h.lo,h.hi,⟨cur,h1,h2,fun j hj hn=>h3 j (by omega) hn⟩,h.kid⟩
theorem SpL.cell(h:SpL w b0 b1 N n i ks ls)(o:Nat)(ho:o<i*6)(v:Value):SpL (w.setCell ⟨N,o,none⟩ v) b0 b1 N n i ks ls:=by
 obtain⟨cur,h1,h2,h3⟩:=h.row;refine⟨h.lo,h.hi,⟨cur.setIfInBounds o v,block_setCell h1 v,by simpa using h2,fun j hj hn=>?_⟩,fun j hj=>?_⟩
 ·rw[Array.getElem?_setIfInBounds_ne (by omega)];exact h3 j hj hn
 ·obtain⟨oo,c,e,hm,hh⟩:=h.kid j hj;refine⟨oo,c,e,hm,fun hp=>?_⟩;obtain⟨g,cu,e1,e2,e3,e4,e5⟩:=hh hp;exact⟨g,cu,e1,e2,e3,(heap_setCell_other _ _ _ _ (aZ e4 h1 (by decide))).trans e4,e5⟩
theorem SpL.at(h:SpL w b0 b1 N n i ks ls)(j:Nat)(hj:i<=j)(hn:j<n):w.cell? ⟨N,j*6+4,none⟩=some (ks j)/\∀k,w.frozen? ⟨N,k,none⟩=false:=by
 obtain⟨cur,h1,h2,h3⟩:=h.row;exact⟨by rw[aj h1];exact h3 j hj hn,fun k=>Lib.frozen_of_heap h1 k⟩
theorem SpL.any(h:SpL w b0 b1 N n i ks ls)(o:Nat)(ho:o<n*6):∃v,w.cell? ⟨N,o,none⟩=some v:=by
 obtain⟨cur,h1,h2,h3⟩:=h.row;exact⟨cur[o]'(by omega),by rw[aj h1];exact Array.getElem?_eq_getElem (by omega)⟩
end
end Go.Proofs.YtbcfhgpfgdbjgaaGreatDoor
