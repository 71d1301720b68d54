import Derived.Test.YtaeonidcngjeiaaDoorM14
import Derived.Test.YtaeonidcngjeiaaDoorRows
import Derived.Test.YtaeonidcngjeiaaDoorM02
import Derived.ProofKit
import Derived.OpenShut
import Derived.ShutString
import Derived.SizedLaws
import Derived.Lib.SmallJoins
import Derived.Deep.Slices
import Derived.Carry
import Derived.DataReads
namespace Go.Proofs.YtaeonidcngjeiaaDoor
open Go.ChangeShapes Go.WideShapes Go.ChangeAt Go.RowKit Go.Joins
set_option linter.unusedVariables false
instance:Inhabited Nd:=⟨⟨⟨#[]⟩,⟨#[]⟩⟩⟩
instance:Inhabited Re:=⟨⟨⟨#[]⟩,⟨#[]⟩,[],⟨#[]⟩⟩⟩
theorem cellsNd:Tryd.prog.cellsOf 64=2:=by kernel_rfl
theorem cellsRe:Tryd.prog.cellsOf 48=4:=by kernel_rfl
theorem one_bulk {H:Type} (d:DataW H):1<=Rows.uptoBulk d:=by
 cases d with
 | lit l=>cases l <;> simp [Rows.uptoBulk]
 | _=>simp [Rows.uptoBulk]
theorem len_bulk {H:Type} (l:List (DataW H)):l.length<=Rows.uptoBulkAll l:=by
 induction l with
 | nil=>simp
 | cons d l ih =>
  have:=one_bulk d
  simp only [Rows.uptoBulkAll,List.length_cons]
  omega
theorem mem_bulk {H:Type} (l:List (DataW H)) (d:DataW H) (h:d ∈ l):Rows.uptoBulk d<=Rows.uptoBulkAll l:=by
 induction l with
 | nil=>cases h
 | cons e l ih =>
  simp only [Rows.uptoBulkAll]
  rcases List.mem_cons.1 h with rfl | h
  ·omega
  ·have:=ih h
   omega
theorem list2 {α:Type} {cs:List α} (h:cs.length=2):∃c0 c1,cs=[c0,c1]:=by
 match cs,h with
 | [c0,c1],_=>exact ⟨c0,c1,rfl⟩
theorem list4 {α:Type} {cs:List α} (h:cs.length=4):∃c0 c1 c2 c3,cs=[c0,c1,c2,c3]:=by
 match cs,h with
 | [c0,c1,c2,c3],_=>exact ⟨c0,c1,c2,c3,rfl⟩
set_option maxRecDepth 100000 in
set_option maxHeartbeats 800000 in
theorem need_cells {H:Type} {enc:TypeId × Value->H} {w:World} {base:Nat} {spare:Nat->Bool} {held:Bool} {fuel:Nat} {cs:List Value} {x:DataW H × List MemPlace}
  (h:DataW.trod enc Tryd.prog w base spare held fuel 64 cs=some x):∃s:Nd,cs=ndC s:=by
 have hu:=Tryd.underlying64
 obtain ⟨xs,n,_,hx,hl,hlen,hfs⟩:=DataW.trod_struct hu h
 obtain ⟨c0,c1,rfl⟩:=list2 (hl.trans cellsNd)
 match xs,hlen with
 | [y0,y1],_ =>
  have k9:Tryd.prog.cellsOf 9=1:=by kernel_rfl
  have g0:=hfs 0 _ rfl
  have g1:=hfs 1 _ rfl
  simp [k9] at g0 g1
  obtain ⟨a4,e4,rfl,w4⟩:=DataW.trod_string Tryd.underlying9 g0
  obtain ⟨a5,e5,rfl,w5⟩:=DataW.trod_string Tryd.underlying9 g1
  simp at e4 e5
  subst e4
  subst e5
  exact ⟨⟨a4,a5⟩,rfl⟩
theorem nd_of_cells {w:World} {a:Addr} {n:Nat} {s:Nd} (h:∀k v,(ndC s)[k]?=some v->w.cell? (a.add (n+k))=some v):NdAt w (a.add n) s :=
 ⟨by have:=h 0 _ rfl;simpa using this,by have:=h 1 _ rfl;rw [hadd_off a n 1 (by omega)] at this;exact this⟩
set_option maxRecDepth 100000 in
theorem open_needs {H:Type} {enc:TypeId × Value->H} {w:World} {base:Nat} {spare:Nat->Bool} {held:Bool} {fuel:Nat} {v:Value} {x:DataW H × List MemPlace}
  (h:DataW.trod enc Tryd.prog w base spare held fuel 46 [v]=some x):∃L:List Nd,NdS w v L/\L.length<=Rows.uptoBulk x.1:=by
 have hu:=Tryd.underlying46
 rcases Deep.open_slice hu h with ⟨hcs,hx⟩ | ⟨a,len,cap,m,n,D,Pl,hcs,hb,hl,hm,hmm,hx,hel⟩
 ·simp at hcs
  exact ⟨[],Or.inl ⟨hcs,rfl⟩,by simp⟩
 ·simp at hcs
  subst hcs
  have hle:len<=m:=by rw [hmm];split <;> omega
  have hS:∀i,i < len->∃s:Nd,∀k u,(ndC s)[k]?=some u->w.cell? (a.add (i * 2+k))=some u:=by
   intro i hi
   obtain ⟨cs',h1,h2⟩:=hel i (by omega)
   obtain ⟨s,hc⟩:=need_cells h2
   refine ⟨s,fun k u hu=>?_⟩
   rw [cellsNd] at h1
   obtain ⟨-,h4,h3⟩:=World.cells?_some h1
   have hk:k < 2:=(List.getElem?_eq_some_iff.1 hu).1
   have h5:=h3 k hk
   rw [Deep.add_add,hc,hu] at h5
   exact h5
  obtain ⟨S,hS⟩:=Deep.choose_lt hS
  have hlen:((List.range len).map S).length=len:=by simp
  refine ⟨(List.range len).map S,Or.inr ⟨a,cap,by rw [hlen],by rw [hlen];exact hl,fun i hi=>?_⟩,?_⟩
  ·have hi':i < len:=by rw [hlen] at hi;exact hi
   rw [List.getElem_map,List.getElem_range]
   exact nd_of_cells (hS i hi')
  ·rw [hx,hlen]
   simp only [Rows.uptoBulk]
   have:=len_bulk ((List.range len).map D)
   simp only [List.length_map,List.length_range] at this
   omega
set_option maxRecDepth 100000 in
set_option maxHeartbeats 800000 in
theorem rel_cells {H:Type} {enc:TypeId × Value->H} {w:World} {base:Nat} {spare:Nat->Bool} {held:Bool} {fuel:Nat} {cs:List Value} {x:DataW H × List MemPlace}
  (h:DataW.trod enc Tryd.prog w base spare held fuel 48 cs=some x) :
  ∃(r:Re) (v:Value),cs=[.string r.nm,.string r.ve,v,.string r.da]/\NdS w v r.nd/\r.ve.size<=Rows.uptoBulk x.1/\r.nd.length<=Rows.uptoBulk x.1:=by
 have hu:=Tryd.underlying48
 obtain ⟨xs,n,_,hx,hl,hlen,hfs⟩:=DataW.trod_struct hu h
 obtain ⟨c0,c1,c2,c3,rfl⟩:=list4 (hl.trans cellsRe)
 match xs,hlen with
 | [y0,y1,y2,y3],_ =>
  have k9:Tryd.prog.cellsOf 9=1:=by kernel_rfl
  have k8:Tryd.prog.cellsOf 46=1:=by kernel_rfl
  have g0:=hfs 0 _ rfl
  have g1:=hfs 1 _ rfl
  have g2:=hfs 2 _ rfl
  have g3:=hfs 3 _ rfl
  simp [k8,k9] at g0 g1 g2 g3
  obtain ⟨a0,e0,rfl,w0⟩:=DataW.trod_string Tryd.underlying9 g0
  obtain ⟨a1,e1,rfl,w1⟩:=DataW.trod_string Tryd.underlying9 g1
  obtain ⟨a3,e3,rfl,w3⟩:=DataW.trod_string Tryd.underlying9 g3
  obtain ⟨N,hN,hNl⟩:=open_needs g2
  simp at e0 e1 e3
  subst e0
  subst e1
  subst e3
  refine ⟨⟨a0,a1,N,a3⟩,c2,rfl,hN,?_,?_⟩
  ·rw [hx]
   simp only [List.map,Rows.uptoBulk,Rows.uptoBulkAll,Array.length_toList]
   have e1:a1.data.size=a1.size:=rfl
   omega
  ·rw [hx]
   simp only [List.map,Rows.uptoBulk,Rows.uptoBulkAll,Array.length_toList]
   omega
set_option maxRecDepth 100000 in
theorem open_releases {H:Type} {enc:TypeId × Value->H} {w:World} {base:Nat} {spare:Nat->Bool} {held:Bool} {r:Reach} {b0:Nat} {v:Value} {d:DataW H} {p:List MemPlace}
  (hv:Value.okWide Tryd.prog w r b0 22 v) (h:DataW.Trod enc Tryd.prog w base spare held 22 v d p) :
  ∃L:List Re,ReS w v L/\L.length<=Rows.uptoBulk d/\∀s ∈ L,s.ve.size<=Rows.uptoBulk d/\s.nd.length<=Rows.uptoBulk d:=by
 have hu:=Tryd.underlying22
 obtain ⟨a0,l0,c0,rfl⟩:=okWide_slice hu hv
 obtain ⟨fuel,hf⟩:=h
 rcases Deep.open_slice hu hf with ⟨hcs,hx⟩ | ⟨a,len,cap,m,n,D,Pl,hcs,hb,hl,hm,hmm,hx,hel⟩
 ·simp [Value.cells] at hcs
  obtain ⟨rfl,rfl,rfl⟩:=hcs
  exact ⟨[],Or.inl ⟨rfl,rfl⟩,by simp,by simp⟩
 ·simp [Value.cells] at hcs
  obtain ⟨rfl,rfl,rfl⟩:=hcs
  have hle:l0<=m:=by rw [hmm];split <;> omega
  have hS:∀i,i < l0->∃s:Re,ReAt w (a.add (i * 4)) s/\s.ve.size<=Rows.uptoBulk (D i)/\s.nd.length<=Rows.uptoBulk (D i):=by
   intro i hi
   obtain ⟨cs',h1,h2⟩:=hel i (by omega)
   obtain ⟨s,v,hc,hn,hv1,hv2⟩:=rel_cells h2
   rw [cellsRe] at h1
   obtain ⟨-,h4,h3⟩:=World.cells?_some h1
   subst hc
   have q0:=h3 0 (by omega)
   have q1:=h3 1 (by omega)
   have q2:=h3 2 (by omega)
   have q3:=h3 3 (by omega)
   rw [Deep.add_add] at q0 q1 q2 q3
   rw [hadd_off _ _ _ (by omega)] at q1 q2 q3
   exact ⟨s,⟨by simpa using q0,by simpa using q1,⟨v,by simpa using q2,hn⟩,by simpa using q3⟩,hv1,hv2⟩
  obtain ⟨S,hS⟩:=Deep.choose_lt hS
  have hlen:((List.range l0).map S).length=l0:=by simp
  have hd:d=.slice ((List.range l0).map D) ((List.range (m - l0)).map fun j=>D (l0+j)):=congrArg Prod.fst hx
  have hbl:=len_bulk ((List.range l0).map D)
  simp only [List.length_map,List.length_range] at hbl
  refine ⟨(List.range l0).map S,Or.inr ⟨a,c0,by rw [hlen],by rw [hlen];exact hl,fun i hi=>?_⟩,?_,fun s hs=>?_⟩
  ·have hi':i < l0:=by rw [hlen] at hi;exact hi
   rw [List.getElem_map,List.getElem_range]
   exact (hS i hi').1
  ·rw [hd,hlen];simp only [Rows.uptoBulk];omega
  ·obtain ⟨i,hi,rfl⟩:=List.mem_map.1 hs
   have hm:=mem_bulk ((List.range l0).map D) (D i) (List.mem_map.2 ⟨i,hi,rfl⟩)
   have:=(hS i (List.mem_range.1 hi)).2
   rw [hd];simp only [Rows.uptoBulk];omega
end Go.Proofs.YtaeonidcngjeiaaDoor
