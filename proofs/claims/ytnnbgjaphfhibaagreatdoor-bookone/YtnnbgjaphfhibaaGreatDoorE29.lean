import Derived.Test.YtnnbgjaphfhibaaGreatDoorE23
set_option linter.all false
set_option maxRecDepth 100000
set_option maxHeartbeats 0
namespace Go.Proofs.YtnnbgjaphfhibaaGreatDoor
open Go.RowKit
structure DrI(d:Dr):Prop where
 tl:d.tb.length=d.es.length
 t50:d.tb.length<=50
 ky:∀q e,d.lk q=some (.key e)->e<d.es.length
 va:∀q e,d.lk q=some (.val e)->e<d.es.length
 nd:∀e,(aW d.es e).nd.length<=20
theorem X6(es:List En)(e:Nat)(y:En)(i:Nat):aW (es.set e y) i=if i=e/\e<es.length then y else aW es i:=by
 unfold aW;rw[List.getElem?_set]
 by_cases h:e=i
 ·subst h
  by_cases h2:e<es.length
  ·rw[if_pos rfl,if_pos h2,if_pos ⟨rfl,h2⟩];rfl
  ·rw[if_pos rfl,if_neg h2,if_neg (fun h=>h2 h.2),List.getElem?_eq_none (by omega)]
 ·rw[if_neg h,if_neg (fun h2=>h h2.1.symm)]
theorem afE(es:List En)(i:Nat):(aW (es++[en0]) i).nd.length=(aW es i).nd.length:=by
 unfold aW
 by_cases h:i<es.length
 ·rw[List.getElem?_append_left h]
 ·rw[List.getElem?_append_right (by omega),List.getElem?_eq_none (show es.length<=i by omega)]
  by_cases h2:i-es.length=0
  ·rw[h2];rfl
  ·rw[List.getElem?_eq_none (by simp;omega)]
theorem DrI.keepT{d:Dr}(h:DrI d)(ks:List Nat)(k:iw)(h1:∀e,k=.key e->e<d.es.length)(h2:∀e,k=.val e->e<d.es.length):DrI (keepD d ks k):=by
 refine⟨h.tl,h.t50,fun q e hq=>?_,fun q e hq=>?_,h.nd⟩
 ·unfold keepD at hq;simp only[]at hq;split at hq
  ·injection hq with hq;exact h1 e hq
  ·exact h.ky q e hq
 ·unfold keepD at hq;simp only[]at hq;split at hq
  ·injection hq with hq;exact h2 e hq
  ·exact h.va q e hq
theorem DrI.setT{d:Dr}(h:DrI d)(e:Nat)(y:En)(hy:y.nd=(aW d.es e).nd):DrI (setD d e y):=by
 refine⟨by show d.tb.length=(d.es.set e y).length;rw[List.length_set];exact h.tl,h.t50,fun q i hq=>?_,fun q i hq=>?_,fun i=>?_⟩
 ·show i<(d.es.set e y).length;rw[List.length_set];exact h.ky q i hq
 ·show i<(d.es.set e y).length;rw[List.length_set];exact h.va q i hq
 ·show(aW (d.es.set e y) i).nd.length<=20;rw[X6];split
  ·rw[hy];exact h.nd e
  ·exact h.nd i
theorem look_ok{d d':Dr}{q:Nat}{x:Tn}{k:iw}(h:DrI d)(h1:∀e,k=.key e->e<d.es.length)(h2:∀e,k=.val e->e<d.es.length)(hl:eQ d q x k=.ok d'):DrI d'/\d'.wt.length<=d.wt.length+1:=by
 match k,h1,h2,hl with
 | .root,h1,h2,hl =>
  unfold eQ at hl;simp only[]at hl;split at hl
  ·split at hl
   ·cases hl
   ·split at hl
    ·cases hl
    ·cases hl;exact⟨⟨h.tl,h.t50,h.ky,h.va,h.nd⟩,by simp⟩
  ·split at hl
   ·cases hl;exact⟨h.keepT _ _ (fun e he=>by cases he) (fun e he=>by cases he),by simp[keepD]⟩
   ·cases hl
 | .tabs,h1,h2,hl =>
  unfold eQ at hl;simp only[]at hl;split at hl
  ·cases hl
  ·rename_i h50
   cases hl
   have hb:DrI ⟨d.lk,d.fm,d.tb++[q],d.es++[en0],d.wt⟩:=by
    refine⟨by simp only[List.length_append,List.length_cons,List.length_nil];rw[h.tl],by simp only[List.length_append,List.length_cons,List.length_nil];have:=h.t50;omega,fun q e hq=>?_,fun q e hq=>?_,fun e=>?_⟩
    ·have:=h.ky q e hq;simp only[List.length_append,List.length_cons,List.length_nil];omega
    ·have:=h.va q e hq;simp only[List.length_append,List.length_cons,List.length_nil];omega
    ·rw[afE];exact h.nd e
   exact⟨hb.keepT _ _ (fun e he=>by cases he;simp) (fun e he=>by cases he),by simp[keepD]⟩
 | .key e,h1,h2,hl =>
  have hl':jv d x e=.ok d':=hl;unfold jv nS at hl';split at hl'
  ·split at hl'
   ·split at hl'
    ·cases hl'
    ·cases hl';exact⟨h.setT _ _ rfl,by simp[setD]⟩
   ·cases hl'
  ·split at hl'
   ·split at hl'
    ·cases hl';exact⟨h.setT _ _ rfl,by simp[setD]⟩
    ·cases hl'
   ·split at hl'
    ·split at hl'
     ·cases hl';exact⟨h.setT _ _ rfl,by simp[setD]⟩
     ·cases hl'
    ·split at hl'
     ·cases hl';exact⟨h.keepT _ _ (fun e he=>by cases he) (fun e' he=>by cases he;exact h1 _ rfl),by simp[keepD]⟩
     ·cases hl'
 | .val e,h1,h2,hl =>
  have hl':nT d x e=.ok d':=hl;unfold nT at hl';split at hl'
  ·split at hl'
   ·cases hl'
   ·split at hl'
    ·cases hl'
    ·rename_i h20
     cases hl'
     refine⟨⟨by simp only[List.length_set];exact h.tl,h.t50,fun q i hq=>by simp only[List.length_set];exact h.ky q i hq,fun q i hq=>by simp only[List.length_set];exact h.va q i hq,fun i=>?_⟩,by simp⟩;simp only[];rw[X6];split
     ·have:=h.nd e;simp only[List.length_append,List.length_cons,List.length_nil];omega
     ·exact h.nd i
  ·cases hl'
theorem afF(ks:List Nat):DrI (keepD iT ks .root) :=
 DrI.keepT ⟨rfl,by simp[iT],fun q e h=>by simp[iT]at h,fun q e h=>by simp[iT]at h,fun e=>by simp[aW,iT,en0]⟩ _ _ (fun e he=>by cases he) (fun e he=>by cases he)
theorem afG{d d':Dr}{q:Nat}{x:Tn}{k:iw}(hl:eQ d q x k=.ok d'):∀p∈d'.tb,p∈d.tb\/p=q:=by
 match k,hl with
 | .root,hl =>
  unfold eQ at hl;simp only[]at hl
  repeat' split at hl
  all_goals first|(cases hl;done)|(cases hl;exact fun p hp=>Or.inl hp)
 | .tabs,hl =>
  unfold eQ at hl;simp only[]at hl;split at hl
  ·cases hl
  ·cases hl
   intro p hp;have hp':p∈d.tb++[q]:=hp;simpa using hp'
 | .key e,hl =>
  have hl':jv d x e=.ok d':=hl;unfold jv nS at hl'
  repeat' split at hl'
  all_goals first|(cases hl';done)|(cases hl';exact fun p hp=>Or.inl hp)
 | .val e,hl =>
  have hl':nT d x e=.ok d':=hl;unfold nT at hl'
  repeat' split at hl'
  all_goals first|(cases hl';done)|(cases hl';exact fun p hp=>Or.inl hp)
structure DrN(d:Dr):Prop where
 es:∀x∈d.es,x.nm.size<=30
 wt:∀y∈d.wt,y.1.size<=30
theorem X7{x:Tn}(h:takeD x nameB=0):(bW x).size<=30:=by
 unfold takeD at h;split at h
 ·cases h
 ·split at h
  ·rename_i hn;have:DX (bW x):=Classical.byContradiction fun hh=>by rw[rU hh]at hn;cases hn
   exact this.2.1
  ·cases h
theorem DrN.at{d:Dr}(h:DrN d)(e:Nat):(aW d.es e).nm.size<=30:=by
 unfold aW
 cases hx:d.es[e]? with
 | none=>show(en0).nm.size<=30;decide
 | some x=>exact h.es x (List.mem_of_getElem? hx)
theorem DrN.set{d:Dr}(h:DrN d)(e:Nat)(y:En)(hy:y.nm.size<=30):∀x∈d.es.set e y,x.nm.size<=30:=fun x hx=>by
 rcases List.mem_or_eq_of_mem_set hx with h1|h1
 ·exact h.es x h1
 ·rw[h1];exact hy
theorem afH{d d':Dr}{q:Nat}{x:Tn}{k:iw}(h:DrN d)(hl:eQ d q x k=.ok d'):DrN d':=by
 match k,hl with
 | .root,hl =>
  unfold eQ at hl;simp only[]at hl
  repeat' split at hl
  all_goals first|(cases hl;done)|(cases hl;exact⟨h.es,h.wt⟩)
 | .tabs,hl =>
  unfold eQ at hl;simp only[]at hl;split at hl
  ·cases hl
  ·cases hl
   refine⟨fun y hy=>?_,h.wt⟩;have hy':y∈d.es++[en0]:=hy
   rcases List.mem_append.1 hy' with h1|h1
   ·exact h.es y h1
   ·rw[List.mem_singleton.1 h1];decide
 | .key e,hl =>
  have hl':jv d x e=.ok d':=hl;unfold jv nS at hl';split at hl'
  ·split at hl'
   ·rename_i ht;split at hl'
    ·cases hl'
    ·cases hl';exact⟨h.set e _ (X7 ht),h.wt⟩
   ·cases hl'
  ·split at hl'
   ·split at hl'
    ·cases hl';exact⟨h.set e _ (h.at e),h.wt⟩
    ·cases hl'
   ·split at hl'
    ·split at hl'
     ·cases hl';exact⟨h.set e _ (h.at e),h.wt⟩
     ·cases hl'
    ·split at hl'
     ·cases hl';exact⟨h.es,h.wt⟩
     ·cases hl'
 | .val e,hl =>
  have hl':nT d x e=.ok d':=hl;unfold nT at hl';split at hl'
  ·rename_i ht;split at hl'
   ·cases hl'
   ·split at hl'
    ·cases hl'
    ·cases hl'
     refine⟨h.set e _ (h.at e),fun y hy=>?_⟩
     rcases List.mem_append.1 hy with h1|h1
     ·exact h.wt y h1
     ·rw[List.mem_singleton.1 h1];exact X7 ht
  ·cases hl'
end Go.Proofs.YtnnbgjaphfhibaaGreatDoor
