import Derived.Test.YtnnbgjaphfhibaaGreatDoorN09
import Derived.Test.YtnnbgjaphfhibaaGreatDoorN11
import Derived.Deep.RegionHeld3
import Derived.Deep.RegionLaw
import Derived.Deep.Cut
set_option linter.unusedVariables false
set_option linter.unusedSimpArgs false
set_option maxRecDepth 100000
set_option maxHeartbeats 6400000
open Go.Proofs.Tryz
namespace Go.Proofs.YtnnbgjaphfhibaaGreatDoor
open Go.RowKit Go.Maps Go.WideMaps Go.Joins
theorem bK{w w':World}{B:Nat}{e:TypeId}{s:Nat}{v:Value}{n:Nat}{xs:List Value}(h:w.ownsRow B e s v n xs)(hb:∀g cur,v.ownBlock=some g->w.heap[g]?=some (.cells cur e (0,0))->w'.heap[g]?=w.heap[g]?):w'.ownsRow B e s v n xs:=by
 refine⟨h.1,?_⟩
 rcases h.2 with h1|⟨g,cap,cur,rfl,h2,h3,h4⟩
 ·exact Or.inl h1
 ·exact Or.inr ⟨g,cap,cur,rfl,h2,(hb g cur rfl h3).trans h3,h4⟩
theorem bn{w:World}{B:Nat}{e:TypeId}{s:Nat}{v:Value}{n:Nat}{xs:List Value}(h:w.ownsRow B e s v n xs){g:Nat}(hg:v.ownBlock=some g):B<=g/\∃cur,w.heap[g]?=some (.cells cur e (0,0)):=by
 rcases h.2 with⟨rfl,_⟩|⟨g',cap,cur,rfl,h2,h3,h4⟩
 ·cases hg
 ·cases hg
  exact⟨h2,cur,h3⟩
theorem aP{w:World}{a b:Nat}{c1 c2:Array Value}{t1 t2:TypeId}{f1 f2:Nat × Nat}(h1:w.heap[a]?=some (.cells c1 t1 f1))(h2:w.heap[b]?=some (.cells c2 t2 f2))(h:¬t1=t2):¬a=b:=fun e=>by
 subst e;rw[h1]at h2;injection h2 with h2
 injection h2 with _ e2 _
 exact h e2
theorem o9{w:World}{a b:Nat}{c1:Array Value}{t1:TypeId}{f1:Nat × Nat}{es:Array MapEntry}{c:Nat}(h1:w.heap[a]?=some (.cells c1 t1 f1))(h2:w.heap[b]?=some (.map es c)):¬a=b:=fun e=>by
 subst e;rw[h1]at h2
 cases h2
theorem aA{w:World}{b:Nat}{o:Obj}(h:w.heap[b]?=some o):b<w.heap.size:=(kG h)
structure TrD(w:World)(B T:Nat)(ns:List Tn)(now N c M:Nat)(xs:List Value)(ks:Nat->Value)(n:Nat)(f:Nat->List UInt8->Option (Nat × Bool)):Prop where
 blk:w.heap[T]?=some (.cells #[.slice (some ⟨N,0,none⟩) ns.length c,.map (some M),.int .i64 (now:Nat)] 129 (0,0))
 bT:B<=T
 row:w.ownsRow B 64 6 (.slice (some ⟨N,0,none⟩) ns.length c) ns.length xs
 cel:∀i (hi:i<ns.length),xs[i*6]?=some (.int .i64 ns[i].kd)/\xs[i*6+1]?=some (.string ⟨ns[i].ky.toArray⟩)/\xs[i*6+2]?=some (.string ⟨ns[i].tx.toArray⟩)/\xs[i*6+3]?=some (.int .i64 ns[i].nu)/\xs[i*6+4]?=some (ks i)/\xs[i*6+5]?=some (.int .i64 (ns[i].pl:Nat))
 kid:∀i (hi:i<ns.length),w.ownsRow B 3 1 (ks i) ns[i].ks.length (ns[i].ks.map fun q=>.int .i64 (q:Nat))
 apart:∀i j g,i<ns.length->j<ns.length->(ks i).ownBlock=some g->(ks j).ownBlock=some g->i=j
 map:HM w M n f
 bM:B<=M
section
variable {w w':World} {B T:Nat} {ns:List Tn} {now N c M:Nat} {xs:List Value} {ks:Nat->Value} {n:Nat} {f:Nat->List UInt8->Option (Nat × Bool)}
theorem TrD.rowT(h:TrD w B T ns now N c M xs ks n f):∃cur,w.heap[N]?=some (.cells cur 64 (0,0)):=(bn h.row rfl).2
theorem TrD.cells(h:TrD w B T ns now N c M xs ks n f):w.cell? ⟨T,0,none⟩=some (.slice (some ⟨N,0,none⟩) ns.length c)/\w.cell? ⟨T,1,none⟩=some (.map (some M))/\w.cell? ⟨T,2,none⟩=some (.int .i64 (now:Nat))/\∀k,w.frozen? ⟨T,k,none⟩=false :=
 ⟨by rw[af h.blk];rfl,by rw[af h.blk];rfl,by rw[af h.blk];rfl,fun k=>Lib.frozen_of_heap h.blk k⟩
theorem mr(g k:Nat):(⟨g,0,none⟩:Addr).add k=⟨g,k,none⟩:=by
 unfold Addr.add;split
 ·rename_i h;rw[h]
 ·simp
theorem TrD.node(h:TrD w B T ns now N c M xs ks n f)(i:Nat)(hi:i<ns.length):w.cell? ⟨N,i*6,none⟩=some (.int .i64 ns[i].kd)/\w.cell? ⟨N,i*6+1,none⟩=some (.string ⟨ns[i].ky.toArray⟩)/\w.cell? ⟨N,i*6+2,none⟩=some (.string ⟨ns[i].tx.toArray⟩)/\w.cell? ⟨N,i*6+3,none⟩=some (.int .i64 ns[i].nu)/\w.cell? ⟨N,i*6+4,none⟩=some (ks i)/\w.cell? ⟨N,i*6+5,none⟩=some (.int .i64 (ns[i].pl:Nat))/\∀k,w.frozen? ⟨N,k,none⟩=false:=by
 obtain⟨h0,h1,h2,h3,h4,h5⟩:=h.cel i hi;have key:∀j u,xs[j]?=some u->w.cell? ⟨N,j,none⟩=some u:=fun j u hu=>by
  have:=h.row.cells (g:=N) rfl j u hu;rw[mr]at this;exact this
 obtain⟨cur,hc⟩:=h.rowT;exact⟨key _ _ h0,key _ _ h1,key _ _ h2,key _ _ h3,key _ _ h4,key _ _ h5,fun k=>Lib.frozen_of_heap hc k⟩
def E5(w w':World):Prop:=(∀(b:Nat) (cs:Array Value) (t:TypeId) (fz:Nat × Nat),w.heap[b]?=some (.cells cs t fz)->(t=129\/t=64\/t=3)->w'.heap[b]?=w.heap[b]?)/\∀(b:Nat) (es:Array MapEntry) (c:Nat),w.heap[b]?=some (.map es c)->w'.heap[b]?=w.heap[b]?
theorem TrD.keeps(h:TrD w B T ns now N c M xs ks n f)(hk:E5 w w'):TrD w' B T ns now N c M xs ks n f:=by
 refine⟨(hk.1 _ _ _ _ h.blk (Or.inl rfl)).trans h.blk,h.bT,bK h.row fun g cur _ hc=>hk.1 _ _ _ _ hc (Or.inr (Or.inl rfl)),h.cel,fun i hi=>bK (h.kid i hi) fun g cur _ hc=>hk.1 _ _ _ _ hc (Or.inr (Or.inr rfl)),h.apart,?_,h.bM⟩;obtain⟨es,cc,hm⟩:=h.map.map;exact h.map.block (hk.2 _ _ _ hm)
theorem mD(hg:w.grownBy w' none):E5 w w':=⟨fun b cs t fz hb _=>hg.block b (aA hb) (by simp),fun b es c hb=>hg.block b (aA hb) (by simp)⟩
theorem YR{R:Nat}{s:ByteArray}{i T':Nat}(h:Rd w R s i T')(hg:w.grownBy w' (some R)):E5 w w' :=
 ⟨fun b cs t fz hb ht=>hg.block b (aA hb) (by
  simp only[ne_eq,Option.some.injEq];refine aP hb h ?_
  rcases ht with rfl|rfl|rfl<;>decide),fun b es c hb=>hg.block b (aA hb) (by
  simp only[ne_eq,Option.some.injEq];exact fun e=>o9 h hb e.symm)⟩
structure Fr(B:Nat)(w w':World):Prop where
 bel:Below B w w'
 oth:∀(b:Nat) (cs:Array Value) (t:TypeId) (fz:Nat × Nat),w.heap[b]?=some (.cells cs t fz)->¬t=129->¬t=64->¬t=3->w'.heap[b]?=w.heap[b]?
theorem Fr.two{w1 w2:World}(h:Fr B w w1)(h':Fr B w1 w2):Fr B w w2 :=
 ⟨h.bel.trans h'.bel,fun b cs t fz hb h1 h2 h3=>by
  have e1:=h.oth b cs t fz hb h1 h2 h3;exact(h'.oth b cs t fz (e1.trans hb) h1 h2 h3).trans e1⟩
theorem Fr.gb(hg:w.grownBy w' none)(hB:B<=w.heap.size):Fr B w w' :=
 ⟨⟨hg.os,hg.tape,hg.output,hg.size,fun k hk=>hg.block k (by omega) (by simp)⟩,fun b cs t fz hb _ _ _=>hg.block b (aA hb) (by simp)⟩
theorem Fr.row{t:TypeId}{g:Nat}{cur:Array Value}{fz:Nat × Nat}(hg:w.grownBy w' (some g))(hB:B<=w.heap.size)(hgB:B<=g)(hb:w.heap[g]?=some (.cells cur t fz))(ht:t=129\/t=64\/t=3):Fr B w w' :=
 ⟨⟨hg.os,hg.tape,hg.output,hg.size,fun k hk=>hg.block k (by omega) (by simp;omega)⟩,fun b cs t' fz' hb' h1 h2 h3=>hg.block b (aA hb') (by
  simp only[ne_eq,Option.some.injEq];refine aP hb' hb ?_
  rcases ht with rfl|rfl|rfl
  ·exact h1
  ·exact h2
  ·exact h3)⟩
theorem Fr.mapd{M:Nat}{es:Array MapEntry}{c:Nat}(hg:w.grownBy w' (some M))(hB:B<=w.heap.size)(hgB:B<=M)(hb:w.heap[M]?=some (.map es c)):Fr B w w' :=
 ⟨⟨hg.os,hg.tape,hg.output,hg.size,fun k hk=>hg.block k (by omega) (by simp;omega)⟩,fun b cs t' fz' hb' h1 h2 h3=>hg.block b (aA hb') (by
  simp only[ne_eq,Option.some.injEq];exact o9 hb' hb)⟩
theorem iq(w:World)(g o:Nat)(v:Value):w.grownBy (w.setCell ⟨g,o,none⟩ v) (some g) :=
 ⟨rfl,rfl,rfl,by simp[World.setCell],fun k hk hn=>heap_setCell_other w _ k v (fun e=>hn (by rw[e]))⟩
theorem TrD.push(h:TrD w B T ns now N c M xs ks n f){w1:World}{g cap L:Nat}(x:Tn)(hx:x.ks=[])(hL:ns.length+1=L)
  (ho:w1.ownsRow B 64 6 (.slice (some ⟨g,0,none⟩) L cap) L (xs++[.int .i64 x.kd,.string ⟨x.ky.toArray⟩,.string ⟨x.tx.toArray⟩,.int .i64 x.nu,.slice none 0 0,.int .i64 (x.pl:Nat)])) (hg:w.grownBy w1 (some N)) :
  TrD (w1.setCell ⟨T,0,none⟩ (.slice (some ⟨g,0,none⟩) L cap)) B T (ns++[x]) now g cap M (xs++[.int .i64 x.kd,.string ⟨x.ky.toArray⟩,.string ⟨x.tx.toArray⟩,.int .i64 x.nu,.slice none 0 0,.int .i64 (x.pl:Nat)]) (fun i=>if i=ns.length then .slice none 0 0 else ks i) n f:=by
 obtain⟨cur,hN⟩:=h.rowT;have hT1:w1.heap[T]?=w.heap[T]?:=hg.block T (aA h.blk) (by simp only[ne_eq,Option.some.injEq];exact aP h.blk hN (by decide));have hb1:=hT1.trans h.blk;obtain⟨cg,hcg⟩:=(bn ho rfl).2;have hxl:xs.length=ns.length*6:=h.row.1;have hlen:(ns++[x]).length=L:=by simp[hL]
 have hset:=block_setCell (i:=0) hb1 (.slice (some ⟨g,0,none⟩) L cap);refine⟨?_,h.bT,?_,?_,?_,?_,?_,h.bM⟩
 ·rw[hlen];exact hset
 ·rw[hlen];exact bK ho fun g' cur' _ hc=>heap_setCell_other _ _ _ _ (aP hc hb1 (by decide))
 ·intro i hi;rw[hlen]at hi
  by_cases he:i=ns.length
  ·subst he;simp only[List.getElem_append_right (Nat.le_refl _),Nat.sub_self,List.getElem_cons_zero];rw[<-hxl];refine⟨?_,?_,?_,?_,?_,?_⟩
   ·rw[List.getElem?_append_right (by omega),Nat.sub_self];rfl
   ·rw[List.getElem?_append_right (by omega),show xs.length+1-xs.length=1 by omega];rfl
   ·rw[List.getElem?_append_right (by omega),show xs.length+2-xs.length=2 by omega];rfl
   ·rw[List.getElem?_append_right (by omega),show xs.length+3-xs.length=3 by omega];rfl
   ·rw[List.getElem?_append_right (by omega),show xs.length+4-xs.length=4 by omega];simp
   ·rw[List.getElem?_append_right (by omega),show xs.length+5-xs.length=5 by omega];rfl
  ·have hlt:i<ns.length:=by omega
   obtain⟨h0,h1,h2,h3,h4,h5⟩:=h.cel i hlt;simp only[List.getElem_append_left hlt,if_neg he];refine⟨?_,?_,?_,?_,?_,?_⟩
   all_goals (rw[List.getElem?_append_left (by omega)];assumption)
 ·intro i hi;rw[hlen]at hi
  by_cases he:i=ns.length
  ·subst he;simp only[List.getElem_append_right (Nat.le_refl _),Nat.sub_self,List.getElem_cons_zero,hx,if_true];exact⟨rfl,Or.inl ⟨rfl,rfl⟩⟩
  ·have hlt:i<ns.length:=by omega
   simp only[List.getElem_append_left hlt,if_neg he];refine bK (h.kid i hlt) fun g' cur' _ hc=>?_
   have e1:w1.heap[g']?=w.heap[g']?:=hg.block g' (aA hc) (by simp only[ne_eq,Option.some.injEq];exact aP hc hN (by decide));exact(heap_setCell_other _ _ _ _ (aP (e1.trans hc) hb1 (by decide))).trans e1
 ·intro i j g' hi hj h1 h2;rw[hlen]at hi hj
  by_cases hei:i=ns.length
  ·rw[if_pos hei]at h1;cases h1
  ·by_cases hej:j=ns.length
   ·rw[if_pos hej]at h2;cases h2
   ·rw[if_neg hei]at h1;rw[if_neg hej]at h2;exact h.apart i j g' (by omega) (by omega) h1 h2
 ·obtain⟨es,cc,hm⟩:=h.map.map;have e1:w1.heap[M]?=w.heap[M]?:=hg.block M (aA hm) (by simp only[ne_eq,Option.some.injEq];exact fun e=>o9 hN hm e.symm);exact h.map.block ((heap_setCell_other _ _ _ _ (fun e=>o9 hb1 (e1.trans hm) e.symm)).trans e1)
theorem TrD.kidOwn(h:TrD w B T ns now N c M xs ks n f){i:Nat}(hi:i<ns.length){g:Nat}(hg:(ks i).ownBlock=some g):∃cur,w.heap[g]?=some (.cells cur 3 (0,0)):=(bn (h.kid i hi) hg).2
theorem TrD.kidp(h:TrD w B T ns now N c M xs ks n f){w1:World}{g cap L:Nat}(p:Nat)(hp:p<ns.length)(q:Nat)(hL:ns[p].ks.length+1=L)
  (ho:w1.ownsRow B 3 1 (.slice (some ⟨g,0,none⟩) L cap) L ((ns[p].ks.map fun q=>.int .i64 (q:Nat))++[.int .i64 (q:Nat)])) (hg:w.grownBy w1 (ks p).ownBlock) (hat:(ks p).ownBlock=some g\/w.heap.size<=g) :
  TrD (w1.setCell ⟨N,p*6+4,none⟩ (.slice (some ⟨g,0,none⟩) L cap)) B T (ns.set p { ns[p] with ks:=ns[p].ks++[q] }) now N c M (xs.set (p*6+4) (.slice (some ⟨g,0,none⟩) L cap)) (fun i=>if i=p then .slice (some ⟨g,0,none⟩) L cap else ks i) n f:=by
 obtain⟨cur,hN⟩:=h.rowT;have xC:∀(b:Nat) (cs:Array Value) (t:TypeId) (fz:Nat × Nat),w.heap[b]?=some (.cells cs t fz)->¬t=3->w1.heap[b]?=w.heap[b]?:=fun b cs t fz hb ht=>hg.block b (aA hb) (fun e=>by
  obtain⟨cc,hcc⟩:=h.kidOwn hp e.symm;exact aP hb hcc ht rfl)
 have hN1:=xC _ _ _ _ hN (by decide);have hT1:=xC _ _ _ _ h.blk (by decide);have hxl:xs.length=ns.length*6:=h.row.1;have hlen:(ns.set p { ns[p] with ks:=ns[p].ks++[q] }).length=ns.length:=by simp
 obtain⟨cg,hcg⟩:=(bn ho rfl).2;refine⟨?_,h.bT,?_,?_,?_,?_,?_,h.bM⟩
 ·rw[hlen];exact(heap_setCell_other _ _ _ _ (aP (hT1.trans h.blk) (hN1.trans hN) (by decide))).trans (hT1.trans h.blk)
 ·rw[hlen];have r1:w1.ownsRow B 64 6 (.slice (some ⟨N,0,none⟩) ns.length c) ns.length xs:=bK h.row fun g' cur' hh hc=>xC _ _ _ _ hc (by decide)
  refine⟨by rw[List.length_set];exact r1.1,?_⟩
  rcases r1.2 with⟨e1,_⟩|⟨g',cap',cu,e1,hb,hgg,hn,hm,hs,ht⟩
  ·cases e1
  ·cases e1
   refine Or.inr ⟨N,c,cu.setIfInBounds (p*6+4) _,rfl,hb,block_setCell hgg _,hn,hm,by simpa using hs,?_⟩;rw[Array.toList_setIfInBounds,List.take_set,ht]
 ·intro i hi;rw[hlen]at hi;obtain⟨h0,h1,h2,h3,h4,h5⟩:=h.cel i hi;have keep:∀j,j<xs.length->¬j=p*6+4->(xs.set (p*6+4) (.slice (some ⟨g,0,none⟩) L cap))[j]?=xs[j]?:=fun j hj hne=>List.getElem?_set_ne (fun e=>hne e.symm)
  by_cases he:i=p
  ·subst he;simp only[List.getElem_set_self,if_true];refine⟨(keep _ (by omega) (by omega)).trans h0,(keep _ (by omega) (by omega)).trans h1,(keep _ (by omega) (by omega)).trans h2,(keep _ (by omega) (by omega)).trans h3,List.getElem?_set_self (by omega),(keep _ (by omega) (by omega)).trans h5⟩
  ·have hpi:¬p=i:=fun e=>he e.symm
   simp only[List.getElem_set_ne hpi,if_neg he];refine⟨(keep _ (by omega) (by omega)).trans h0,(keep _ (by omega) (by omega)).trans h1,(keep _ (by omega) (by omega)).trans h2,(keep _ (by omega) (by omega)).trans h3,(keep _ (by omega) (by omega)).trans h4,(keep _ (by omega) (by omega)).trans h5⟩
 ·intro i hi;rw[hlen]at hi;have hs:∀(g':Nat) (cur':Array Value),w1.heap[g']?=some (.cells cur' 3 (0,0))->(w1.setCell ⟨N,p*6+4,none⟩ (.slice (some ⟨g,0,none⟩) L cap)).heap[g']?=w1.heap[g']?:=fun g' cur' hc=>heap_setCell_other _ _ _ _ (aP hc (hN1.trans hN) (by decide))
  by_cases he:i=p
  ·subst he;simp only[List.getElem_set_self,if_true];rw[List.map_append,List.length_append,List.length_singleton,hL];exact bK ho fun g' cur' _ hc=>hs g' cur' hc
  ·have hpi:¬p=i:=fun e=>he e.symm
   simp only[List.getElem_set_ne hpi,if_neg he];refine bK (h.kid i hi) fun g' cur' hgo hc=>?_
   have e1:w1.heap[g']?=w.heap[g']?:=hg.block g' (aA hc) (fun e=>he (h.apart i p g' hi hp hgo e.symm));exact(hs g' cur' (e1.trans hc)).trans e1
 ·intro i j g' hi hj h1 h2;rw[hlen]at hi hj;have fresh:∀k,k<ns.length->¬k=p->(ks k).ownBlock=some g->False:=fun k hk hne e=>by
   rcases hat with e2|e2
   ·exact hne (h.apart k p g hk hp e e2)
   ·obtain⟨cc,hcc⟩:=h.kidOwn hk e;have:=aA hcc;omega
  by_cases hei:i=p
  ·by_cases hej:j=p
   ·rw[hei,hej]
   ·rw[if_pos hei]at h1;rw[if_neg hej]at h2
    cases h1
    exact(fresh j hj hej h2).elim
  ·by_cases hej:j=p
   ·rw[if_pos hej]at h2;rw[if_neg hei]at h1
    cases h2
    exact(fresh i hi hei h1).elim
   ·rw[if_neg hei]at h1;rw[if_neg hej]at h2;exact h.apart i j g' hi hj h1 h2
 ·obtain⟨es,cc,hm⟩:=h.map.map;have e1:w1.heap[M]?=w.heap[M]?:=hg.block M (aA hm) (fun e=>by
   obtain⟨cc,hcc⟩:=h.kidOwn hp e.symm;exact o9 hcc hm rfl)
  exact h.map.block ((heap_setCell_other _ _ _ _ (fun e=>o9 (hN1.trans hN) (e1.trans hm) e.symm)).trans e1)
theorem TrD.mapd(h:TrD w B T ns now N c M xs ks n f){n':Nat}{f':Nat->List UInt8->Option (Nat × Bool)}(hm:HM w' M n' f')(hg:w.grownBy w' (some M)):TrD w' B T ns now N c M xs ks n' f':=by
 obtain⟨es,cc,hm0⟩:=h.map.map;have hb:∀(b:Nat) (cs:Array Value) (t:TypeId) (fz:Nat × Nat),w.heap[b]?=some (.cells cs t fz)->w'.heap[b]?=w.heap[b]?:=fun b cs t fz hb=>hg.block b (aA hb) (by simp only[ne_eq,Option.some.injEq];exact o9 hb hm0)
 exact⟨(hb _ _ _ _ h.blk).trans h.blk,h.bT,bK h.row fun g cur _ hc=>hb _ _ _ _ hc,h.cel,fun i hi=>bK (h.kid i hi) fun g cur _ hc=>hb _ _ _ _ hc,h.apart,hm,h.bM⟩
theorem TrD.hand(h:TrD w B T ns now N c M xs ks n f)(m:Nat):TrD (w.setCell ⟨T,2,none⟩ (.int .i64 (m:Nat))) B T ns m N c M xs ks n f:=by
 have hb:∀(b:Nat) (cs:Array Value) (t:TypeId) (fz:Nat × Nat),w.heap[b]?=some (.cells cs t fz)->¬t=129->(w.setCell ⟨T,2,none⟩ (.int .i64 (m:Nat))).heap[b]?=w.heap[b]?:=fun b cs t fz hb ht=>heap_setCell_other _ _ _ _ (aP hb h.blk ht)
 refine⟨block_setCell (i:=2) h.blk _,h.bT,bK h.row fun g cur _ hc=>hb _ _ _ _ hc (by decide),h.cel,fun i hi=>bK (h.kid i hi) fun g cur _ hc=>hb _ _ _ _ hc (by decide),h.apart,?_,h.bM⟩;obtain⟨es,cc,hm⟩:=h.map.map;exact h.map.block (heap_setCell_other _ _ _ _ (fun e=>o9 h.blk hm e.symm))
theorem TrD.cellSet(h:TrD w B T ns now N c M xs ks n f)(q o:Nat)(v:Value)(x:Tn)(hq:q<ns.length)(ho:o<6)(h4:¬o=4)(hk:x.ks=ns[q].ks)
  (hv:∀j u,(if j=o then some v else([.int .i64 ns[q].kd,.string ⟨ns[q].ky.toArray⟩,.string ⟨ns[q].tx.toArray⟩,.int .i64 ns[q].nu,ks q,.int .i64 (ns[q].pl:Nat)]:List Value)[j]?)=some u->([.int .i64 x.kd,.string ⟨x.ky.toArray⟩,.string ⟨x.tx.toArray⟩,.int .i64 x.nu,ks q,.int .i64 (x.pl:Nat)]:List Value)[j]?=some u) :
  TrD (w.setCell ⟨N,q*6+o,none⟩ v) B T (ns.set q x) now N c M (xs.set (q*6+o) v) ks n f:=by
 obtain⟨cur,hN⟩:=h.rowT;have hb:∀(b:Nat) (cs:Array Value) (t:TypeId) (fz:Nat × Nat),w.heap[b]?=some (.cells cs t fz)->¬t=64->(w.setCell ⟨N,q*6+o,none⟩ v).heap[b]?=w.heap[b]?:=fun b cs t fz hb ht=>heap_setCell_other _ _ _ _ (aP hb hN ht)
 have hxl:xs.length=ns.length*6:=h.row.1;have hlen:(ns.set q x).length=ns.length:=by simp
 refine⟨?_,h.bT,?_,?_,?_,?_,?_,h.bM⟩
 ·rw[hlen];exact(hb _ _ _ _ h.blk (by decide)).trans h.blk
 ·rw[hlen];refine⟨by rw[List.length_set];exact h.row.1,?_⟩
  rcases h.row.2 with⟨e1,_⟩|⟨g',cap',cu,e1,hb,hgg,hn,hm,hs,ht⟩
  ·cases e1
  ·cases e1
   refine Or.inr ⟨N,c,cu.setIfInBounds (q*6+o) v,rfl,hb,block_setCell hgg _,hn,hm,by simpa using hs,?_⟩;rw[Array.toList_setIfInBounds,List.take_set,ht]
 ·intro i hi;rw[hlen]at hi;obtain⟨h0,h1,h2,h3,h4',h5⟩:=h.cel i hi;have keep:∀j,¬j=q*6+o->(xs.set (q*6+o) v)[j]?=xs[j]?:=fun j hne=>List.getElem?_set_ne (fun e=>hne e.symm)
  by_cases he:i=q
  ·subst he;simp only[List.getElem_set_self];have get:∀j u,j<6->([.int .i64 ns[i].kd,.string ⟨ns[i].ky.toArray⟩,.string ⟨ns[i].tx.toArray⟩,.int .i64 ns[i].nu,ks i,.int .i64 (ns[i].pl:Nat)]:List Value)[j]?=some u->xs[i*6+j]?=some u:=fun j u hj hu=>by
    match j,hj,hu with
    | 0,_,hu=>cases hu;exact h0
    | 1,_,hu=>cases hu;exact h1
    | 2,_,hu=>cases hu;exact h2
    | 3,_,hu=>cases hu;exact h3
    | 4,_,hu=>cases hu;exact h4'
    | 5,_,hu=>cases hu;exact h5
   have main:∀j (hj:j<6),∀u,(xs.set (i*6+o) v)[i*6+j]?=some u->([.int .i64 x.kd,.string ⟨x.ky.toArray⟩,.string ⟨x.tx.toArray⟩,.int .i64 x.nu,ks i,.int .i64 (x.pl:Nat)]:List Value)[j]?=some u:=fun j hj u hu=>by
    apply hv j u
    by_cases hjo:j=o
    ·subst hjo;rw[List.getElem?_set_self (by omega)]at hu;rw[if_pos rfl];exact hu
    ·rw[keep _ (by omega)]at hu;rw[if_neg hjo];have hlt:j<([.int .i64 ns[i].kd,.string ⟨ns[i].ky.toArray⟩,.string ⟨ns[i].tx.toArray⟩,.int .i64 ns[i].nu,ks i,.int .i64 (ns[i].pl:Nat)]:List Value).length:=hj;have:=get j _ hj (List.getElem?_eq_getElem hlt);rw[this]at hu;rw[List.getElem?_eq_getElem hlt];exact hu
   have has:∀j,j<6->∃u,(xs.set (i*6+o) v)[i*6+j]?=some u:=fun j hj=>⟨_,List.getElem?_eq_getElem (by rw[List.length_set];omega)⟩
   have fin:∀j (hj:j<6),(xs.set (i*6+o) v)[i*6+j]?=([.int .i64 x.kd,.string ⟨x.ky.toArray⟩,.string ⟨x.tx.toArray⟩,.int .i64 x.nu,ks i,.int .i64 (x.pl:Nat)]:List Value)[j]?:=fun j hj=>by
    obtain⟨u,hu⟩:=has j hj;rw[hu,main j hj u hu]
   exact⟨fin 0 (by omega),fin 1 (by omega),fin 2 (by omega),fin 3 (by omega),fin 4 (by omega),fin 5 (by omega)⟩
  ·have hqi:¬q=i:=fun e=>he e.symm
   simp only[List.getElem_set_ne hqi];exact⟨(keep _ (by omega)).trans h0,(keep _ (by omega)).trans h1,(keep _ (by omega)).trans h2,(keep _ (by omega)).trans h3,(keep _ (by omega)).trans h4',(keep _ (by omega)).trans h5⟩
 ·intro i hi;rw[hlen]at hi
  by_cases he:i=q
  ·subst he;simp only[List.getElem_set_self,hk];exact bK (h.kid i hq) fun g cur _ hc=>hb _ _ _ _ hc (by decide)
  ·have hqi:¬q=i:=fun e=>he e.symm
   simp only[List.getElem_set_ne hqi];exact bK (h.kid i hi) fun g cur _ hc=>hb _ _ _ _ hc (by decide)
 ·intro i j g' hi hj;rw[hlen]at hi hj;exact h.apart i j g' hi hj
 ·obtain⟨es,cc,hm⟩:=h.map.map;exact h.map.block (heap_setCell_other _ _ _ _ (fun e=>o9 hN hm e.symm))
end
def Tr(w:World)(B T:Nat)(ns:List Tn)(own:List Nat)(now:Nat):Prop:=∃N c M xs ks,TrD w B T ns now N c M xs ks (ns.length+own.length) (hold ns own)
open Go.RowKit Go.Maps Go.WideMaps Go.Joins
theorem QG:(prog.info? 64).map (fun i=>(i.zero,i.size,i.bytes))=some (some (.agg #[.int .i64 0,.string ⟨#[]⟩,.string ⟨#[]⟩,.int .i64 0,.slice none 0 0,.int .i64 0]),6,80):=by kernel_rfl
theorem Jv:(prog.info? 3).map (fun i=>(i.zero,i.size,i.bytes))=some (some (.int .i64 0),1,8):=by kernel_rfl
def qE(B T:Nat)(ns:List Tn)(own:List Nat)(now p:Nat)(x:Tn)(w:World)(e:Ending)(w':World):Prop:=e=.returned (.int .i64 (ns.length:Nat))/\Tr w' B T (addN ns p x) own now/\Fr B w w'
theorem qF{w w3:World}{o:Obj}{r:Option Nat}{T i:Nat}{cs:Array Value}{t:TypeId}(d:w.heap[T]?=some (.cells cs t (0,0)))(hg:(w.drew.alloc o).grownBy w3 r)(hne:some T≠r):w3.frozen? ⟨T,i,none⟩=false:=by
 have e0:(w.drew.alloc o).heap[T]?=some (.cells cs t (0,0)):=((World.grownBy_alloc w.drew o none).block T (aA (w:=w.drew) d) (by simp)).trans d;exact Lib.frozen_of_heap ((hg.block T (aA e0) hne).trans e0) i
theorem mF{w w3:World}{o:Obj}{r:Option Nat}{T i:Nat}{v:Value}(d:w.cell? ⟨T,i,none⟩=some v)(hg:(w.drew.alloc o).grownBy w3 r)(hne:some T≠r):w3.cell? ⟨T,i,none⟩=some v:=hg.cell ((World.grownBy_alloc w.drew o none).cell d (by simp)) hne
theorem QH(x:Tn):∀u∈([.int .i64 x.kd,.string ⟨x.ky.toArray⟩,.string ⟨x.tx.toArray⟩,.int .i64 x.nu,.slice none 0 0,.int .i64 (x.pl:Nat)]:List Value),u.oneCell'=true:=by
 intro u hu;simp only[List.mem_cons,List.not_mem_nil,or_false]at hu
 rcases hu with rfl|rfl|rfl|rfl|rfl|rfl<;>rfl
theorem QI(q:Nat):∀u∈([.int .i64 (q:Nat)]:List Value),u.oneCell'=true:=by
 intro u hu;simp only[List.mem_cons,List.not_mem_nil,or_false]at hu
 rcases hu with rfl;rfl
theorem kV{w:World}{B:Nat}{e:TypeId}{s:Nat}{v:Value}{n:Nat}{xs:List Value}(h:w.ownsRow B e s v n xs):∃o c,v=.slice o n c:=by
 rcases h.2 with⟨h1,h2⟩|⟨g,cap,cur,h1,_⟩
 ·exact⟨none,0,by rw[h1,h2]⟩
 ·exact⟨_,_,h1⟩
theorem QJ(ns:List Tn)(p:Nat)(x:Tn)(hp:p<ns.length)(hp':p<(ns++[x]).length):(ns++[x]).set p { (ns++[x])[p] with ks:=(ns++[x])[p].ks++[ns.length] }=addN ns p x:=by
 unfold addN;rw[List.getElem?_eq_getElem hp];simp only[List.getElem_append_left hp];rw[List.set_append_left _ _ hp]
theorem YS{w w1 w3:World}{B T:Nat}{ns:List Tn}{now N c M:Nat}{xs:List Value}{ks:Nat->Value}{n:Nat}{f:Nat->List UInt8->Option (Nat × Bool)}{kd:Int}{k:List UInt8}{pl K g cap:Nat}
  (h:TrD w1 B T ns now N c M xs ks n f) (hf:Fr B w w1) (hK:w1.heap[K]?=some (.cells #[.string ⟨k.toArray⟩,.int .i64 (pl:Nat)] 213 (0,0)))
  (ho:w3.ownsRow B 64 6 (.slice (some ⟨g,0,none⟩) (ns.length+1) cap) (ns.length+1) (xs++[.int .i64 kd,.string ⟨k.toArray⟩,.string ⟨#[]⟩,.int .i64 0,.slice none 0 0,.int .i64 (pl:Nat)]))
  (hg:(w1.drew.alloc (.cells #[.int .i64 kd,.string ⟨k.toArray⟩,.string ⟨#[]⟩,.int .i64 0,.slice none 0 0,.int .i64 (pl:Nat)] 64)).grownBy w3 (Value.slice (some ⟨N,0,none⟩) ns.length c).ownBlock) :
  ∃(g' cap':Nat) (xs':List Value) (ks':Nat->Value),TrD (w3.setCell ⟨T,0,none⟩ (.slice (some ⟨g,0,none⟩) (ns.length+1) cap)) B T (ns++[⟨kd,k,[],0,[],pl⟩]) now g' cap' M xs' ks' n f/\Fr B w (w3.setCell ⟨T,0,none⟩ (.slice (some ⟨g,0,none⟩) (ns.length+1) cap))/\(w3.setCell ⟨T,0,none⟩ (.slice (some ⟨g,0,none⟩) (ns.length+1) cap)).heap[K]?=some (.cells #[.string ⟨k.toArray⟩,.int .i64 (pl:Nat)] 213 (0,0)):=by
 have hgE:w1.grownBy (w1.drew.alloc (.cells #[.int .i64 kd,.string ⟨k.toArray⟩,.string ⟨#[]⟩,.int .i64 0,.slice none 0 0,.int .i64 (pl:Nat)] 64)) none:=by
  have:=World.grownBy_alloc w1.drew (.cells #[.int .i64 kd,.string ⟨k.toArray⟩,.string ⟨#[]⟩,.int .i64 0,.slice none 0 0,.int .i64 (pl:Nat)] 64) none;exact⟨this.os,this.tape,this.output,this.size,this.block⟩
 obtain⟨w2,hw2⟩:=zN (w1.drew.alloc (.cells #[.int .i64 kd,.string ⟨k.toArray⟩,.string ⟨#[]⟩,.int .i64 0,.slice none 0 0,.int .i64 (pl:Nat)] 64));rw[hw2]at hg hgE;have hg':w2.grownBy w3 (some N):=hg;have h2:=h.keeps (mD hgE);obtain⟨cN,kW⟩:=h2.rowT;have hB1:B<=w1.heap.size:=Nat.le_of_lt (Nat.lt_of_le_of_lt h.bT (aA h.blk));have hB2:B<=w2.heap.size:=Nat.le_trans hB1 hgE.size;have QK:=(hg'.block T (aA h2.blk) (by simp only[ne_eq,Option.some.injEq];exact aP h2.blk kW (by decide))).trans h2.blk;have hK2:w2.heap[K]?=_:=(hgE.block K (aA hK) (by simp)).trans hK;have hK3:w3.heap[K]?=_:=(hg'.block K (aA hK2) (by simp only[ne_eq,Option.some.injEq];exact aP hK2 kW (by decide))).trans hK2;refine⟨g,cap,_,_,h2.push (L:=ns.length+1) ⟨kd,k,[],0,[],pl⟩ rfl rfl ho hg',?_,(heap_setCell_other _ _ _ _ (aP hK3 QK (by decide))).trans hK3⟩;exact((hf.two (Fr.gb hgE hB1)).two (Fr.row hg' hB2 (bn h2.row rfl).1 kW (Or.inr (Or.inl rfl)))).two (Fr.row (iq w3 T 0 _) (Nat.le_trans hB2 hg'.size) h2.bT QK (Or.inl rfl))
theorem YT{w w1 w3:World}{B T:Nat}{ns:List Tn}{x:Tn}{now N c M m p:Nat}{xs ys:List Value}{ks:Nat->Value}{n:Nat}{f:Nat->List UInt8->Option (Nat × Bool)}{k:List UInt8}{pl K g cap m4:Nat}{o4:Option Addr}{hpl:p<(ns++[x]).length}
  (hp:p<ns.length) (h:TrD w1 B T (ns++[x]) now N c M xs ks n f) (hf:Fr B w w1) (hK:w1.heap[K]?=some (.cells #[.string ⟨k.toArray⟩,.int .i64 (pl:Nat)] 213 (0,0))) (hv:ks p=.slice o4 m m4) (hm:((ns++[x])[p]'hpl).ks.length=m) (hys:(((ns++[x])[p]'hpl).ks.map fun q=>Value.int .i64 (q:Nat))=ys)
  (ho:w3.ownsRow B 3 1 (.slice (some ⟨g,0,none⟩) (m+1) cap) (m+1) (ys++[.int .i64 (ns.length:Nat)]))
  (hg:(w1.drew.alloc (.cells #[.int .i64 (ns.length:Nat)] 3)).grownBy w3 (Value.slice o4 m m4).ownBlock) (hat:(Value.slice o4 m m4).ownBlock=some g\/g=(w1.drew.alloc (.cells #[.int .i64 (ns.length:Nat)] 3)).heap.size) :
  ∃(g' cap':Nat) (xs':List Value) (ks':Nat->Value),TrD (w3.setCell ⟨N,p*6+4,none⟩ (.slice (some ⟨g,0,none⟩) (m+1) cap)) B T (addN ns p x) now g' cap' M xs' ks' n f/\Fr B w (w3.setCell ⟨N,p*6+4,none⟩ (.slice (some ⟨g,0,none⟩) (m+1) cap))/\(w3.setCell ⟨N,p*6+4,none⟩ (.slice (some ⟨g,0,none⟩) (m+1) cap)).heap[K]?=some (.cells #[.string ⟨k.toArray⟩,.int .i64 (pl:Nat)] 213 (0,0)):=by
 have hgE:w1.grownBy (w1.drew.alloc (.cells #[.int .i64 (ns.length:Nat)] 3)) none:=by
  have:=World.grownBy_alloc w1.drew (.cells #[.int .i64 (ns.length:Nat)] 3) none;exact⟨this.os,this.tape,this.output,this.size,this.block⟩
 obtain⟨w2,hw2⟩:=zN (w1.drew.alloc (.cells #[.int .i64 (ns.length:Nat)] 3));rw[hw2]at hg hgE hat;rw[<-hv]at hg hat;have h2:=h.keeps (mD hgE);obtain⟨cN,kW⟩:=h2.rowT;have hB1:B<=w1.heap.size:=Nat.le_of_lt (Nat.lt_of_le_of_lt h.bT (aA h.blk));have hB2:B<=w2.heap.size:=Nat.le_trans hB1 hgE.size;have hne:∀(b:Nat) (cs:Array Value) (t:TypeId) (fz:Nat × Nat),w2.heap[b]?=some (.cells cs t fz)->¬t=3->w3.heap[b]?=w2.heap[b]?:=fun b cs t fz hb ht=>hg.block b (aA hb) (fun e=>by
  obtain⟨cc,hcc⟩:=h2.kidOwn hpl e.symm;exact aP hb hcc ht rfl)
 have hK2:w2.heap[K]?=_:=(hgE.block K (aA hK) (by simp)).trans hK;have hK3:w3.heap[K]?=_:=(hne _ _ _ _ hK2 (by decide)).trans hK2;have hN3:w3.heap[N]?=_:=(hne _ _ _ _ kW (by decide)).trans kW;have h3:=h2.kidp (L:=m+1) p hpl ns.length (by rw[hm]) (by rw[hys];exact ho) hg (by rcases hat with e|e;exact Or.inl e;exact Or.inr (by omega));rw[QJ ns p x hp hpl]at h3;refine⟨_,_,_,_,h3,?_,(heap_setCell_other _ _ _ _ (aP hK3 hN3 (by decide))).trans hK3⟩;have f2:Fr B w2 w3:=by
  cases hb:(ks p).ownBlock with
  | none=>rw[hb]at hg;exact Fr.gb hg hB2
  | some q =>
   rw[hb]at hg;obtain⟨hq,cc,hcc⟩:=bn (h2.kid p hpl) hb;exact Fr.row hg hB2 hq hcc (Or.inr (Or.inr rfl))
 exact((hf.two (Fr.gb hgE hB1)).two f2).two (Fr.row (iq w3 N _ _) (Nat.le_trans hB2 hg.size) (bn h2.row rfl).1 hN3 (Or.inr (Or.inl rfl)))
theorem yL(B T:Nat)(ns:List Tn)(own:List Nat)(now p:Nat)(kd:Int)(k:List UInt8)(pl:Nat)(w:World)(h:Tr w B T ns own now)(W:WF ns own)(hp:p<ns.length)(hfree:aj ns p=0->ah ns p k=none)(hsz:ns.length+own.length<=1000000)(hk:k.length<=1048576) :
  Calls prog 196 #[.pointer (some ⟨T,0,none⟩),.int .i64 (p:Nat),.int .i64 kd,.agg #[.string ⟨k.toArray⟩,.int .i64 (pl:Nat)]] w (qE B T ns own now p ⟨kd,k,[],0,[],pl⟩ w):=by
 obtain⟨N,c,M,xs,ks,hD⟩:=h;obtain⟨i0,hi0,hii⟩:=Option.map_eq_some_iff.1 QG;simp only[Prod.mk.injEq]at hii;obtain⟨hz0,hz1,hzb⟩:=hii;obtain⟨j0,hj0,hjj⟩:=Option.map_eq_some_iff.1 Jv;simp only[Prod.mk.injEq]at hjj;obtain⟨hy0,hy1,hyb⟩:=hjj;have hone:=QH ⟨kd,k,[],0,[],pl⟩;simp only[]at hone;have AQ:=QI ns.length;obtain⟨K,iR⟩:=zN (w.heap.size);have eG:w.grownBy (w.alloc (.cells #[.string ⟨k.toArray⟩,.int .i64 (pl:Nat)] 213)) none:=World.grownBy_alloc w _ none;have bY:=heap_alloc_new w (.cells #[.string ⟨k.toArray⟩,.int .i64 (pl:Nat)] 213);have pg:(w.alloc (.cells #[.string ⟨k.toArray⟩,.int .i64 (pl:Nat)] 213)).heap.size=K+1:=by rw[World.size_alloc,iR]
 rw[iR]at bY;have hD1:=hD.keeps (mD eG);have hBs:B<=w.heap.size:=Nat.le_of_lt (Nat.lt_of_le_of_lt hD.bT (aA hD.blk));have je:Hd (Fr B w (w.alloc (.cells #[.string ⟨k.toArray⟩,.int .i64 (pl:Nat)] 213))):=Fr.gb eG hBs;obtain⟨w1,hw1⟩:=zN (w.alloc (.cells #[.string ⟨k.toArray⟩,.int .i64 (pl:Nat)] 213));rw[hw1]at bY pg hD1 je;have hrow:=hD1.row;obtain⟨cN,kW⟩:=hD1.rowT;have tY:Hd (some T≠(Value.slice (some ⟨N,0,none⟩) ns.length c).ownBlock):=by
  show some T≠some N;simp only[ne_eq,Option.some.injEq];exact aP hD1.blk kW (by decide)
 have d1:=hD1.cells.1;have dA:(w1.alloc (.cells #[.int .i64 kd,.string ⟨k.toArray⟩,.string ⟨#[]⟩,.int .i64 0,.slice none 0 0,.int .i64 (pl:Nat)] 64)).cell? ⟨T,0,none⟩=some (.slice (some ⟨N,0,none⟩) ns.length c):=(World.grownBy_alloc w1 _ none).cell d1 (by simp);have AU:Hd (w1.heap[T]?=some (.cells #[.slice (some ⟨N,0,none⟩) ns.length c,.map (some M),.int .i64 (now:Nat)] 129 (0,0))):=hD1.blk;have HFK:Hd (some K≠(Value.slice (some ⟨N,0,none⟩) ns.length c).ownBlock):=by
  show some K≠some N;simp only[ne_eq,Option.some.injEq];exact aP bY kW (by decide)
 have k1:w1.cell? ⟨K,0,none⟩=some (.string ⟨k.toArray⟩):=by rw[af bY];rfl
 have k2:w1.cell? ⟨K,1,none⟩=some (.int .i64 (pl:Nat)):=by rw[af bY];rfl
 have HD1:Hd (TrD w1 B T ns now N c M xs ks (ns.length+own.length) (hold ns own)):=hD1;have kK:Hd (w1.heap[K]?=some (.cells #[.string ⟨k.toArray⟩,.int .i64 (pl:Nat)] 213 (0,0))):=bY;have HW:Hd (WF ns own):=W;have dP:Hd ((w1.drew.alloc (.cells #[.int .i64 kd,.string ⟨k.toArray⟩,.string ⟨#[]⟩,.int .i64 0,.slice none 0 0,.int .i64 (pl:Nat)] 64)).heap[K+1]?=some (.cells #[.int .i64 kd,.string ⟨k.toArray⟩,.string ⟨#[]⟩,.int .i64 0,.slice none 0 0,.int .i64 (pl:Nat)] 64 (0,0))):=by
  have:=heap_alloc_new w1.drew (.cells #[.int .i64 kd,.string ⟨k.toArray⟩,.string ⟨#[]⟩,.int .i64 0,.slice none 0 0,.int .i64 (pl:Nat)] 64);rw[show w1.drew.heap.size=K+1 from pg]at this;exact this
 have YU:Hd (aj ns p=0->ah ns p k=none):=hfree;have HP:Hd (p<ns.length):=hp;clear hD eG bY hD1 kW W hfree;go_enter func196,ntmps196;go_upto_region 2 with fail
 go_cut [] from 15 (fun wx=>∃(g cap:Nat) (xs':List Value) (ks':Nat->Value),TrD wx B T (ns++[⟨kd,k,[],0,[],pl⟩]) now g cap M xs' ks' (ns.length+own.length) (hold ns own)/\Fr B w wx/\wx.heap[K]?=some (.cells #[.string ⟨k.toArray⟩,.int .i64 (pl:Nat)] 213 (0,0)))
 case first =>
  go_region_law (refine step_append_lies _ (by rfl) _ _ _ (by rfl) B 64 i0 _ 6 80 underlying54 hi0 hz0 hz1 hzb (by rfl) (by decide) (.slice (some ⟨N,0,none⟩) ns.length c) ns.length xs (by rfl) (hrow.drew.alloc _) ⟨K+1,0,none⟩ 1 1 [.int .i64 kd,.string ⟨k.toArray⟩,.string ⟨#[]⟩,.int .i64 0,.slice none 0 0,.int .i64 (pl:Nat)] (by rfl) (by rfl) (World.news_of_block dP.o) hone (by omega) (by unfold maxLen;omega) (by omega) (by simp;omega) _ rfl ?_;intro g cap w3 hown3 hgrow hat hlt3;have hc3:w3.cell? ⟨T,0,none⟩=some (.slice (some ⟨N,0,none⟩) ns.length c):=mF d1 hgrow tY.o;have oq:w3.frozen? ⟨T,0,none⟩=false:=qF AU.o hgrow tY.o)
  all_goals (
   go_wp2_with fail;go_meet;exact YS HD1.o je.o kK.o hown3 hgrow)
 case rest =>
  obtain⟨N1,c1,xs1,ks1,hD2,hF2,hb2⟩:=hcut;obtain⟨L,hL⟩:=zN ((ns++[(⟨kd,k,[],0,[],pl⟩:Tn)]).length);have hpl:p<(ns++[(⟨kd,k,[],0,[],pl⟩:Tn)]).length:=by simp;omega
  have hpL:p<L:=by omega
  have d1':=hD2.cells.1;have lL:=hD2.kid p hpl;obtain⟨o4,m4,hv4⟩:=kV lL;obtain⟨-,-,-,-,e4,-,ef⟩:=hD2.node p hpl;obtain⟨cN1,hcN1⟩:=hD2.rowT;rw[hv4]at e4 lL;have hm4:((ns++[(⟨kd,k,[],0,[],pl⟩:Tn)])[p]'hpl).ks.length<=1000000:=by
   have:=HW.o.len p;unfold ae at this;rw[List.getElem?_eq_getElem HP.o]at this;simp only[]at this;rw[List.getElem_append_left HP.o];omega
  obtain⟨m,hm⟩:=zN (((ns++[(⟨kd,k,[],0,[],pl⟩:Tn)])[p]'hpl).ks.length);rw[hm]at hm4 hv4 e4 lL;rw[hL]at d1';obtain⟨ys,hys⟩:∃ys:List Value,(((ns++[(⟨kd,k,[],0,[],pl⟩:Tn)])[p]'hpl).ks.map fun q=>Value.int .i64 (q:Nat))=ys:=⟨_,rfl⟩;rw[hys]at lL;have bH:Hd (some T≠(Value.slice o4 m m4).ownBlock):=by
   show _≠_;intro e;obtain⟨cc,hcc⟩:=(bn lL e.symm).2;exact aP hD2.blk hcc (by decide) rfl
  have gY:Hd (some N1≠(Value.slice o4 m m4).ownBlock):=by
   show _≠_;intro e;obtain⟨cc,hcc⟩:=(bn lL e.symm).2;exact aP hcN1 hcc (by decide) rfl
  have e4A:(wc.alloc (.cells #[.int .i64 (ns.length:Nat)] 3)).cell? ⟨N1,p*6+4,none⟩=some (.slice o4 m m4):=(World.grownBy_alloc wc _ none).cell e4 (by simp);have d1A:(wc.alloc (.cells #[.int .i64 (ns.length:Nat)] 3)).cell? ⟨T,0,none⟩=some (.slice (some ⟨N1,0,none⟩) L c1):=(World.grownBy_alloc wc _ none).cell d1' (by simp);obtain⟨Z,hZ⟩:=zN (wc.heap.size);have YV:B<=wc.heap.size:=Nat.le_of_lt (Nat.lt_of_le_of_lt hD2.bT (aA hD2.blk));have oZ:Hd ((wc.drew.alloc (.cells #[.int .i64 (ns.length:Nat)] 3)).heap[Z]?=some (.cells #[.int .i64 (ns.length:Nat)] 3 (0,0))):=by
   have:=heap_alloc_new wc.drew (.cells #[.int .i64 (ns.length:Nat)] 3);rw[show wc.drew.heap.size=Z from hZ]at this;exact this
  have ku:Hd (wc.heap[N1]?=some (.cells cN1 64 (0,0))):=hcN1;have HD2:Hd (TrD wc B T (ns++[⟨kd,k,[],0,[],pl⟩]) now N1 c1 M xs1 ks1 (ns.length+own.length) (hold ns own)):=hD2;have HF2:Hd (Fr B w wc):=hF2;have HB2:Hd (wc.heap[K]?=some (.cells #[.string ⟨k.toArray⟩,.int .i64 (pl:Nat)] 213 (0,0))):=hb2;have rO:Hd (ks1 p=.slice o4 m m4):=hv4;have mG:Hd (((ns++[(⟨kd,k,[],0,[],pl⟩:Tn)])[p]'hpl).ks.length=m):=hm;have kT:Hd ((((ns++[(⟨kd,k,[],0,[],pl⟩:Tn)])[p]'hpl).ks.map fun q=>Value.int .i64 (q:Nat))=ys):=hys;have kU:Hd (p<(ns++[(⟨kd,k,[],0,[],pl⟩:Tn)]).length):=hpl;have jZ:Hd ((ns++[(⟨kd,k,[],0,[],pl⟩:Tn)]).length=L):=hL;clear hD2 hF2 hb2 hcN1 hv4 hm hys hL;go_upto_region 3 with fail
  go_cut [] from 30 (fun wx=>∃(g cap:Nat) (xs':List Value) (ks':Nat->Value),TrD wx B T (addN ns p ⟨kd,k,[],0,[],pl⟩) now g cap M xs' ks' (ns.length+own.length) (hold ns own)/\Fr B w wx/\wx.heap[K]?=some (.cells #[.string ⟨k.toArray⟩,.int .i64 (pl:Nat)] 213 (0,0)))
  case first =>
   go_region_law (refine step_append_lies _ (by rfl) _ _ _ (by rfl) B 3 j0 _ 1 8 underlying43 hj0 hy0 hy1 hyb (by rfl) (by decide) (.slice o4 m m4) m ys (by rfl) (lL.drew.alloc _) ⟨Z,0,none⟩ 1 1 [.int .i64 (ns.length:Nat)] (by rfl) (by rfl) (World.news_of_block oZ.o) AQ (by omega) (by unfold maxLen;omega) (by omega) (by simp;omega) _ rfl ?_;intro g cap w3 hown3 hgrow hat hlt3;have hc3:w3.cell? ⟨N1,p*6+4,none⟩=some (.slice o4 m m4):=mF e4 hgrow gY.o;have oq:w3.frozen? ⟨N1,p*6+4,none⟩=false:=qF ku.o hgrow gY.o;have YW:w3.cell? ⟨T,0,none⟩=some (.slice (some ⟨N1,0,none⟩) L c1):=mF d1' hgrow bH.o)
   all_goals (
    go_wp2_with fail;go_meet;exact YT HP.o HD2.o HF2.o HB2.o rO.o mG.o kT.o hown3 hgrow hat)
  case rest =>
   obtain⟨N2,c2,xs2,ks2,hD3,hF3,hb3⟩:=hcut;have hp3:p<(addN ns p ⟨kd,k,[],0,[],pl⟩).length:=by rw[bZ];omega
   obtain⟨t0,t1,-,-⟩:=hD3.cells;obtain⟨n0,-,-,-,-,-,-⟩:=hD3.node p hp3;have kk:wc.cell? ⟨K,0,none⟩=some (.string ⟨k.toArray⟩):=by rw[af hb3];rfl
   have hkd:((addN ns p ⟨kd,k,[],0,[],pl⟩)[p]'hp3).kd=aj ns p:=by
    have h1:=eQ ns p ⟨kd,k,[],0,[],pl⟩ HP.o p;rw[if_neg (by have:=HP.o;omega)]at h1;rw[<-h1];unfold aj;rw[List.getElem?_eq_getElem hp3]
   rw[hkd]at n0;obtain⟨z,hz⟩:=zN (aj ns p);obtain⟨L3,hL3⟩:∃L,(addN ns p ⟨kd,k,[],0,[],pl⟩).length=L:=⟨_,rfl⟩;have afH:p<L3:=by omega
   rw[hL3]at t0;rw[hz]at n0;have HF3:Hd (Fr B w wc):=hF3;have HD3:Hd (TrD wc B T (addN ns p ⟨kd,k,[],0,[],pl⟩) now N2 c2 M xs2 ks2 (ns.length+own.length) (hold ns own)):=hD3;have hBc:B<=wc.heap.size:=Nat.le_of_lt (Nat.lt_of_le_of_lt hD3.bT (aA hD3.blk));obtain⟨w5,pz,QL,hg5⟩:=(hD3.map.block (w':=wc.drew) rfl).put p k (by omega) hk (by omega) ns.length false;unfold nZ at pz;have E8:Hd (HM w5 M (ns.length+own.length+1) (xu (hold ns own) p k (ns.length,false))):=QL;have gQ:Hd (wc.drew.grownBy w5 (some M)):=hg5;have HZ:Hd (aj ns p=z):=hz;have tZ:Hd ((addN ns p ⟨kd,k,[],0,[],pl⟩).length=ns.length+1):=bZ _ _ _;clear hD3 hF3 hb3 hkd hL3 hz QL hg5 hp3
   by_cases hz0:z=0
   ·have hb:(z == 0)=true:=by simp[hz0]
    have HZ0:Hd (aj ns p=0):=HZ.o.trans hz0;clear hz0;go_wp2
    go_region
    all_goals (
     go_wp2;refine bodyPost_ret (results_tmp (t:=8) rfl _ _ _) rfl ⟨rfl,⟨N2,c2,M,xs2,ks2,?_⟩,?_⟩
     ·rw[XJ ns own p ⟨kd,k,[],0,[],pl⟩ rfl HP.o HW.o HZ0.o (YU.o HZ0.o),tZ.o];have h1:=(HD3.o.keeps (w':=wc.drew) (mD ⟨rfl,rfl,rfl,Nat.le_refl _,fun _ _ _=>rfl⟩)).mapd E8.o gQ.o;exact⟨h1.blk,h1.bT,h1.row,h1.cel,h1.kid,h1.apart,h1.map.mono (by omega),h1.bM⟩
     ·obtain⟨es,cc,hm0⟩:=HD3.o.map.map;exact(HF3.o.two (Fr.gb (w':=wc.drew) ⟨rfl,rfl,rfl,Nat.le_refl _,fun _ _ _=>rfl⟩ hBc)).two (Fr.mapd gQ.o hBc HD3.o.bM hm0))
   ·have hb:(z == 0)=false:=by simp[hz0]
    have HZ0:Hd (¬aj ns p=0):=by show ¬_;rw[HZ.o];exact hz0
    clear hz0;go_wp2;refine bodyPost_ret (results_tmp (t:=8) rfl _ _ _) rfl ⟨rfl,⟨N2,c2,M,xs2,ks2,?_⟩,HF3.o⟩;have h1:=HD3.o;rw[XK ns own p ⟨kd,k,[],0,[],pl⟩ rfl HP.o HW.o HZ0.o,tZ.o];exact⟨h1.blk,h1.bT,h1.row,h1.cel,h1.kid,h1.apart,h1.map.mono (by omega),h1.bM⟩
open Go.RowKit Go.Maps Go.WideMaps Go.Joins
theorem QM(ns:List Tn)(own:List Nat)(t:Nat)(k:List UInt8)(h0:aj ns t=0):hold ns own t k=(ah ns t k).map fun q=>(q,decide (q∈own)):=by unfold hold;rw[if_pos h0]
theorem xE{w w':World}{E:Int->TypeId × Value}(h:Es w E)(hg:w.grownBy w' none):Es w' E:=⟨hg.cell h.te (by simp),hg.cell h.ra (by simp),hg.cell h.ma (by simp),hg.cell h.tw (by simp)⟩
theorem pF(w:World)(o:Obj):w.grownBy (w.alloc o).drew none:=by
 have:=World.grownBy_alloc w o none;exact⟨this.os,this.tape,this.output,this.size,this.block⟩
def YX(E:Int->TypeId × Value)(r:Option Nat)(pl:Nat)(w:World)(e:Ending)(w':World):Prop:=(r=none->e=.returned .nilIface)/\(∀q,r=some q->∃v,e=.returned v/\aS w' v E 5 pl)/\w.grownBy w' none
theorem YY(B T:Nat)(ns:List Tn)(own:List Nat)(now:Nat)(E:Int->TypeId × Value)(k:List UInt8)(pl:Nat)(w:World)(h:Tr w B T ns own now)(h0:aj ns now=0)(hnw:now<=1000000)(hk:k.length<=1048576)(he:Es w E) :
  Calls prog 153 #[.pointer (some ⟨T,0,none⟩),.agg #[.string ⟨k.toArray⟩,.int .i64 (pl:Nat)]] w (YX E (ah ns now k) pl w):=by
 obtain⟨N,c,M,xs,ks,hD⟩:=h;have CW:Hd (∀w,Calls prog 195 #[.iface (E 5).1 (E 5).2,.int .i64 (pl:Nat)] w fun e w'=>(∃v,e=.returned v/\FaultV w' v pl (E 5).1 (E 5).2)/\w.grownBy w' none):=fun w=>rE pl _ _ w
 have eG:w.grownBy (w.alloc (.cells #[.string ⟨k.toArray⟩,.int .i64 (pl:Nat)] 213)) none:=World.grownBy_alloc w _ none;have bY:=heap_alloc_new w (.cells #[.string ⟨k.toArray⟩,.int .i64 (pl:Nat)] 213);obtain⟨K,iR⟩:=zN (w.heap.size);rw[iR]at bY;have hD1:=hD.keeps (mD eG);have he1:=xE he eG;obtain⟨w1,hw1⟩:=zN (w.alloc (.cells #[.string ⟨k.toArray⟩,.int .i64 (pl:Nat)] 213));rw[hw1]at bY hD1 eG he1;obtain⟨-,t1,t2,-⟩:=hD1.cells;have k0:w1.cell? ⟨K,0,none⟩=some (.string ⟨k.toArray⟩):=by rw[af bY];rfl
 have k1:w1.cell? ⟨K,1,none⟩=some (.int .i64 (pl:Nat)):=by rw[af bY];rfl
 have gA:w1.grownBy (w1.alloc (.cells #[.int .i64 0,.bool false] 265)) none:=World.grownBy_alloc w1 _ none;have t1A:=gA.cell t1 (by simp);have t2A:=gA.cell t2 (by simp);have k0A:=gA.cell k0 (by simp);have hl:∀W:World,W.heap[M]?=w1.heap[M]?->(Instr.lookup 127 (.map (some M)) (nZ now k) true).run prog W=.ok (match hold ns own now k with|some v=>.tuple #[.agg #[.int .i64 (v.1:Nat),.bool v.2],.bool true]|none=>.tuple #[.agg #[.int .i64 0,.bool false],.bool false]) W:=fun W hW=>(hD1.map.block hW).look now k (by omega) hk
 obtain⟨es,cc,hm0⟩:=hD1.map.map;have l1:=hl w1.drew rfl;have l2:=hl (w1.alloc (.cells #[.int .i64 0,.bool false] 265)).drew ((gA.block M (aA hm0) (by simp)));rw[QM ns own now k h0]at l1 l2;unfold nZ at l1 l2;have ay:Hd (w.grownBy w1 none):=eG;have jK:Hd (Es w1 E):=he1;have dN:Hd (∀w' v,FaultV w' v pl (E 5).1 (E 5).2->aS w' v E 5 pl):=fun _ _ h=>h
 obtain⟨ty,hty⟩:=zN ((E 5).1);obtain⟨pv,hpv⟩:=zN ((E 5).2);have tw1:=he1.tw;rw[hty,hpv]at CW dN tw1;clear hD bY hD1 eG he1 he hl hm0 hty hpv gA
 cases hq:ah ns now k with
 | none =>
  rw[hq]at l1 l2;simp only[Option.map_none]at l1 l2;clear hq;go_enter func153,ntmps153;go_wp2
  go_region
  all_goals (
   go_wp2;exact bodyPost_ret (results_tmp (t:=4) rfl _ _ _) rfl ⟨fun _=>rfl,fun q hh=>(by cases hh),ai ay.o (pF w1 _)⟩)
 | some q =>
  rw[hq]at l1 l2;simp only[Option.map_some]at l1 l2;have gB:w1.grownBy (w1.alloc (.cells #[.int .i64 (q:Nat),.bool (decide (q∈own))] 265)) none:=World.grownBy_alloc w1 _ none;have twB:=gB.cell tw1 (by simp);have k1B:=gB.cell k1 (by simp);clear hq gB;generalize decide (q∈own)=bb at l1 l2 twB k1B;go_enter func153,ntmps153;go_wp2
  go_region
  all_goals (
   go_wp2_with (go_at_call 195;refine(CW.o _).mono ?_;rintro e w3 ⟨⟨v,rfl,hv⟩,hg3⟩);exact bodyPost_ret (results_tmp (t:=4) rfl _ _ _) rfl ⟨fun hh=>(by cases hh),fun q hh=>⟨v,rfl,dN.o _ _ hv⟩,ai (ai ay.o (pF w1 _)) hg3⟩)
open Go.RowKit Go.Maps Go.WideMaps Go.Joins
def Jw(B T:Nat)(own:List Nat)(now:Nat)(E:Int->TypeId × Value)(r:Rs (Nat × List Tn))(w:World)(e:Ending)(w':World):Prop :=
 (∀t ns,r=.ok (t,ns)->e=.returned (.tuple #[.int .i64 (t:Nat),.nilIface])/\Tr w' B T ns own now)/\(∀c p,r=.error (c,p)->∃v,e=.returned (.tuple #[.int .i64 0,v])/\aS w' v E c p)/\Fr B w w'
theorem Jy{ns:List Tn}{own:List Nat}(W:WF ns own){t q:Nat}{k:List UInt8}(h:ah ns t k=some q):q<ns.length:=W.lt _ _ (qw h).1
theorem Tr.gb{w w':World}{B T:Nat}{ns:List Tn}{own:List Nat}{now:Nat}(h:Tr w B T ns own now)(hg:w.grownBy w' none):Tr w' B T ns own now:=by
 obtain⟨N,c,M,xs,ks,hD⟩:=h;exact⟨N,c,M,xs,ks,hD.keeps (mD hg)⟩
theorem Tr.base{w:World}{B T:Nat}{ns:List Tn}{own:List Nat}{now:Nat}(h:Tr w B T ns own now):B<=w.heap.size:=by
 obtain⟨N,c,M,xs,ks,hD⟩:=h;exact Nat.le_of_lt (Nat.lt_of_le_of_lt hD.bT (aA hD.blk))
theorem gW{w:World}{b:Nat}{v0 v1:Value}{t:TypeId}(h:w.heap[b]?=some (.cells #[v0,v1] t (0,0))):w.cell? ⟨b,0,none⟩=some v0/\w.cell? ⟨b,1,none⟩=some v1/\∀i,w.frozen? ⟨b,i,none⟩=false :=
 ⟨by rw[af h];rfl,by rw[af h];rfl,fun i=>Lib.frozen_of_heap h i⟩
theorem YZ{w:World}{b:Nat}{v0 v1 v2 v3 v4 v5:Value}{t:TypeId}(h:w.heap[b]?=some (.cells #[v0,v1,v2,v3,v4,v5] t (0,0))):w.cell? ⟨b,0,none⟩=some v0/\w.cell? ⟨b,4,none⟩=some v4 :=
 ⟨by rw[af h];rfl,by rw[af h];rfl⟩
theorem jf{w w':World}{b:Nat}{o:Obj}(h:w.heap[b]?=some o)(hg:w.grownBy w' none):w'.heap[b]?=some o:=(hg.block b (aA h) (by simp)).trans h
theorem yM{w1:World}{B T:Nat}{ns:List Tn}{now N c M:Nat}{xs:List Value}{ks:Nat->Value}{n:Nat}{own:List Nat}(hD1:TrD w1 B T ns now N c M xs ks n (hold ns own))(t:Nat)(k:List UInt8)(h0:aj ns t=0)(ht:t<4611686018427387904)(hk:k.length<=1048576)(W:World)(hW:w1.grownBy W none) :
  (Instr.lookup 127 (.map (some M)) (.agg #[.int .i64 (t:Nat),.string ⟨k.toArray⟩]) true).run prog W=.ok (match ah ns t k with|some q=>.tuple #[.agg #[.int .i64 (q:Nat),.bool (decide (q∈own))],.bool true]|none=>.tuple #[.agg #[.int .i64 0,.bool false],.bool false]) W:=by
 obtain⟨es,cc,hm0⟩:=hD1.map.map;have h1:=(hD1.map.block (hW.block M (aA hm0) (by simp))).look t k ht hk;rw[QM ns own t k h0]at h1;unfold nZ at h1
 cases hq:ah ns t k with
 | none=>rw[hq]at h1;exact h1
 | some q=>rw[hq]at h1;exact h1
theorem QN(j:Nat)(h:j<=1000000):wrap64 (j:Int)=(j:Int):=by
 unfold wrap64;omega
theorem kL(w:World):w.grownBy w.drew none:=⟨rfl,rfl,rfl,Nat.le_refl _,fun _ _ _=>rfl⟩
theorem Y0(B T:Nat)(ns:List Tn)(own:List Nat)(now t:Nat)(E:Int->TypeId × Value)(k:List UInt8)(pl:Nat)(w:World)(h:Tr w B T ns own now)(W:WF ns own)(WW:WT ns)(ht:t<ns.length)(h0:aj ns t=0)(hsz:ns.length+own.length<=1000000)(hk:k.length<=1048576)(he:Es w E) :
  Calls prog 190 #[.pointer (some ⟨T,0,none⟩),.int .i64 (t:Nat),.agg #[.string ⟨k.toArray⟩,.int .i64 (pl:Nat)]] w (Jw B T own now E (fD ns t k pl) w):=by
 have CW:Hd (∀w,Calls prog 195 #[.iface (E 5).1 (E 5).2,.int .i64 (pl:Nat)] w fun e w'=>(∃v,e=.returned v/\FaultV w' v pl (E 5).1 (E 5).2)/\w.grownBy w' none):=fun w=>rE pl _ _ w
 have CA:Hd (ah ns t k=none->∀w',w.grownBy w' none->Calls prog 196 #[.pointer (some ⟨T,0,none⟩),.int .i64 (t:Nat),.int .i64 0,.agg #[.string ⟨k.toArray⟩,.int .i64 (pl:Nat)]] w' (qE B T ns own now t ⟨0,k,[],0,[],pl⟩ w')):=fun hn w' hg=>yL B T ns own now t 0 k pl w' (h.gb hg) W ht (fun _=>hn) hsz hk
 have jL:Hd (fD ns t k pl=match ah ns t k with|none=>.ok (ns.length,addN ns t ⟨0,k,[],0,[],pl⟩)|some q=>if aj ns q=0 then .ok (q,ns) else if aj ns q=2 then(match ns[q]? with|some u=>.ok (u.ks.getLastD 0,ns)|none=>.error (5,pl)) else .error (5,pl)):=rfl;have yN:Hd (∀q,ah ns t k=some q->q<ns.length):=fun q hq=>Jy W hq
 have qG:Hd (∀p,(ae ns p).length<=ns.length):=W.len;have mJ:Hd (Tr w B T ns own now):=h;have hB:B<=w.heap.size:=h.base;obtain⟨N,c,M,xs,ks,hD⟩:=h;have eG:w.grownBy (w.alloc (.cells #[.string ⟨k.toArray⟩,.int .i64 (pl:Nat)] 213)) none:=World.grownBy_alloc w _ none;have bY:=heap_alloc_new w (.cells #[.string ⟨k.toArray⟩,.int .i64 (pl:Nat)] 213);obtain⟨K,iR⟩:=zN (w.heap.size);rw[iR]at bY;have hD1:=hD.keeps (mD eG);have he1:=xE he eG;obtain⟨w1,hw1⟩:=zN (w.alloc (.cells #[.string ⟨k.toArray⟩,.int .i64 (pl:Nat)] 213));rw[hw1]at bY hD1 eG he1;obtain⟨-,t1,-,-⟩:=hD1.cells;have k0:=(gW bY).1;have gA:w1.grownBy (w1.alloc (.cells #[.int .i64 0,.bool false] 265)) none:=World.grownBy_alloc w1 _ none;have t1A:=gA.cell t1 (by simp);have k0A:=gA.cell k0 (by simp);have l1:=yM hD1 t k h0 (by omega) hk w1.drew (kL w1);have l2:=yM hD1 t k h0 (by omega) hk (w1.alloc (.cells #[.int .i64 0,.bool false] 265)).drew (pF w1 _)
 have ay:Hd (w.grownBy w1 none):=eG;have jK:Hd (Es w1 E):=he1;have kK:Hd (w1.heap[K]?=some (.cells #[.string ⟨k.toArray⟩,.int .i64 (pl:Nat)] 213 (0,0))):=bY;have HD1:Hd (TrD w1 B T ns now N c M xs ks (ns.length+own.length) (hold ns own)):=hD1;have Y1:Hd (WT ns):=WW;have dN:Hd (∀w' v,FaultV w' v pl (E 5).1 (E 5).2->aS w' v E 5 pl):=fun _ _ h=>h
 have vI:Hd (∀w',w1.grownBy w' none->w'.cell? ⟨3,0,none⟩=some (.iface (E 5).1 (E 5).2)):=fun w' hg=>(xE he1 hg).tw
 obtain⟨ty,hty⟩:=zN ((E 5).1);obtain⟨pv,hpv⟩:=zN ((E 5).2);rw[hty,hpv]at CW dN vI;obtain⟨S,hS⟩:=zN (fD ns t k pl);rw[hS]at jL ⊢;clear hD bY hD1 eG he1 he hty hpv gA hS W WW
 cases hq:ah ns t k with
 | none =>
  have az:Hd (S=.ok (ns.length,addN ns t ⟨0,k,[],0,[],pl⟩)):=by show S=_;rw[jL.o,hq]
  have yJ:=CA.o hq;have AV:Hd (∀w',w.grownBy w' none->Calls prog 196 #[.pointer (some ⟨T,0,none⟩),.int .i64 (t:Nat),.int .i64 0,.agg #[.string ⟨k.toArray⟩,.int .i64 (pl:Nat)]] w' (qE B T ns own now t ⟨0,k,[],0,[],pl⟩ w')):=yJ;rw[hq]at l1 l2;clear hq yJ;simp only[]at l1 l2;go_enter func190,ntmps190;go_upto_region 1 with fail
  go_cut [8,9] from 11 (fun v8 v9 wx=>v9=.bool false/\w1.grownBy wx none)
  case first =>
   go_region
   all_goals (
    go_wp2_with fail;go_meet;exact⟨rfl,pF w1 _⟩)
  case rest =>
   obtain⟨rfl,hgc⟩:=hcut;have bC:Hd (w.grownBy wc none):=ai ay.o hgc;have hbk:=jf kK.o hgc;obtain⟨kc0,kc1,-⟩:=gW hbk;clear hgc hbk t1 k0 t1A k0A l1 l2;go_wp2_with (go_at_call 196;refine(AV.o _ bC.o).mono ?_;rintro e w3 ⟨rfl,ht3,hf3⟩);refine bodyPost_ret (results_tmp2 (t:=6) (u:=7) rfl _ _ _) rfl ?_;rw[az.o];exact⟨fun t' ns' hh=>(by cases hh;exact⟨rfl,ht3⟩),fun c p hh=>(by cases hh),(Fr.gb bC.o hB).two hf3⟩
 | some q =>
  have dL:=yN.o q hq;obtain⟨x,hx⟩:=zN (ns[q]);have hkx:aj ns q=x.kd:=by unfold aj;rw[List.getElem?_eq_getElem dL,hx]
  have az:Hd (S=if x.kd=0 then .ok (q,ns) else if x.kd=2 then .ok (x.ks.getLastD 0,ns) else .error (5,pl)):=by
   show S=_;rw[jL.o,hq];simp only[hkx,List.getElem?_eq_getElem dL,hx]
  have yO:Hd (x.kd=2->x.ks≠[]):=fun h2=>by
   have:=(Y1.o q (hkx.trans h2)).1;unfold ae at this;rw[List.getElem?_eq_getElem dL,hx]at this;exact this
  have AX:Hd (ns[q]=x):=hx;have hxl:x.ks.length<=1000000:=by
   have:=qG.o q;unfold ae at this;rw[List.getElem?_eq_getElem dL,hx]at this;simp only[]at this;omega
  have AY:Hd (x.ks.length<=1000000):=hxl;clear hxl;rw[hq]at l1 l2;simp only[]at l1 l2;generalize decide (q∈own)=bb at l1 l2;clear hq hx hkx;go_enter func190,ntmps190;go_upto_region 1 with fail
  go_cut [8,9] from 11 (fun v8 v9 wx=>∃H:Nat,v8=.pointer (some ⟨H,0,none⟩)/\wx.heap[H]?=some (.cells #[.int .i64 (q:Nat),.bool bb] 265 (0,0))/\v9=.bool true/\w1.grownBy wx none)
  case first =>
   go_region
   all_goals (
    go_wp2_with fail;go_meet;exact⟨_,rfl,heap_alloc_new w1 _,rfl,pF w1 _⟩)
  case rest =>
   obtain⟨H,rfl,hH,rfl,hgc⟩:=hcut;obtain⟨w2,hw2⟩:∃w2,w2=wc:=⟨_,rfl⟩;subst hw2;have HG2:Hd (w.grownBy w2 none):=ai ay.o hgc;have bC:Hd (w1.grownBy w2 none):=hgc;have hbk:=jf kK.o hgc;have hD2:=HD1.o.keeps (mD hgc);obtain⟨T0,-,-,-⟩:=hD2.cells;obtain⟨n0,n1,n2,n3,n4,n5,-⟩:=hD2.node q dL;have hkr:=hD2.kid q dL;rw[AX.o]at n0 n1 n2 n3 n5 hkr;obtain⟨o4,m4,hv4⟩:=kV hkr;rw[hv4]at n4 hkr;obtain⟨H0,H1,-⟩:=gW hH;have QO:Hd (w2.ownsRow B 3 1 (.slice o4 x.ks.length m4) x.ks.length (x.ks.map fun q=>.int .i64 (q:Nat))):=hkr;have Ag:Hd (w2.heap[H]?=some (.cells #[.int .i64 (q:Nat),.bool bb] 265 (0,0))):=hH;have HB2:Hd (w2.heap[K]?=some (.cells #[.string ⟨k.toArray⟩,.int .i64 (pl:Nat)] 213 (0,0))):=hbk;have gZ:w2.grownBy (w2.alloc (.cells #[.int .i64 0,.string ⟨#[]⟩,.string ⟨#[]⟩,.int .i64 0,.slice none 0 0,.int .i64 0] 64)) none:=World.grownBy_alloc w2 _ none
   have T0Z:=gZ.cell T0 (by simp);have n0Z:=gZ.cell n0 (by simp);have n1Z:=gZ.cell n1 (by simp);have n2Z:=gZ.cell n2 (by simp);have n3Z:=gZ.cell n3 (by simp);have n4Z:=gZ.cell n4 (by simp);have n5Z:=gZ.cell n5 (by simp);have Y2:=gZ.cell H0 (by simp);generalize Fa:x.ks.length=m at n4 n4Z QO;have xG:Hd (x.ks.length=m):=Fa;clear hgc hbk hD2 hkr hv4 hH gZ Fa t1 k0 t1A k0A l1 l2;go_upto_region 4 with fail
   go_cut [10] from 29 (fun v10 wx=>∃Z:Nat,v10=.pointer (some ⟨Z,0,none⟩)/\wx.heap[Z]?=some (.cells #[.int .i64 x.kd,.string ⟨x.ky.toArray⟩,.string ⟨x.tx.toArray⟩,.int .i64 x.nu,.slice o4 m m4,.int .i64 (x.pl:Nat)] 64 (0,0))/\w2.grownBy wx none)
   case first =>
    go_region
    all_goals (
     go_wp2_with fail;go_meet;exact⟨_,rfl,heap_alloc_new w2 _,pF w2 _⟩)
   case rest =>
    obtain⟨Z,rfl,hZ,hgc⟩:=hcut;obtain⟨z0,z4⟩:=YZ hZ;have aO:Hd (w.grownBy wc none):=ai HG2.o hgc;obtain⟨H0c,-,-⟩:=gW (jf Ag.o hgc);obtain⟨-,k1c,-⟩:=gW (jf HB2.o hgc);have twc:=vI.o _ (ai bC.o hgc);have hkr:=QO.o.kept hgc (by cases (Value.slice o4 m m4).ownBlock<;>simp);have QP:Hd (wc.ownsRow B 3 1 (.slice o4 m m4) m (x.ks.map fun q=>.int .i64 (q:Nat))):=hkr;clear hZ hgc hkr T0 T0Z n0 n1 n2 n3 n4 n5 n0Z n1Z n2Z n3Z n4Z n5Z H0 H1 Y2;obtain⟨z,hz⟩:=zN (x.kd);have HZ:Hd (x.kd=z):=hz;rw[hz]at z0;clear hz
    by_cases c0:z=0
    ·have hb0:(z == 0)=true:=by simp[c0]
     have HRR:Hd (S=.ok (q,ns)):=by show S=_;rw[az.o,if_pos (HZ.o.trans c0)]
     clear c0;go_wp2;refine bodyPost_ret (results_tmp2 (t:=6) (u:=7) rfl _ _ _) rfl ?_;rw[HRR.o];exact⟨fun t' ns' hh=>(by cases hh;exact⟨rfl,mJ.o.gb aO.o⟩),fun c p hh=>(by cases hh),Fr.gb aO.o hB⟩
    ·have hb0:(z == 0)=false:=by simp[c0]
     by_cases c2:z=2
     ·have hb2:(z == 2)=true:=by simp[c2]
      have hkn:=yO.o (HZ.o.trans c2);have HRR:Hd (S=.ok (x.ks.getLastD 0,ns)):=by show S=_;rw[az.o,if_neg (by rw[HZ.o];exact c0),if_pos (HZ.o.trans c2)]
      obtain⟨j,hj⟩:∃j,m=j+1:=⟨m-1,by have:=xG.o;have:=List.length_pos_iff.2 hkn;omega⟩;obtain⟨g,cap,QQ,-,-⟩:=QP.o.form (by omega);have hlast:x.ks[j]?=some (x.ks.getLastD 0):=by
       have hl:x.ks.length=j+1:=xG.o.trans hj;rw[List.getLastD_eq_getLast?,List.getLast?_eq_getElem?,hl];have:x.ks[j+1-1]?=some (x.ks[j]'(by omega)):=List.getElem?_eq_getElem (by omega);rw[this];exact List.getElem?_eq_getElem (by omega)
      have hcl:=QP.o.cells (g:=g) (by rw[QQ];rfl) j (.int .i64 ((x.ks.getLastD 0:Nat):Int)) (by rw[List.getElem?_map,hlast];rfl);rw[mr]at hcl;obtain⟨la,hla⟩:=zN (x.ks.getLastD 0);rw[hla]at hcl;have Y3:Hd (x.ks.getLastD 0=la):=hla
      cases QQ
      subst hj;have hj1:j<=1000000:=by
       have h1:=AY.o;have h2:=xG.o;omega
      have Y4:wrap64 (j:Int)=(j:Int):=QN j hj1;have hwk:(wrap64 (j:Int)).toNat=j:=by rw[Y4];exact Int.toNat_natCast j
      clear hj1;clear c0 c2 hkn hlast hla;go_wp2;refine bodyPost_ret (results_tmp2 (t:=6) (u:=7) rfl _ _ _) rfl ?_;rw[HRR.o,Y3.o];exact⟨fun t' ns' hh=>(by cases hh;exact⟨rfl,mJ.o.gb aO.o⟩),fun c p hh=>(by cases hh),Fr.gb aO.o hB⟩
     ·have hb2:(z == 2)=false:=by simp[c2]
      have HRR:Hd (S=.error (5,pl)):=by show S=_;rw[az.o,if_neg (by rw[HZ.o];exact c0),if_neg (by rw[HZ.o];exact c2)]
      clear c0 c2;go_wp2_with (go_at_call 195;refine(CW.o _).mono ?_;rintro e w5 ⟨⟨v,rfl,hv⟩,hg5⟩);refine bodyPost_ret (results_tmp2 (t:=6) (u:=7) rfl _ _ _) rfl ?_;rw[HRR.o];exact⟨fun t' ns' hh=>(by cases hh),fun c p hh=>(by cases hh;exact⟨v,rfl,dN.o _ _ hv⟩),Fr.gb (ai aO.o hg5) hB⟩
end Go.Proofs.YtnnbgjaphfhibaaGreatDoor
