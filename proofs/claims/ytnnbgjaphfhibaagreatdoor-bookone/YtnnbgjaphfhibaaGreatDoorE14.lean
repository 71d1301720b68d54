import Derived.Test.YtnnbgjaphfhibaaGreatDoorE09
import Derived.Test.YtnnbgjaphfhibaaGreatDoorE10
import Derived.Deep.RegionLaw
import Derived.Deep.Cut
set_option linter.all false
set_option maxRecDepth 100000
set_option maxHeartbeats 0
open Go.Proofs.Tryz
namespace Go.Proofs.YtnnbgjaphfhibaaGreatDoor
open Go.RowKit Go.Maps Go.WideMaps Go.Joins
theorem bZ{w w':World}{B:Nat}{e:TypeId}{s:Nat}{v:Value}{n:Nat}{xs:List Value}(h:w.ownsRow B e s v n xs)(hb:∀g cur,v.ownBlock=some g->w.heap[g]?=some (.cells cur e (0,0))->w'.heap[g]?=w.heap[g]?):w'.ownsRow B e s v n xs:=by
 refine⟨h.1,?_⟩
 rcases h.2 with h1|⟨g,cap,cur,rfl,h2,h3,h4⟩
 ·exact Or.inl h1
 ·exact Or.inr ⟨g,cap,cur,rfl,h2,(hb g cur rfl h3).trans h3,h4⟩
theorem bH{w:World}{B:Nat}{e:TypeId}{s:Nat}{v:Value}{n:Nat}{xs:List Value}(h:w.ownsRow B e s v n xs){g:Nat}(hg:v.ownBlock=some g):B<=g/\∃cur,w.heap[g]?=some (.cells cur e (0,0)):=by
 rcases h.2 with⟨rfl,_⟩|⟨g',cap,cur,rfl,h2,h3,h4⟩
 ·cases hg
 ·cases hg
  exact⟨h2,cur,h3⟩
theorem aO{w:World}{a b:Nat}{c1 c2:Array Value}{t1 t2:TypeId}{f1 f2:Nat × Nat}(h1:w.heap[a]?=some (.cells c1 t1 f1))(h2:w.heap[b]?=some (.cells c2 t2 f2))(h:¬t1=t2):¬a=b:=fun e=>by
 subst e;rw[h1]at h2;injection h2 with h2
 injection h2 with _ e2 _
 exact h e2
theorem qp{w:World}{a b:Nat}{c1:Array Value}{t1:TypeId}{f1:Nat × Nat}{es:Array MapEntry}{c:Nat}(h1:w.heap[a]?=some (.cells c1 t1 f1))(h2:w.heap[b]?=some (.map es c)):¬a=b:=fun e=>by
 subst e;rw[h1]at h2
 cases h2
theorem aB{w:World}{b:Nat}{o:Obj}(h:w.heap[b]?=some o):b<w.heap.size:=(dO h)
structure TrD(w:World)(B T:Nat)(ns:List Tn)(now N c M:Nat)(xs:List Value)(ks:Nat->Value)(n:Nat)(f:Nat->List UInt8->Option (Nat × Bool)):Prop where
 blk:w.heap[T]?=some (.cells #[.slice (some ⟨N,0,none⟩) ns.length c,.map (some M),.int .i64 (now:Nat)] 129 (0,0))
 bT:B<=T
 row:w.ownsRow B 64 6 (.slice (some ⟨N,0,none⟩) ns.length c) ns.length xs
 cel:∀i (hi:i<ns.length),xs[i*6]?=some (.int .i64 ns[i].kd)/\xs[i*6+1]?=some (.string ⟨ns[i].ky.toArray⟩)/\xs[i*6+2]?=some (.string ⟨ns[i].tx.toArray⟩)/\xs[i*6+3]?=some (.int .i64 ns[i].nu)/\xs[i*6+4]?=some (ks i)/\xs[i*6+5]?=some (.int .i64 (ns[i].pl:Nat))
 kid:∀i (hi:i<ns.length),w.ownsRow B 3 1 (ks i) ns[i].ks.length (ns[i].ks.map fun q=>.int .i64 (q:Nat))
 apart:∀i j g,i<ns.length->j<ns.length->(ks i).ownBlock=some g->(ks j).ownBlock=some g->i=j
 map:HM w M n f
 bM:B<=M
section
variable {w w':World} {B T:Nat} {ns:List Tn} {now N c M:Nat} {xs:List Value} {ks:Nat->Value} {n:Nat} {f:Nat->List UInt8->Option (Nat × Bool)}
theorem TrD.rowT(h:TrD w B T ns now N c M xs ks n f):∃cur,w.heap[N]?=some (.cells cur 64 (0,0)):=(bH h.row rfl).2
theorem TrD.cells(h:TrD w B T ns now N c M xs ks n f):w.cell? ⟨T,0,none⟩=some (.slice (some ⟨N,0,none⟩) ns.length c)/\w.cell? ⟨T,1,none⟩=some (.map (some M))/\w.cell? ⟨T,2,none⟩=some (.int .i64 (now:Nat))/\∀k,w.frozen? ⟨T,k,none⟩=false :=
 ⟨by rw[ag h.blk];rfl,by rw[ag h.blk];rfl,by rw[ag h.blk];rfl,fun k=>Lib.frozen_of_heap h.blk k⟩
theorem nC(g k:Nat):(⟨g,0,none⟩:Addr).add k=⟨g,k,none⟩:=by
 unfold Addr.add;split
 ·rename_i h;rw[h]
 ·simp
theorem TrD.node(h:TrD w B T ns now N c M xs ks n f)(i:Nat)(hi:i<ns.length):w.cell? ⟨N,i*6,none⟩=some (.int .i64 ns[i].kd)/\w.cell? ⟨N,i*6+1,none⟩=some (.string ⟨ns[i].ky.toArray⟩)/\w.cell? ⟨N,i*6+2,none⟩=some (.string ⟨ns[i].tx.toArray⟩)/\w.cell? ⟨N,i*6+3,none⟩=some (.int .i64 ns[i].nu)/\w.cell? ⟨N,i*6+4,none⟩=some (ks i)/\w.cell? ⟨N,i*6+5,none⟩=some (.int .i64 (ns[i].pl:Nat))/\∀k,w.frozen? ⟨N,k,none⟩=false:=by
 obtain⟨h0,h1,h2,h3,h4,h5⟩:=h.cel i hi;have key:∀j u,xs[j]?=some u->w.cell? ⟨N,j,none⟩=some u:=fun j u hu=>by
  have:=h.row.cells (g:=N) rfl j u hu;rw[nC]at this;exact this
 obtain⟨cur,hc⟩:=h.rowT;exact⟨key _ _ h0,key _ _ h1,key _ _ h2,key _ _ h3,key _ _ h4,key _ _ h5,fun k=>Lib.frozen_of_heap hc k⟩
def Hz(w w':World):Prop:=(∀(b:Nat) (cs:Array Value) (t:TypeId) (fz:Nat × Nat),w.heap[b]?=some (.cells cs t fz)->(t=129\/t=64\/t=3)->w'.heap[b]?=w.heap[b]?)/\∀(b:Nat) (es:Array MapEntry) (c:Nat),w.heap[b]?=some (.map es c)->w'.heap[b]?=w.heap[b]?
theorem TrD.keeps(h:TrD w B T ns now N c M xs ks n f)(hk:Hz w w'):TrD w' B T ns now N c M xs ks n f:=by
 refine⟨(hk.1 _ _ _ _ h.blk (Or.inl rfl)).trans h.blk,h.bT,bZ h.row fun g cur _ hc=>hk.1 _ _ _ _ hc (Or.inr (Or.inl rfl)),h.cel,fun i hi=>bZ (h.kid i hi) fun g cur _ hc=>hk.1 _ _ _ _ hc (Or.inr (Or.inr rfl)),h.apart,?_,h.bM⟩;obtain⟨es,cc,hm⟩:=h.map.map;exact h.map.block (hk.2 _ _ _ hm)
theorem nG(hg:w.grownBy w' none):Hz w w':=⟨fun b cs t fz hb _=>hg.block b (aB hb) (by simp),fun b es c hb=>hg.block b (aB hb) (by simp)⟩
theorem acv{R:Nat}{s:ByteArray}{i T':Nat}(h:Rd w R s i T')(hg:w.grownBy w' (some R)):Hz w w' :=
 ⟨fun b cs t fz hb ht=>hg.block b (aB hb) (by
  simp only[ne_eq,Option.some.injEq];refine aO hb h ?_
  rcases ht with rfl|rfl|rfl<;>decide),fun b es c hb=>hg.block b (aB hb) (by
  simp only[ne_eq,Option.some.injEq];exact fun e=>qp h hb e.symm)⟩
structure Fr(B:Nat)(w w':World):Prop where
 bel:Below B w w'
 oth:∀(b:Nat) (cs:Array Value) (t:TypeId) (fz:Nat × Nat),w.heap[b]?=some (.cells cs t fz)->¬t=129->¬t=64->¬t=3->w'.heap[b]?=w.heap[b]?
theorem Fr.two{w1 w2:World}(h:Fr B w w1)(h':Fr B w1 w2):Fr B w w2 :=
 ⟨h.bel.trans h'.bel,fun b cs t fz hb h1 h2 h3=>by
  have e1:=h.oth b cs t fz hb h1 h2 h3;exact(h'.oth b cs t fz (e1.trans hb) h1 h2 h3).trans e1⟩
theorem Fr.gb(hg:w.grownBy w' none)(hB:B<=w.heap.size):Fr B w w' :=
 ⟨⟨hg.os,hg.tape,hg.output,hg.size,fun k hk=>hg.block k (by omega) (by simp)⟩,fun b cs t fz hb _ _ _=>hg.block b (aB hb) (by simp)⟩
theorem Fr.row{t:TypeId}{g:Nat}{cur:Array Value}{fz:Nat × Nat}(hg:w.grownBy w' (some g))(hB:B<=w.heap.size)(hgB:B<=g)(hb:w.heap[g]?=some (.cells cur t fz))(ht:t=129\/t=64\/t=3):Fr B w w' :=
 ⟨⟨hg.os,hg.tape,hg.output,hg.size,fun k hk=>hg.block k (by omega) (by simp;omega)⟩,fun b cs t' fz' hb' h1 h2 h3=>hg.block b (aB hb') (by
  simp only[ne_eq,Option.some.injEq];refine aO hb' hb ?_
  rcases ht with rfl|rfl|rfl
  ·exact h1
  ·exact h2
  ·exact h3)⟩
theorem Fr.mapd{M:Nat}{es:Array MapEntry}{c:Nat}(hg:w.grownBy w' (some M))(hB:B<=w.heap.size)(hgB:B<=M)(hb:w.heap[M]?=some (.map es c)):Fr B w w' :=
 ⟨⟨hg.os,hg.tape,hg.output,hg.size,fun k hk=>hg.block k (by omega) (by simp;omega)⟩,fun b cs t' fz' hb' h1 h2 h3=>hg.block b (aB hb') (by
  simp only[ne_eq,Option.some.injEq];exact qp hb' hb)⟩
theorem iL(w:World)(g o:Nat)(v:Value):w.grownBy (w.setCell ⟨g,o,none⟩ v) (some g) :=
 ⟨rfl,rfl,rfl,by simp[World.setCell],fun k hk hn=>heap_setCell_other w _ k v (fun e=>hn (by rw[e]))⟩
theorem TrD.push(h:TrD w B T ns now N c M xs ks n f){w1:World}{g cap L:Nat}(x:Tn)(hx:x.ks=[])(hL:ns.length+1=L)
  (ho:w1.ownsRow B 64 6 (.slice (some ⟨g,0,none⟩) L cap) L (xs++[.int .i64 x.kd,.string ⟨x.ky.toArray⟩,.string ⟨x.tx.toArray⟩,.int .i64 x.nu,.slice none 0 0,.int .i64 (x.pl:Nat)])) (hg:w.grownBy w1 (some N)) :
  TrD (w1.setCell ⟨T,0,none⟩ (.slice (some ⟨g,0,none⟩) L cap)) B T (ns++[x]) now g cap M (xs++[.int .i64 x.kd,.string ⟨x.ky.toArray⟩,.string ⟨x.tx.toArray⟩,.int .i64 x.nu,.slice none 0 0,.int .i64 (x.pl:Nat)]) (fun i=>if i=ns.length then .slice none 0 0 else ks i) n f:=by
 obtain⟨cur,hN⟩:=h.rowT;have hT1:=hg.block T (aB h.blk) (by simp only[ne_eq,Option.some.injEq];exact aO h.blk hN (by decide));have hb1:=hT1.trans h.blk;obtain⟨cg,hcg⟩:=(bH ho rfl).2;have hxl:=h.row.1;have hlen:(ns++[x]).length=L:=by simp[hL]
 have hset:=block_setCell (i:=0) hb1 (.slice (some ⟨g,0,none⟩) L cap);refine⟨?_,h.bT,?_,?_,?_,?_,?_,h.bM⟩
 ·rw[hlen];exact hset
 ·rw[hlen];exact bZ ho fun g' cur' _ hc=>heap_setCell_other _ _ _ _ (aO hc hb1 (by decide))
 ·intro i hi;rw[hlen]at hi
  by_cases he:i=ns.length
  ·subst he;simp only[List.getElem_append_right (Nat.le_refl _),Nat.sub_self,List.getElem_cons_zero];rw[<-hxl];refine⟨?_,?_,?_,?_,?_,?_⟩
   ·rw[List.getElem?_append_right (by omega),Nat.sub_self];rfl
   ·rw[List.getElem?_append_right (by omega),show xs.length+1-xs.length=1 by omega];rfl
   ·rw[List.getElem?_append_right (by omega),show xs.length+2-xs.length=2 by omega];rfl
   ·rw[List.getElem?_append_right (by omega),show xs.length+3-xs.length=3 by omega];rfl
   ·rw[List.getElem?_append_right (by omega),show xs.length+4-xs.length=4 by omega];simp
   ·rw[List.getElem?_append_right (by omega),show xs.length+5-xs.length=5 by omega];rfl
  ·have hlt:i<ns.length:=by omega
   obtain⟨h0,h1,h2,h3,h4,h5⟩:=h.cel i hlt;simp only[List.getElem_append_left hlt,if_neg he];refine⟨?_,?_,?_,?_,?_,?_⟩
   all_goals (rw[List.getElem?_append_left (by omega)];assumption)
 ·intro i hi;rw[hlen]at hi
  by_cases he:i=ns.length
  ·subst he;simp only[List.getElem_append_right (Nat.le_refl _),Nat.sub_self,List.getElem_cons_zero,hx,if_true];exact⟨rfl,Or.inl ⟨rfl,rfl⟩⟩
  ·have hlt:i<ns.length:=by omega
   simp only[List.getElem_append_left hlt,if_neg he];refine bZ (h.kid i hlt) fun g' cur' _ hc=>?_
   have e1:=hg.block g' (aB hc) (by simp only[ne_eq,Option.some.injEq];exact aO hc hN (by decide));exact(heap_setCell_other _ _ _ _ (aO (e1.trans hc) hb1 (by decide))).trans e1
 ·intro i j g' hi hj h1 h2;rw[hlen]at hi hj
  by_cases hei:i=ns.length
  ·rw[if_pos hei]at h1;cases h1
  ·by_cases hej:j=ns.length
   ·rw[if_pos hej]at h2;cases h2
   ·rw[if_neg hei]at h1;rw[if_neg hej]at h2;exact h.apart i j g' (by omega) (by omega) h1 h2
 ·obtain⟨es,cc,hm⟩:=h.map.map;have e1:=hg.block M (aB hm) (by simp only[ne_eq,Option.some.injEq];exact fun e=>qp hN hm e.symm);exact h.map.block ((heap_setCell_other _ _ _ _ (fun e=>qp hb1 (e1.trans hm) e.symm)).trans e1)
theorem TrD.kidOwn(h:TrD w B T ns now N c M xs ks n f){i:Nat}(hi:i<ns.length){g:Nat}(hg:(ks i).ownBlock=some g):∃cur,w.heap[g]?=some (.cells cur 3 (0,0)):=(bH (h.kid i hi) hg).2
theorem TrD.kidp(h:TrD w B T ns now N c M xs ks n f){w1:World}{g cap L:Nat}(p:Nat)(hp:p<ns.length)(q:Nat)(hL:ns[p].ks.length+1=L)
  (ho:w1.ownsRow B 3 1 (.slice (some ⟨g,0,none⟩) L cap) L ((ns[p].ks.map fun q=>.int .i64 (q:Nat))++[.int .i64 (q:Nat)])) (hg:w.grownBy w1 (ks p).ownBlock) (hat:(ks p).ownBlock=some g\/w.heap.size<=g) :
  TrD (w1.setCell ⟨N,p*6+4,none⟩ (.slice (some ⟨g,0,none⟩) L cap)) B T (ns.set p { ns[p] with ks:=ns[p].ks++[q] }) now N c M (xs.set (p*6+4) (.slice (some ⟨g,0,none⟩) L cap)) (fun i=>if i=p then .slice (some ⟨g,0,none⟩) L cap else ks i) n f:=by
 obtain⟨cur,hN⟩:=h.rowT;have yQ:∀(b:Nat) (cs:Array Value) (t:TypeId) (fz:Nat × Nat),w.heap[b]?=some (.cells cs t fz)->¬t=3->w1.heap[b]?=w.heap[b]?:=fun b cs t fz hb ht=>hg.block b (aB hb) (fun e=>by
  obtain⟨cc,hcc⟩:=h.kidOwn hp e.symm;exact aO hb hcc ht rfl)
 have hN1:=yQ _ _ _ _ hN (by decide);have hT1:=yQ _ _ _ _ h.blk (by decide);have hxl:=h.row.1;have hlen:(ns.set p { ns[p] with ks:=ns[p].ks++[q] }).length=ns.length:=by simp
 obtain⟨cg,hcg⟩:=(bH ho rfl).2;refine⟨?_,h.bT,?_,?_,?_,?_,?_,h.bM⟩
 ·rw[hlen];exact(heap_setCell_other _ _ _ _ (aO (hT1.trans h.blk) (hN1.trans hN) (by decide))).trans (hT1.trans h.blk)
 ·rw[hlen];have r1:=bZ h.row fun g' cur' hh hc=>yQ _ _ _ _ hc (by decide)
  refine⟨by rw[List.length_set];exact r1.1,?_⟩
  rcases r1.2 with⟨e1,_⟩|⟨g',cap',cu,e1,hb,hgg,hn,hm,hs,ht⟩
  ·cases e1
  ·cases e1
   refine Or.inr ⟨N,c,cu.setIfInBounds (p*6+4) _,rfl,hb,block_setCell hgg _,hn,hm,by simpa using hs,?_⟩;rw[Array.toList_setIfInBounds,List.take_set,ht]
 ·intro i hi;rw[hlen]at hi;obtain⟨h0,h1,h2,h3,h4,h5⟩:=h.cel i hi;have keep:∀j,j<xs.length->¬j=p*6+4->(xs.set (p*6+4) (.slice (some ⟨g,0,none⟩) L cap))[j]?=xs[j]?:=fun j hj hne=>List.getElem?_set_ne (fun e=>hne e.symm)
  by_cases he:i=p
  ·subst he;simp only[List.getElem_set_self,if_true];refine⟨(keep _ (by omega) (by omega)).trans h0,(keep _ (by omega) (by omega)).trans h1,(keep _ (by omega) (by omega)).trans h2,(keep _ (by omega) (by omega)).trans h3,List.getElem?_set_self (by omega),(keep _ (by omega) (by omega)).trans h5⟩
  ·have hpi:¬p=i:=fun e=>he e.symm
   simp only[List.getElem_set_ne hpi,if_neg he];refine⟨(keep _ (by omega) (by omega)).trans h0,(keep _ (by omega) (by omega)).trans h1,(keep _ (by omega) (by omega)).trans h2,(keep _ (by omega) (by omega)).trans h3,(keep _ (by omega) (by omega)).trans h4,(keep _ (by omega) (by omega)).trans h5⟩
 ·intro i hi;rw[hlen]at hi;have hs:∀(g':Nat) (cur':Array Value),w1.heap[g']?=some (.cells cur' 3 (0,0))->(w1.setCell ⟨N,p*6+4,none⟩ (.slice (some ⟨g,0,none⟩) L cap)).heap[g']?=w1.heap[g']?:=fun g' cur' hc=>heap_setCell_other _ _ _ _ (aO hc (hN1.trans hN) (by decide))
  by_cases he:i=p
  ·subst he;simp only[List.getElem_set_self,if_true];rw[List.map_append,List.length_append,List.length_singleton,hL];exact bZ ho fun g' cur' _ hc=>hs g' cur' hc
  ·have hpi:¬p=i:=fun e=>he e.symm
   simp only[List.getElem_set_ne hpi,if_neg he];refine bZ (h.kid i hi) fun g' cur' hgo hc=>?_
   have e1:=hg.block g' (aB hc) (fun e=>he (h.apart i p g' hi hp hgo e.symm));exact(hs g' cur' (e1.trans hc)).trans e1
 ·intro i j g' hi hj h1 h2;rw[hlen]at hi hj;have fresh:∀k,k<ns.length->¬k=p->(ks k).ownBlock=some g->False:=fun k hk hne e=>by
   rcases hat with e2|e2
   ·exact hne (h.apart k p g hk hp e e2)
   ·obtain⟨cc,hcc⟩:=h.kidOwn hk e;have:=aB hcc;omega
  by_cases hei:i=p
  ·by_cases hej:j=p
   ·rw[hei,hej]
   ·rw[if_pos hei]at h1;rw[if_neg hej]at h2
    cases h1
    exact(fresh j hj hej h2).elim
  ·by_cases hej:j=p
   ·rw[if_pos hej]at h2;rw[if_neg hei]at h1
    cases h2
    exact(fresh i hi hei h1).elim
   ·rw[if_neg hei]at h1;rw[if_neg hej]at h2;exact h.apart i j g' hi hj h1 h2
 ·obtain⟨es,cc,hm⟩:=h.map.map;have e1:w1.heap[M]?=w.heap[M]?:=hg.block M (aB hm) (fun e=>by
   obtain⟨cc,hcc⟩:=h.kidOwn hp e.symm;exact qp hcc hm rfl)
  exact h.map.block ((heap_setCell_other _ _ _ _ (fun e=>qp (hN1.trans hN) (e1.trans hm) e.symm)).trans e1)
theorem TrD.mapd(h:TrD w B T ns now N c M xs ks n f){n':Nat}{f':Nat->List UInt8->Option (Nat × Bool)}(hm:HM w' M n' f')(hg:w.grownBy w' (some M)):TrD w' B T ns now N c M xs ks n' f':=by
 obtain⟨es,cc,hm0⟩:=h.map.map;have hb:=fun(b:Nat) (cs:Array Value) (t:TypeId) (fz:Nat × Nat) (hb:w.heap[b]?=some (.cells cs t fz))=>hg.block b (aB hb) (by simp only[ne_eq,Option.some.injEq];exact qp hb hm0)
 exact⟨(hb _ _ _ _ h.blk).trans h.blk,h.bT,bZ h.row fun g cur _ hc=>hb _ _ _ _ hc,h.cel,fun i hi=>bZ (h.kid i hi) fun g cur _ hc=>hb _ _ _ _ hc,h.apart,hm,h.bM⟩
theorem TrD.hand(h:TrD w B T ns now N c M xs ks n f)(m:Nat):TrD (w.setCell ⟨T,2,none⟩ (.int .i64 (m:Nat))) B T ns m N c M xs ks n f:=by
 have hb:∀(b:Nat) (cs:Array Value) (t:TypeId) (fz:Nat × Nat),w.heap[b]?=some (.cells cs t fz)->¬t=129->(w.setCell ⟨T,2,none⟩ (.int .i64 (m:Nat))).heap[b]?=w.heap[b]?:=fun b cs t fz hb ht=>heap_setCell_other _ _ _ _ (aO hb h.blk ht)
 refine⟨block_setCell (i:=2) h.blk _,h.bT,bZ h.row fun g cur _ hc=>hb _ _ _ _ hc (by decide),h.cel,fun i hi=>bZ (h.kid i hi) fun g cur _ hc=>hb _ _ _ _ hc (by decide),h.apart,?_,h.bM⟩;obtain⟨es,cc,hm⟩:=h.map.map;exact h.map.block (heap_setCell_other _ _ _ _ (fun e=>qp h.blk hm e.symm))
theorem TrD.cellSet(h:TrD w B T ns now N c M xs ks n f)(q o:Nat)(v:Value)(x:Tn)(hq:q<ns.length)(ho:o<6)(h4:¬o=4)(hk:x.ks=ns[q].ks)
  (hv:∀j u,(if j=o then some v else([.int .i64 ns[q].kd,.string ⟨ns[q].ky.toArray⟩,.string ⟨ns[q].tx.toArray⟩,.int .i64 ns[q].nu,ks q,.int .i64 (ns[q].pl:Nat)]:List Value)[j]?)=some u->([.int .i64 x.kd,.string ⟨x.ky.toArray⟩,.string ⟨x.tx.toArray⟩,.int .i64 x.nu,ks q,.int .i64 (x.pl:Nat)]:List Value)[j]?=some u) :
  TrD (w.setCell ⟨N,q*6+o,none⟩ v) B T (ns.set q x) now N c M (xs.set (q*6+o) v) ks n f:=by
 obtain⟨cur,hN⟩:=h.rowT;have hb:∀(b:Nat) (cs:Array Value) (t:TypeId) (fz:Nat × Nat),w.heap[b]?=some (.cells cs t fz)->¬t=64->(w.setCell ⟨N,q*6+o,none⟩ v).heap[b]?=w.heap[b]?:=fun b cs t fz hb ht=>heap_setCell_other _ _ _ _ (aO hb hN ht)
 have hxl:=h.row.1;have hlen:(ns.set q x).length=ns.length:=by simp
 refine⟨?_,h.bT,?_,?_,?_,?_,?_,h.bM⟩
 ·rw[hlen];exact(hb _ _ _ _ h.blk (by decide)).trans h.blk
 ·rw[hlen];refine⟨by rw[List.length_set];exact h.row.1,?_⟩
  rcases h.row.2 with⟨e1,_⟩|⟨g',cap',cu,e1,hb,hgg,hn,hm,hs,ht⟩
  ·cases e1
  ·cases e1
   refine Or.inr ⟨N,c,cu.setIfInBounds (q*6+o) v,rfl,hb,block_setCell hgg _,hn,hm,by simpa using hs,?_⟩;rw[Array.toList_setIfInBounds,List.take_set,ht]
 ·intro i hi;rw[hlen]at hi;obtain⟨h0,h1,h2,h3,h4',h5⟩:=h.cel i hi;have keep:∀j,¬j=q*6+o->(xs.set (q*6+o) v)[j]?=xs[j]?:=fun j hne=>List.getElem?_set_ne (fun e=>hne e.symm)
  by_cases he:i=q
  ·subst he;simp only[List.getElem_set_self];have get:∀j u,j<6->([.int .i64 ns[i].kd,.string ⟨ns[i].ky.toArray⟩,.string ⟨ns[i].tx.toArray⟩,.int .i64 ns[i].nu,ks i,.int .i64 (ns[i].pl:Nat)]:List Value)[j]?=some u->xs[i*6+j]?=some u:=fun j u hj hu=>by
    match j,hj,hu with
    | 0,_,hu=>cases hu;exact h0
    | 1,_,hu=>cases hu;exact h1
    | 2,_,hu=>cases hu;exact h2
    | 3,_,hu=>cases hu;exact h3
    | 4,_,hu=>cases hu;exact h4'
    | 5,_,hu=>cases hu;exact h5
   have main:∀j (hj:j<6),∀u,(xs.set (i*6+o) v)[i*6+j]?=some u->([.int .i64 x.kd,.string ⟨x.ky.toArray⟩,.string ⟨x.tx.toArray⟩,.int .i64 x.nu,ks i,.int .i64 (x.pl:Nat)]:List Value)[j]?=some u:=fun j hj u hu=>by
    apply hv j u
    by_cases hjo:j=o
    ·subst hjo;rw[List.getElem?_set_self (by omega)]at hu;rw[if_pos rfl];exact hu
    ·rw[keep _ (by omega)]at hu;rw[if_neg hjo];have hlt:j<([.int .i64 ns[i].kd,.string ⟨ns[i].ky.toArray⟩,.string ⟨ns[i].tx.toArray⟩,.int .i64 ns[i].nu,ks i,.int .i64 (ns[i].pl:Nat)]:List Value).length:=hj;have:=get j _ hj (List.getElem?_eq_getElem hlt);rw[this]at hu;rw[List.getElem?_eq_getElem hlt];exact hu
   have has:∀j,j<6->∃u,(xs.set (i*6+o) v)[i*6+j]?=some u:=fun j hj=>⟨_,List.getElem?_eq_getElem (by rw[List.length_set];omega)⟩
   have fin:∀j (hj:j<6),(xs.set (i*6+o) v)[i*6+j]?=([.int .i64 x.kd,.string ⟨x.ky.toArray⟩,.string ⟨x.tx.toArray⟩,.int .i64 x.nu,ks i,.int .i64 (x.pl:Nat)]:List Value)[j]?:=fun j hj=>by
    obtain⟨u,hu⟩:=has j hj;rw[hu,main j hj u hu]
   exact⟨fin 0 (by omega),fin 1 (by omega),fin 2 (by omega),fin 3 (by omega),fin 4 (by omega),fin 5 (by omega)⟩
  ·have hqi:¬q=i:=fun e=>he e.symm
   simp only[List.getElem_set_ne hqi];exact⟨(keep _ (by omega)).trans h0,(keep _ (by omega)).trans h1,(keep _ (by omega)).trans h2,(keep _ (by omega)).trans h3,(keep _ (by omega)).trans h4',(keep _ (by omega)).trans h5⟩
 ·intro i hi;rw[hlen]at hi
  by_cases he:i=q
  ·subst he;simp only[List.getElem_set_self,hk];exact bZ (h.kid i hq) fun g cur _ hc=>hb _ _ _ _ hc (by decide)
  ·have hqi:¬q=i:=fun e=>he e.symm
   simp only[List.getElem_set_ne hqi];exact bZ (h.kid i hi) fun g cur _ hc=>hb _ _ _ _ hc (by decide)
 ·intro i j g' hi hj;rw[hlen]at hi hj;exact h.apart i j g' hi hj
 ·obtain⟨es,cc,hm⟩:=h.map.map;exact h.map.block (heap_setCell_other _ _ _ _ (fun e=>qp hN hm e.symm))
end
def Tr(w:World)(B T:Nat)(ns:List Tn)(own:List Nat)(now:Nat):Prop:=∃N c M xs ks,TrD w B T ns now N c M xs ks (ns.length+own.length) (hold ns own)
open Go.RowKit Go.Maps Go.WideMaps Go.Joins
theorem UI:(prog.info? 64).map (fun i=>(i.zero,i.size,i.bytes))=some (some (.agg #[.int .i64 0,.string ⟨#[]⟩,.string ⟨#[]⟩,.int .i64 0,.slice none 0 0,.int .i64 0]),6,80):=by kernel_rfl
theorem MS:(prog.info? 3).map (fun i=>(i.zero,i.size,i.bytes))=some (some (.int .i64 0),1,8):=by kernel_rfl
def acw(B T:Nat)(ns:List Tn)(own:List Nat)(now p:Nat)(x:Tn)(w:World)(e:Ending)(w':World):Prop:=e=.returned (.int .i64 (ns.length:Nat))/\Tr w' B T (addN ns p x) own now/\Fr B w w'
theorem rH{w w3:World}{o:Obj}{r:Option Nat}{T i:Nat}{cs:Array Value}{t:TypeId}(d:w.heap[T]?=some (.cells cs t (0,0)))(hg:(w.drew.alloc o).grownBy w3 r)(hne:some T≠r):w3.frozen? ⟨T,i,none⟩=false:=by
 have e0:=((World.grownBy_alloc w.drew o none).block T (aB (w:=w.drew) d) (by simp)).trans d;exact Lib.frozen_of_heap ((hg.block T (aB e0) hne).trans e0) i
theorem nH{w w3:World}{o:Obj}{r:Option Nat}{T i:Nat}{v:Value}(d:w.cell? ⟨T,i,none⟩=some v)(hg:(w.drew.alloc o).grownBy w3 r)(hne:some T≠r):w3.cell? ⟨T,i,none⟩=some v:=hg.cell ((World.grownBy_alloc w.drew o none).cell d (by simp)) hne
theorem UJ(x:Tn):∀u∈([.int .i64 x.kd,.string ⟨x.ky.toArray⟩,.string ⟨x.tx.toArray⟩,.int .i64 x.nu,.slice none 0 0,.int .i64 (x.pl:Nat)]:List Value),u.oneCell'=true:=by
 intro u hu;simp only[List.mem_cons,List.not_mem_nil,or_false]at hu
 rcases hu with rfl|rfl|rfl|rfl|rfl|rfl<;>rfl
theorem UK(q:Nat):∀u∈([.int .i64 (q:Nat)]:List Value),u.oneCell'=true:=by
 intro u hu;simp only[List.mem_cons,List.not_mem_nil,or_false]at hu
 rcases hu with rfl;rfl
theorem mG{w:World}{B:Nat}{e:TypeId}{s:Nat}{v:Value}{n:Nat}{xs:List Value}(h:w.ownsRow B e s v n xs):∃o c,v=.slice o n c:=by
 rcases h.2 with⟨h1,h2⟩|⟨g,cap,cur,h1,_⟩
 ·exact⟨none,0,by rw[h1,h2]⟩
 ·exact⟨_,_,h1⟩
theorem UL(ns:List Tn)(p:Nat)(x:Tn)(hp:p<ns.length)(hp':p<(ns++[x]).length):(ns++[x]).set p { (ns++[x])[p] with ks:=(ns++[x])[p].ks++[ns.length] }=addN ns p x:=by
 unfold addN;rw[List.getElem?_eq_getElem hp];simp only[List.getElem_append_left hp];rw[List.set_append_left _ _ hp]
theorem acx{w w1 w3:World}{B T:Nat}{ns:List Tn}{now N c M:Nat}{xs:List Value}{ks:Nat->Value}{n:Nat}{f:Nat->List UInt8->Option (Nat × Bool)}{kd:Int}{k:List UInt8}{pl K g cap:Nat}
  (h:TrD w1 B T ns now N c M xs ks n f) (hf:Fr B w w1) (hK:w1.heap[K]?=some (.cells #[.string ⟨k.toArray⟩,.int .i64 (pl:Nat)] 213 (0,0)))
  (ho:w3.ownsRow B 64 6 (.slice (some ⟨g,0,none⟩) (ns.length+1) cap) (ns.length+1) (xs++[.int .i64 kd,.string ⟨k.toArray⟩,.string ⟨#[]⟩,.int .i64 0,.slice none 0 0,.int .i64 (pl:Nat)]))
  (hg:(w1.drew.alloc (.cells #[.int .i64 kd,.string ⟨k.toArray⟩,.string ⟨#[]⟩,.int .i64 0,.slice none 0 0,.int .i64 (pl:Nat)] 64)).grownBy w3 (Value.slice (some ⟨N,0,none⟩) ns.length c).ownBlock) :
  ∃(g' cap':Nat) (xs':List Value) (ks':Nat->Value),TrD (w3.setCell ⟨T,0,none⟩ (.slice (some ⟨g,0,none⟩) (ns.length+1) cap)) B T (ns++[⟨kd,k,[],0,[],pl⟩]) now g' cap' M xs' ks' n f/\Fr B w (w3.setCell ⟨T,0,none⟩ (.slice (some ⟨g,0,none⟩) (ns.length+1) cap))/\(w3.setCell ⟨T,0,none⟩ (.slice (some ⟨g,0,none⟩) (ns.length+1) cap)).heap[K]?=some (.cells #[.string ⟨k.toArray⟩,.int .i64 (pl:Nat)] 213 (0,0)):=by
 have hgE:w1.grownBy (w1.drew.alloc (.cells #[.int .i64 kd,.string ⟨k.toArray⟩,.string ⟨#[]⟩,.int .i64 0,.slice none 0 0,.int .i64 (pl:Nat)] 64)) none:=by
  have:=World.grownBy_alloc w1.drew (.cells #[.int .i64 kd,.string ⟨k.toArray⟩,.string ⟨#[]⟩,.int .i64 0,.slice none 0 0,.int .i64 (pl:Nat)] 64) none;exact⟨this.os,this.tape,this.output,this.size,this.block⟩
 obtain⟨w2,hw2⟩:=zN (w1.drew.alloc (.cells #[.int .i64 kd,.string ⟨k.toArray⟩,.string ⟨#[]⟩,.int .i64 0,.slice none 0 0,.int .i64 (pl:Nat)] 64));rw[hw2]at hg hgE;have hg':w2.grownBy w3 (some N):=hg;have h2:=h.keeps (nG hgE);obtain⟨cN,lV⟩:=h2.rowT;have hB1:=Nat.le_of_lt (Nat.lt_of_le_of_lt h.bT (aB h.blk));have hB2:=Nat.le_trans hB1 hgE.size;have UM:=(hg'.block T (aB h2.blk) (by simp only[ne_eq,Option.some.injEq];exact aO h2.blk lV (by decide))).trans h2.blk;have hK2:w2.heap[K]?=_:=(hgE.block K (aB hK) (by simp)).trans hK;have hK3:w3.heap[K]?=_:=(hg'.block K (aB hK2) (by simp only[ne_eq,Option.some.injEq];exact aO hK2 lV (by decide))).trans hK2;refine⟨g,cap,_,_,h2.push (L:=ns.length+1) ⟨kd,k,[],0,[],pl⟩ rfl rfl ho hg',?_,(heap_setCell_other _ _ _ _ (aO hK3 UM (by decide))).trans hK3⟩;exact((hf.two (Fr.gb hgE hB1)).two (Fr.row hg' hB2 (bH h2.row rfl).1 lV (Or.inr (Or.inl rfl)))).two (Fr.row (iL w3 T 0 _) (Nat.le_trans hB2 hg'.size) h2.bT UM (Or.inl rfl))
theorem acy{w w1 w3:World}{B T:Nat}{ns:List Tn}{x:Tn}{now N c M m p:Nat}{xs ys:List Value}{ks:Nat->Value}{n:Nat}{f:Nat->List UInt8->Option (Nat × Bool)}{k:List UInt8}{pl K g cap m4:Nat}{o4:Option Addr}{hpl:p<(ns++[x]).length}
  (hp:p<ns.length) (h:TrD w1 B T (ns++[x]) now N c M xs ks n f) (hf:Fr B w w1) (hK:w1.heap[K]?=some (.cells #[.string ⟨k.toArray⟩,.int .i64 (pl:Nat)] 213 (0,0))) (hv:ks p=.slice o4 m m4) (hm:((ns++[x])[p]'hpl).ks.length=m) (hys:(((ns++[x])[p]'hpl).ks.map fun q=>Value.int .i64 (q:Nat))=ys)
  (ho:w3.ownsRow B 3 1 (.slice (some ⟨g,0,none⟩) (m+1) cap) (m+1) (ys++[.int .i64 (ns.length:Nat)]))
  (hg:(w1.drew.alloc (.cells #[.int .i64 (ns.length:Nat)] 3)).grownBy w3 (Value.slice o4 m m4).ownBlock) (hat:(Value.slice o4 m m4).ownBlock=some g\/g=(w1.drew.alloc (.cells #[.int .i64 (ns.length:Nat)] 3)).heap.size) :
  ∃(g' cap':Nat) (xs':List Value) (ks':Nat->Value),TrD (w3.setCell ⟨N,p*6+4,none⟩ (.slice (some ⟨g,0,none⟩) (m+1) cap)) B T (addN ns p x) now g' cap' M xs' ks' n f/\Fr B w (w3.setCell ⟨N,p*6+4,none⟩ (.slice (some ⟨g,0,none⟩) (m+1) cap))/\(w3.setCell ⟨N,p*6+4,none⟩ (.slice (some ⟨g,0,none⟩) (m+1) cap)).heap[K]?=some (.cells #[.string ⟨k.toArray⟩,.int .i64 (pl:Nat)] 213 (0,0)):=by
 have hgE:w1.grownBy (w1.drew.alloc (.cells #[.int .i64 (ns.length:Nat)] 3)) none:=by
  have:=World.grownBy_alloc w1.drew (.cells #[.int .i64 (ns.length:Nat)] 3) none;exact⟨this.os,this.tape,this.output,this.size,this.block⟩
 obtain⟨w2,hw2⟩:=zN (w1.drew.alloc (.cells #[.int .i64 (ns.length:Nat)] 3));rw[hw2]at hg hgE hat;rw[<-hv]at hg hat;have h2:=h.keeps (nG hgE);obtain⟨cN,lV⟩:=h2.rowT;have hB1:=Nat.le_of_lt (Nat.lt_of_le_of_lt h.bT (aB h.blk));have hB2:=Nat.le_trans hB1 hgE.size;have hne:∀(b:Nat) (cs:Array Value) (t:TypeId) (fz:Nat × Nat),w2.heap[b]?=some (.cells cs t fz)->¬t=3->w3.heap[b]?=w2.heap[b]?:=fun b cs t fz hb ht=>hg.block b (aB hb) (fun e=>by
  obtain⟨cc,hcc⟩:=h2.kidOwn hpl e.symm;exact aO hb hcc ht rfl)
 have hK2:w2.heap[K]?=_:=(hgE.block K (aB hK) (by simp)).trans hK;have hK3:w3.heap[K]?=_:=(hne _ _ _ _ hK2 (by decide)).trans hK2;have hN3:w3.heap[N]?=_:=(hne _ _ _ _ lV (by decide)).trans lV;have h3:=h2.kidp (L:=m+1) p hpl ns.length (by rw[hm]) (by rw[hys];exact ho) hg (by rcases hat with e|e;exact Or.inl e;exact Or.inr (by omega));rw[UL ns p x hp hpl]at h3;refine⟨_,_,_,_,h3,?_,(heap_setCell_other _ _ _ _ (aO hK3 hN3 (by decide))).trans hK3⟩;have f2:Fr B w2 w3:=by
  cases hb:(ks p).ownBlock with
  | none=>rw[hb]at hg;exact Fr.gb hg hB2
  | some q =>
   rw[hb]at hg;obtain⟨hq,cc,hcc⟩:=bH (h2.kid p hpl) hb;exact Fr.row hg hB2 hq hcc (Or.inr (Or.inr rfl))
 exact((hf.two (Fr.gb hgE hB1)).two f2).two (Fr.row (iL w3 N _ _) (Nat.le_trans hB2 hg.size) (bH h2.row rfl).1 hN3 (Or.inr (Or.inl rfl)))
theorem Am(B T:Nat)(ns:List Tn)(own:List Nat)(now p:Nat)(kd:Int)(k:List UInt8)(pl:Nat)(w:World)(h:Tr w B T ns own now)(W:WF ns own)(hp:p<ns.length)(hfree:ak ns p=0->ah ns p k=none)(hsz:ns.length+own.length<=1000000)(hk:k.length<=1048576) :
  Calls prog 196 #[.pointer (some ⟨T,0,none⟩),.int .i64 (p:Nat),.int .i64 kd,.agg #[.string ⟨k.toArray⟩,.int .i64 (pl:Nat)]] w (acw B T ns own now p ⟨kd,k,[],0,[],pl⟩ w):=by
 obtain⟨N,c,M,xs,ks,hD⟩:=h;obtain⟨i0,hi0,hii⟩:=Option.map_eq_some_iff.1 UI;simp only[Prod.mk.injEq]at hii;obtain⟨hz0,hz1,hzb⟩:=hii;obtain⟨j0,hj0,hjj⟩:=Option.map_eq_some_iff.1 MS;simp only[Prod.mk.injEq]at hjj;obtain⟨hy0,hy1,hyb⟩:=hjj;have hone:=UJ ⟨kd,k,[],0,[],pl⟩;simp only[]at hone;have DC:=UK ns.length;obtain⟨K,jd⟩:=zN (w.heap.size);have fA:w.grownBy (w.alloc (.cells #[.string ⟨k.toArray⟩,.int .i64 (pl:Nat)] 213)) none:=World.grownBy_alloc w _ none;have bV:=heap_alloc_new w (.cells #[.string ⟨k.toArray⟩,.int .i64 (pl:Nat)] 213);have qw:(w.alloc (.cells #[.string ⟨k.toArray⟩,.int .i64 (pl:Nat)] 213)).heap.size=K+1:=by rw[World.size_alloc,jd]
 rw[jd]at bV;have hD1:=hD.keeps (nG fA);have hBs:=Nat.le_of_lt (Nat.lt_of_le_of_lt hD.bT (aB hD.blk));have jF:=ae (Fr.gb fA hBs);obtain⟨w1,hw1⟩:=zN (w.alloc (.cells #[.string ⟨k.toArray⟩,.int .i64 (pl:Nat)] 213));rw[hw1]at bV qw hD1 jF;have hrow:=hD1.row;obtain⟨cN,lV⟩:=hD1.rowT;have vg:Hd (some T≠(Value.slice (some ⟨N,0,none⟩) ns.length c).ownBlock):=by
  show some T≠some N;simp only[ne_eq,Option.some.injEq];exact aO hD1.blk lV (by decide)
 have d1:=hD1.cells.1;have dA:(w1.alloc (.cells #[.int .i64 kd,.string ⟨k.toArray⟩,.string ⟨#[]⟩,.int .i64 0,.slice none 0 0,.int .i64 (pl:Nat)] 64)).cell? ⟨T,0,none⟩=some (.slice (some ⟨N,0,none⟩) ns.length c):=(World.grownBy_alloc w1 _ none).cell d1 (by simp);have DD:=ae hD1.blk;have HFK:Hd (some K≠(Value.slice (some ⟨N,0,none⟩) ns.length c).ownBlock):=by
  show some K≠some N;simp only[ne_eq,Option.some.injEq];exact aO bV lV (by decide)
 have k1:w1.cell? ⟨K,0,none⟩=some (.string ⟨k.toArray⟩):=by rw[ag bV];rfl
 have k2:w1.cell? ⟨K,1,none⟩=some (.int .i64 (pl:Nat)):=by rw[ag bV];rfl
 have HD1:=ae hD1;have lg:=ae bV;have HW:=ae W;have dY:Hd ((w1.drew.alloc (.cells #[.int .i64 kd,.string ⟨k.toArray⟩,.string ⟨#[]⟩,.int .i64 0,.slice none 0 0,.int .i64 (pl:Nat)] 64)).heap[K+1]?=some (.cells #[.int .i64 kd,.string ⟨k.toArray⟩,.string ⟨#[]⟩,.int .i64 0,.slice none 0 0,.int .i64 (pl:Nat)] 64 (0,0))):=by
  have:=heap_alloc_new w1.drew (.cells #[.int .i64 kd,.string ⟨k.toArray⟩,.string ⟨#[]⟩,.int .i64 0,.slice none 0 0,.int .i64 (pl:Nat)] 64);rw[show w1.drew.heap.size=K+1 from qw]at this;exact this
 have acz:=ae hfree;have HP:=ae hp;clear hD fA bV hD1 lV W hfree;go_enter func196,ntmps196;go_upto_region 2 with fail
 go_cut [] from 15 (fun wx=>∃(g cap:Nat) (xs':List Value) (ks':Nat->Value),TrD wx B T (ns++[⟨kd,k,[],0,[],pl⟩]) now g cap M xs' ks' (ns.length+own.length) (hold ns own)/\Fr B w wx/\wx.heap[K]?=some (.cells #[.string ⟨k.toArray⟩,.int .i64 (pl:Nat)] 213 (0,0)))
 case first =>
  go_region_law (refine step_append_lies _ (by rfl) _ _ _ (by rfl) B 64 i0 _ 6 80 underlying54 hi0 hz0 hz1 hzb (by rfl) (by decide) (.slice (some ⟨N,0,none⟩) ns.length c) ns.length xs (by rfl) (hrow.drew.alloc _) ⟨K+1,0,none⟩ 1 1 [.int .i64 kd,.string ⟨k.toArray⟩,.string ⟨#[]⟩,.int .i64 0,.slice none 0 0,.int .i64 (pl:Nat)] (by rfl) (by rfl) (World.news_of_block dY.o) hone (by omega) (by unfold maxLen;omega) (by omega) (by simp;omega) _ rfl ?_;intro g cap w3 hown3 hgrow hat hlt3;have hc3:=nH d1 hgrow vg.o;have o8:w3.frozen? ⟨T,0,none⟩=false:=rH DD.o hgrow vg.o)
  all_goals (
   go_wp2_with fail;go_meet;exact acx HD1.o jF.o lg.o hown3 hgrow)
 case rest =>
  obtain⟨N1,c1,xs1,ks1,hD2,hF2,hb2⟩:=hcut;obtain⟨L,hL⟩:=zN ((ns++[(⟨kd,k,[],0,[],pl⟩:Tn)]).length);have hpl:p<(ns++[(⟨kd,k,[],0,[],pl⟩:Tn)]).length:=by simp;omega
  have hpL:p<L:=by omega
  have d1':=hD2.cells.1;have mJ:=hD2.kid p hpl;obtain⟨o4,m4,hv4⟩:=mG mJ;obtain⟨-,-,-,-,e4,-,ef⟩:=hD2.node p hpl;obtain⟨cN1,hcN1⟩:=hD2.rowT;rw[hv4]at e4 mJ;have hm4:((ns++[(⟨kd,k,[],0,[],pl⟩:Tn)])[p]'hpl).ks.length<=1000000:=by
   have:=HW.o.len p;unfold af at this;rw[List.getElem?_eq_getElem HP.o]at this;simp only[]at this;rw[List.getElem_append_left HP.o];omega
  obtain⟨m,hm⟩:=zN (((ns++[(⟨kd,k,[],0,[],pl⟩:Tn)])[p]'hpl).ks.length);rw[hm]at hm4 hv4 e4 mJ;rw[hL]at d1';obtain⟨ys,hys⟩:∃ys:List Value,(((ns++[(⟨kd,k,[],0,[],pl⟩:Tn)])[p]'hpl).ks.map fun q=>Value.int .i64 (q:Nat))=ys:=⟨_,rfl⟩;rw[hys]at mJ;have bi:Hd (some T≠(Value.slice o4 m m4).ownBlock):=by
   show _≠_;intro e;obtain⟨cc,hcc⟩:=(bH mJ e.symm).2;exact aO hD2.blk hcc (by decide) rfl
  have iI:Hd (some N1≠(Value.slice o4 m m4).ownBlock):=by
   show _≠_;intro e;obtain⟨cc,hcc⟩:=(bH mJ e.symm).2;exact aO hcN1 hcc (by decide) rfl
  have e4A:(wc.alloc (.cells #[.int .i64 (ns.length:Nat)] 3)).cell? ⟨N1,p*6+4,none⟩=some (.slice o4 m m4):=(World.grownBy_alloc wc _ none).cell e4 (by simp);have d1A:(wc.alloc (.cells #[.int .i64 (ns.length:Nat)] 3)).cell? ⟨T,0,none⟩=some (.slice (some ⟨N1,0,none⟩) L c1):=(World.grownBy_alloc wc _ none).cell d1' (by simp);obtain⟨Z,hZ⟩:=zN (wc.heap.size);have hBZ:=Nat.le_of_lt (Nat.lt_of_le_of_lt hD2.bT (aB hD2.blk));have qh:Hd ((wc.drew.alloc (.cells #[.int .i64 (ns.length:Nat)] 3)).heap[Z]?=some (.cells #[.int .i64 (ns.length:Nat)] 3 (0,0))):=by
   have:=heap_alloc_new wc.drew (.cells #[.int .i64 (ns.length:Nat)] 3);rw[show wc.drew.heap.size=Z from hZ]at this;exact this
  have kR:=ae hcN1;have HD2:=ae hD2;have HF2:=ae hF2;have HB2:=ae hb2;have uf:=ae hv4;have nI:=ae hm;have lN:=ae hys;have lS:=ae hpl;have kQ:=ae hL;clear hD2 hF2 hb2 hcN1 hv4 hm hys hL;go_upto_region 3 with fail
  go_cut [] from 30 (fun wx=>∃(g cap:Nat) (xs':List Value) (ks':Nat->Value),TrD wx B T (addN ns p ⟨kd,k,[],0,[],pl⟩) now g cap M xs' ks' (ns.length+own.length) (hold ns own)/\Fr B w wx/\wx.heap[K]?=some (.cells #[.string ⟨k.toArray⟩,.int .i64 (pl:Nat)] 213 (0,0)))
  case first =>
   go_region_law (refine step_append_lies _ (by rfl) _ _ _ (by rfl) B 3 j0 _ 1 8 underlying43 hj0 hy0 hy1 hyb (by rfl) (by decide) (.slice o4 m m4) m ys (by rfl) (mJ.drew.alloc _) ⟨Z,0,none⟩ 1 1 [.int .i64 (ns.length:Nat)] (by rfl) (by rfl) (World.news_of_block qh.o) DC (by omega) (by unfold maxLen;omega) (by omega) (by simp;omega) _ rfl ?_;intro g cap w3 hown3 hgrow hat hlt3;have hc3:=nH e4 hgrow iI.o;have o8:w3.frozen? ⟨N1,p*6+4,none⟩=false:=rH kR.o hgrow iI.o;have acA:=nH d1' hgrow bi.o)
   all_goals (
    go_wp2_with fail;go_meet;exact acy HP.o HD2.o HF2.o HB2.o uf.o nI.o lN.o hown3 hgrow hat)
  case rest =>
   obtain⟨N2,c2,xs2,ks2,hD3,hF3,hb3⟩:=hcut;have hp3:p<(addN ns p ⟨kd,k,[],0,[],pl⟩).length:=by rw[bY];omega
   obtain⟨t0,t1,-,-⟩:=hD3.cells;obtain⟨n0,-,-,-,-,-,-⟩:=hD3.node p hp3;have kk:wc.cell? ⟨K,0,none⟩=some (.string ⟨k.toArray⟩):=by rw[ag hb3];rfl
   have hkd:((addN ns p ⟨kd,k,[],0,[],pl⟩)[p]'hp3).kd=ak ns p:=by
    have h1:=fF ns p ⟨kd,k,[],0,[],pl⟩ HP.o p;rw[if_neg (by have:=HP.o;omega)]at h1;rw[<-h1];unfold ak;rw[List.getElem?_eq_getElem hp3]
   rw[hkd]at n0;obtain⟨z,hz⟩:=zN (ak ns p);obtain⟨L3,hL3⟩:=zN ((addN ns p ⟨kd,k,[],0,[],pl⟩).length);have ajv:p<L3:=by omega
   rw[hL3]at t0;rw[hz]at n0;have HF3:=ae hF3;have HD3:=ae hD3;have hBc:=Nat.le_of_lt (Nat.lt_of_le_of_lt hD3.bT (aB hD3.blk));obtain⟨w5,lu,UN,hg5⟩:=(hD3.map.block (w':=wc.drew) rfl).put p k (by omega) hk (by omega) ns.length false;unfold oW at lu;have H5:=ae UN;have iK:=ae hg5;have HZ:=ae hz;have rJ:Hd ((addN ns p ⟨kd,k,[],0,[],pl⟩).length=ns.length+1):=bY _ _ _;clear hD3 hF3 hb3 hkd hL3 hz UN hg5 hp3
   by_cases hz0:z=0
   ·have hb:(z == 0)=true:=by simp[hz0]
    have HZ0:=ae (HZ.o.trans hz0);clear hz0;go_wp2
    go_region
    all_goals (
     go_wp2;refine bodyPost_ret (results_tmp (t:=8) rfl _ _ _) rfl ⟨rfl,⟨N2,c2,M,xs2,ks2,?_⟩,?_⟩
     ·rw[aaI ns own p ⟨kd,k,[],0,[],pl⟩ rfl HP.o HW.o HZ0.o (acz.o HZ0.o),rJ.o];have h1:=(HD3.o.keeps (w':=wc.drew) (nG ⟨rfl,rfl,rfl,Nat.le_refl _,fun _ _ _=>rfl⟩)).mapd H5.o iK.o;exact⟨h1.blk,h1.bT,h1.row,h1.cel,h1.kid,h1.apart,h1.map.mono (by omega),h1.bM⟩
     ·obtain⟨es,cc,hm0⟩:=HD3.o.map.map;exact(HF3.o.two (Fr.gb (w':=wc.drew) ⟨rfl,rfl,rfl,Nat.le_refl _,fun _ _ _=>rfl⟩ hBc)).two (Fr.mapd iK.o hBc HD3.o.bM hm0))
   ·have hb:(z == 0)=false:=by simp[hz0]
    have HZ0:Hd (¬ak ns p=0):=by show ¬_;rw[HZ.o];exact hz0
    clear hz0;go_wp2;refine bodyPost_ret (results_tmp (t:=8) rfl _ _ _) rfl ⟨rfl,⟨N2,c2,M,xs2,ks2,?_⟩,HF3.o⟩;have h1:=HD3.o;rw[aaJ ns own p ⟨kd,k,[],0,[],pl⟩ rfl HP.o HW.o HZ0.o,rJ.o];exact⟨h1.blk,h1.bT,h1.row,h1.cel,h1.kid,h1.apart,h1.map.mono (by omega),h1.bM⟩
open Go.RowKit Go.Maps Go.WideMaps Go.Joins
theorem UO(ns:List Tn)(own:List Nat)(t:Nat)(k:List UInt8)(h0:ak ns t=0):hold ns own t k=(ah ns t k).map fun q=>(q,decide (q∈own)):=by unfold hold;rw[if_pos h0]
theorem yR{w w':World}{E:Int->TypeId × Value}(h:Es w E)(hg:w.grownBy w' none):Es w' E:=⟨hg.cell h.te (by simp),hg.cell h.ra (by simp),hg.cell h.ma (by simp),hg.cell h.tw (by simp)⟩
theorem qx(w:World)(o:Obj):w.grownBy (w.alloc o).drew none:=by
 have:=World.grownBy_alloc w o none;exact⟨this.os,this.tape,this.output,this.size,this.block⟩
def acB(E:Int->TypeId × Value)(r:Option Nat)(pl:Nat)(w:World)(e:Ending)(w':World):Prop:=(r=none->e=.returned .nilIface)/\(∀q,r=some q->∃v,e=.returned v/\dF w' v E 5 pl)/\w.grownBy w' none
theorem acC(B T:Nat)(ns:List Tn)(own:List Nat)(now:Nat)(E:Int->TypeId × Value)(k:List UInt8)(pl:Nat)(w:World)(h:Tr w B T ns own now)(h0:ak ns now=0)(hnw:now<=1000000)(hk:k.length<=1048576)(he:Es w E) :
  Calls prog 153 #[.pointer (some ⟨T,0,none⟩),.agg #[.string ⟨k.toArray⟩,.int .i64 (pl:Nat)]] w (acB E (ah ns now k) pl w):=by
 obtain⟨N,c,M,xs,ks,hD⟩:=h;have CW:Hd (∀w,Calls prog 195 #[.iface (E 5).1 (E 5).2,.int .i64 (pl:Nat)] w fun e w'=>(∃v,e=.returned v/\FaultV w' v pl (E 5).1 (E 5).2)/\w.grownBy w' none):=fun w=>tC pl _ _ w
 have fA:w.grownBy (w.alloc (.cells #[.string ⟨k.toArray⟩,.int .i64 (pl:Nat)] 213)) none:=World.grownBy_alloc w _ none;have bV:=heap_alloc_new w (.cells #[.string ⟨k.toArray⟩,.int .i64 (pl:Nat)] 213);obtain⟨K,jd⟩:=zN (w.heap.size);rw[jd]at bV;have hD1:=hD.keeps (nG fA);have he1:=yR he fA;obtain⟨w1,hw1⟩:=zN (w.alloc (.cells #[.string ⟨k.toArray⟩,.int .i64 (pl:Nat)] 213));rw[hw1]at bV hD1 fA he1;obtain⟨-,t1,t2,-⟩:=hD1.cells;have k0:w1.cell? ⟨K,0,none⟩=some (.string ⟨k.toArray⟩):=by rw[ag bV];rfl
 have k1:w1.cell? ⟨K,1,none⟩=some (.int .i64 (pl:Nat)):=by rw[ag bV];rfl
 have gA:w1.grownBy (w1.alloc (.cells #[.int .i64 0,.bool false] 265)) none:=World.grownBy_alloc w1 _ none;have t1A:=gA.cell t1 (by simp);have t2A:=gA.cell t2 (by simp);have k0A:=gA.cell k0 (by simp);have hl:∀W:World,W.heap[M]?=w1.heap[M]?->(Instr.lookup 127 (.map (some M)) (oW now k) true).run prog W=.ok (match hold ns own now k with|some v=>.tuple #[.agg #[.int .i64 (v.1:Nat),.bool v.2],.bool true]|none=>.tuple #[.agg #[.int .i64 0,.bool false],.bool false]) W:=fun W hW=>(hD1.map.block hW).look now k (by omega) hk
 obtain⟨es,cc,hm0⟩:=hD1.map.map;have l1:=hl w1.drew rfl;have l2:=hl (w1.alloc (.cells #[.int .i64 0,.bool false] 265)).drew ((gA.block M (aB hm0) (by simp)));rw[UO ns own now k h0]at l1 l2;unfold oW at l1 l2;have ax:=ae fA;have jC:=ae he1;have dV:Hd (∀w' v,FaultV w' v pl (E 5).1 (E 5).2->dF w' v E 5 pl):=fun _ _ h=>h
 obtain⟨ty,hty⟩:=zN ((E 5).1);obtain⟨pv,hpv⟩:=zN ((E 5).2);have tw1:=he1.tw;rw[hty,hpv]at CW dV tw1;clear hD bV hD1 fA he1 he hl hm0 hty hpv gA
 cases hq:ah ns now k with
 | none =>
  rw[hq]at l1 l2;simp only[Option.map_none]at l1 l2;clear hq;go_enter func153,ntmps153;go_wp2
  go_region
  all_goals (
   go_wp2;exact bodyPost_ret (results_tmp (t:=4) rfl _ _ _) rfl ⟨fun _=>rfl,fun q hh=>(by cases hh),ai ax.o (qx w1 _)⟩)
 | some q =>
  rw[hq]at l1 l2;simp only[Option.map_some]at l1 l2;have gB:w1.grownBy (w1.alloc (.cells #[.int .i64 (q:Nat),.bool (decide (q∈own))] 265)) none:=World.grownBy_alloc w1 _ none;have twB:=gB.cell tw1 (by simp);have k1B:=gB.cell k1 (by simp);clear hq gB;generalize decide (q∈own)=bb at l1 l2 twB k1B;go_enter func153,ntmps153;go_wp2
  go_region
  all_goals (
   go_wp2_with (go_at_call 195;refine(CW.o _).mono ?_;rintro e w3 ⟨⟨v,rfl,hv⟩,hg3⟩);exact bodyPost_ret (results_tmp (t:=4) rfl _ _ _) rfl ⟨fun hh=>(by cases hh),fun q hh=>⟨v,rfl,dV.o _ _ hv⟩,ai (ai ax.o (qx w1 _)) hg3⟩)
open Go.RowKit Go.Maps Go.WideMaps Go.Joins
def acD(B T:Nat)(own:List Nat)(now:Nat)(E:Int->TypeId × Value)(r:Rs (Nat × List Tn))(w:World)(e:Ending)(w':World):Prop :=
 (∀t ns,r=.ok (t,ns)->e=.returned (.tuple #[.int .i64 (t:Nat),.nilIface])/\Tr w' B T ns own now)/\(∀c p,r=.error (c,p)->∃v,e=.returned (.tuple #[.int .i64 0,v])/\dF w' v E c p)/\Fr B w w'
theorem MW{ns:List Tn}{own:List Nat}(W:WF ns own){t q:Nat}{k:List UInt8}(h:ah ns t k=some q):q<ns.length:=W.lt _ _ (rq h).1
theorem Tr.gb{w w':World}{B T:Nat}{ns:List Tn}{own:List Nat}{now:Nat}(h:Tr w B T ns own now)(hg:w.grownBy w' none):Tr w' B T ns own now:=by
 obtain⟨N,c,M,xs,ks,hD⟩:=h;exact⟨N,c,M,xs,ks,hD.keeps (nG hg)⟩
theorem Tr.base{w:World}{B T:Nat}{ns:List Tn}{own:List Nat}{now:Nat}(h:Tr w B T ns own now):B<=w.heap.size:=by
 obtain⟨N,c,M,xs,ks,hD⟩:=h;exact Nat.le_of_lt (Nat.lt_of_le_of_lt hD.bT (aB hD.blk))
theorem iG{w:World}{b:Nat}{v0 v1:Value}{t:TypeId}(h:w.heap[b]?=some (.cells #[v0,v1] t (0,0))):w.cell? ⟨b,0,none⟩=some v0/\w.cell? ⟨b,1,none⟩=some v1/\∀i,w.frozen? ⟨b,i,none⟩=false :=
 ⟨by rw[ag h];rfl,by rw[ag h];rfl,fun i=>Lib.frozen_of_heap h i⟩
theorem acE{w:World}{b:Nat}{v0 v1 v2 v3 v4 v5:Value}{t:TypeId}(h:w.heap[b]?=some (.cells #[v0,v1,v2,v3,v4,v5] t (0,0))):w.cell? ⟨b,0,none⟩=some v0/\w.cell? ⟨b,4,none⟩=some v4 :=
 ⟨by rw[ag h];rfl,by rw[ag h];rfl⟩
theorem jG{w w':World}{b:Nat}{o:Obj}(h:w.heap[b]?=some o)(hg:w.grownBy w' none):w'.heap[b]?=some o:=(hg.block b (aB h) (by simp)).trans h
theorem Ap{w1:World}{B T:Nat}{ns:List Tn}{now N c M:Nat}{xs:List Value}{ks:Nat->Value}{n:Nat}{own:List Nat}(hD1:TrD w1 B T ns now N c M xs ks n (hold ns own))(t:Nat)(k:List UInt8)(h0:ak ns t=0)(ht:t<4611686018427387904)(hk:k.length<=1048576)(W:World)(hW:w1.grownBy W none) :
  (Instr.lookup 127 (.map (some M)) (.agg #[.int .i64 (t:Nat),.string ⟨k.toArray⟩]) true).run prog W=.ok (match ah ns t k with|some q=>.tuple #[.agg #[.int .i64 (q:Nat),.bool (decide (q∈own))],.bool true]|none=>.tuple #[.agg #[.int .i64 0,.bool false],.bool false]) W:=by
 obtain⟨es,cc,hm0⟩:=hD1.map.map;have h1:=(hD1.map.block (hW.block M (aB hm0) (by simp))).look t k ht hk;rw[UO ns own t k h0]at h1;unfold oW at h1
 cases hq:ah ns t k with
 | none=>rw[hq]at h1;exact h1
 | some q=>rw[hq]at h1;exact h1
theorem UQ(j:Nat)(h:j<=1000000):wrap64 (j:Int)=(j:Int):=by
 unfold wrap64;omega
theorem lw(w:World):w.grownBy w.drew none:=⟨rfl,rfl,rfl,Nat.le_refl _,fun _ _ _=>rfl⟩
theorem acF(B T:Nat)(ns:List Tn)(own:List Nat)(now t:Nat)(E:Int->TypeId × Value)(k:List UInt8)(pl:Nat)(w:World)(h:Tr w B T ns own now)(W:WF ns own)(WW:WT ns)(ht:t<ns.length)(h0:ak ns t=0)(hsz:ns.length+own.length<=1000000)(hk:k.length<=1048576)(he:Es w E) :
  Calls prog 190 #[.pointer (some ⟨T,0,none⟩),.int .i64 (t:Nat),.agg #[.string ⟨k.toArray⟩,.int .i64 (pl:Nat)]] w (acD B T own now E (gz ns t k pl) w):=by
 have CW:Hd (∀w,Calls prog 195 #[.iface (E 5).1 (E 5).2,.int .i64 (pl:Nat)] w fun e w'=>(∃v,e=.returned v/\FaultV w' v pl (E 5).1 (E 5).2)/\w.grownBy w' none):=fun w=>tC pl _ _ w
 have CA:=ae (fun(hn:ah ns t k=none) w' (hg:w.grownBy w' none)=>Am B T ns own now t 0 k pl w' (h.gb hg) W ht (fun _=>hn) hsz hk);have jr:Hd (gz ns t k pl=match ah ns t k with|none=>.ok (ns.length,addN ns t ⟨0,k,[],0,[],pl⟩)|some q=>if ak ns q=0 then .ok (q,ns) else if ak ns q=2 then(match ns[q]? with|some u=>.ok (u.ks.getLastD 0,ns)|none=>.error (5,pl)) else .error (5,pl)):=rfl;have Aq:=ae (fun q (hq:ah ns t k=some q)=>MW W hq);have rC:=ae W.len;have nJ:=ae h;have hB:=h.base;obtain⟨N,c,M,xs,ks,hD⟩:=h;have fA:w.grownBy (w.alloc (.cells #[.string ⟨k.toArray⟩,.int .i64 (pl:Nat)] 213)) none:=World.grownBy_alloc w _ none;have bV:=heap_alloc_new w (.cells #[.string ⟨k.toArray⟩,.int .i64 (pl:Nat)] 213);obtain⟨K,jd⟩:=zN (w.heap.size);rw[jd]at bV;have hD1:=hD.keeps (nG fA);have he1:=yR he fA;obtain⟨w1,hw1⟩:=zN (w.alloc (.cells #[.string ⟨k.toArray⟩,.int .i64 (pl:Nat)] 213))
 rw[hw1]at bV hD1 fA he1;obtain⟨-,t1,-,-⟩:=hD1.cells;have k0:=(iG bV).1;have gA:w1.grownBy (w1.alloc (.cells #[.int .i64 0,.bool false] 265)) none:=World.grownBy_alloc w1 _ none;have t1A:=gA.cell t1 (by simp);have k0A:=gA.cell k0 (by simp);have l1:=Ap hD1 t k h0 (by omega) hk w1.drew (lw w1);have l2:=Ap hD1 t k h0 (by omega) hk (w1.alloc (.cells #[.int .i64 0,.bool false] 265)).drew (qx w1 _);have ax:=ae fA;have jC:=ae he1;have lg:=ae bV;have HD1:=ae hD1;have HWW:=ae WW;have dV:Hd (∀w' v,FaultV w' v pl (E 5).1 (E 5).2->dF w' v E 5 pl):=fun _ _ h=>h
 have ug:=ae (fun w' (hg:w1.grownBy w' none)=>(yR he1 hg).tw);obtain⟨ty,hty⟩:=zN ((E 5).1);obtain⟨pv,hpv⟩:=zN ((E 5).2);rw[hty,hpv]at CW dV ug;obtain⟨S,hS⟩:=zN (gz ns t k pl);rw[hS]at jr ⊢;clear hD bV hD1 fA he1 he hty hpv gA hS W WW
 cases hq:ah ns t k with
 | none =>
  have az:Hd (S=.ok (ns.length,addN ns t ⟨0,k,[],0,[],pl⟩)):=by show S=_;rw[jr.o,hq]
  have Ah:=CA.o hq;have DF:=ae Ah;rw[hq]at l1 l2;clear hq Ah;simp only[]at l1 l2;go_enter func190,ntmps190;go_upto_region 1 with fail
  go_cut [8,9] from 11 (fun v8 v9 wx=>v9=.bool false/\w1.grownBy wx none)
  case first =>
   go_region
   all_goals (
    go_wp2_with fail;go_meet;exact⟨rfl,qx w1 _⟩)
  case rest =>
   obtain⟨rfl,hgc⟩:=hcut;have bf:=ae (ai ax.o hgc);have hbk:=jG lg.o hgc;obtain⟨kc0,kc1,-⟩:=iG hbk;clear hgc hbk t1 k0 t1A k0A l1 l2;go_wp2_with (go_at_call 196;refine(DF.o _ bf.o).mono ?_;rintro e w3 ⟨rfl,ht3,hf3⟩);refine bodyPost_ret (results_tmp2 (t:=6) (u:=7) rfl _ _ _) rfl ?_;rw[az.o];exact⟨fun t' ns' hh=>(by cases hh;exact⟨rfl,ht3⟩),fun c p hh=>(by cases hh),(Fr.gb bf.o hB).two hf3⟩
 | some q =>
  have dU:=Aq.o q hq;obtain⟨x,hx⟩:=zN (ns[q]);have hkx:ak ns q=x.kd:=by unfold ak;rw[List.getElem?_eq_getElem dU,hx]
  have az:Hd (S=if x.kd=0 then .ok (q,ns) else if x.kd=2 then .ok (x.ks.getLastD 0,ns) else .error (5,pl)):=by
   show S=_;rw[jr.o,hq];simp only[hkx,List.getElem?_eq_getElem dU,hx]
  have Ar:Hd (x.kd=2->x.ks≠[]):=fun h2=>by
   have:=(HWW.o q (hkx.trans h2)).1;unfold af at this;rw[List.getElem?_eq_getElem dU,hx]at this;exact this
  have DI:=ae hx;have hxl:x.ks.length<=1000000:=by
   have:=rC.o q;unfold af at this;rw[List.getElem?_eq_getElem dU,hx]at this;simp only[]at this;omega
  have DJ:=ae hxl;clear hxl;rw[hq]at l1 l2;simp only[]at l1 l2;generalize decide (q∈own)=bb at l1 l2;clear hq hx hkx;go_enter func190,ntmps190;go_upto_region 1 with fail
  go_cut [8,9] from 11 (fun v8 v9 wx=>∃H:Nat,v8=.pointer (some ⟨H,0,none⟩)/\wx.heap[H]?=some (.cells #[.int .i64 (q:Nat),.bool bb] 265 (0,0))/\v9=.bool true/\w1.grownBy wx none)
  case first =>
   go_region
   all_goals (
    go_wp2_with fail;go_meet;exact⟨_,rfl,heap_alloc_new w1 _,rfl,qx w1 _⟩)
  case rest =>
   obtain⟨H,rfl,hH,rfl,hgc⟩:=hcut;obtain⟨w2,hw2⟩:∃w2,w2=wc:=⟨_,rfl⟩;subst hw2;have HG2:=ae (ai ax.o hgc);have bf:=ae hgc;have hbk:=jG lg.o hgc;have hD2:=HD1.o.keeps (nG hgc);obtain⟨T0,-,-,-⟩:=hD2.cells;obtain⟨n0,n1,n2,n3,n4,n5,-⟩:=hD2.node q dU;have hkr:=hD2.kid q dU;rw[DI.o]at n0 n1 n2 n3 n5 hkr;obtain⟨o4,m4,hv4⟩:=mG hkr;rw[hv4]at n4 hkr;obtain⟨H0,H1,-⟩:=iG hH;have UR:=ae hkr;have Cm:=ae hH;have HB2:=ae hbk;have gZ:w2.grownBy (w2.alloc (.cells #[.int .i64 0,.string ⟨#[]⟩,.string ⟨#[]⟩,.int .i64 0,.slice none 0 0,.int .i64 0] 64)) none:=World.grownBy_alloc w2 _ none;have T0Z:=gZ.cell T0 (by simp);have n0Z:=gZ.cell n0 (by simp);have n1Z:=gZ.cell n1 (by simp);have n2Z:=gZ.cell n2 (by simp);have n3Z:=gZ.cell n3 (by simp);have n4Z:=gZ.cell n4 (by simp);have n5Z:=gZ.cell n5 (by simp);have H0Z:=gZ.cell H0 (by simp);generalize hkm:x.ks.length=m at n4 n4Z UR
   have yS:=ae hkm;clear hgc hbk hD2 hkr hv4 hH gZ hkm t1 k0 t1A k0A l1 l2;go_upto_region 4 with fail
   go_cut [10] from 29 (fun v10 wx=>∃Z:Nat,v10=.pointer (some ⟨Z,0,none⟩)/\wx.heap[Z]?=some (.cells #[.int .i64 x.kd,.string ⟨x.ky.toArray⟩,.string ⟨x.tx.toArray⟩,.int .i64 x.nu,.slice o4 m m4,.int .i64 (x.pl:Nat)] 64 (0,0))/\w2.grownBy wx none)
   case first =>
    go_region
    all_goals (
     go_wp2_with fail;go_meet;exact⟨_,rfl,heap_alloc_new w2 _,qx w2 _⟩)
   case rest =>
    obtain⟨Z,rfl,hZ,hgc⟩:=hcut;obtain⟨z0,z4⟩:=acE hZ;have aK:=ae (ai HG2.o hgc);obtain⟨H0c,-,-⟩:=iG (jG Cm.o hgc);obtain⟨-,k1c,-⟩:=iG (jG HB2.o hgc);have twc:=ug.o _ (ai bf.o hgc);have hkr:=UR.o.kept hgc (by cases (Value.slice o4 m m4).ownBlock<;>simp);have UT:=ae hkr;clear hZ hgc hkr T0 T0Z n0 n1 n2 n3 n4 n5 n0Z n1Z n2Z n3Z n4Z n5Z H0 H1 H0Z;obtain⟨z,hz⟩:=zN (x.kd);have HZ:=ae hz;rw[hz]at z0;clear hz
    by_cases c0:z=0
    ·have hb0:(z == 0)=true:=by simp[c0]
     have HRR:Hd (S=.ok (q,ns)):=by show S=_;rw[az.o,if_pos (HZ.o.trans c0)]
     clear c0;go_wp2;refine bodyPost_ret (results_tmp2 (t:=6) (u:=7) rfl _ _ _) rfl ?_;rw[HRR.o];exact⟨fun t' ns' hh=>(by cases hh;exact⟨rfl,nJ.o.gb aK.o⟩),fun c p hh=>(by cases hh),Fr.gb aK.o hB⟩
    ·have hb0:(z == 0)=false:=by simp[c0]
     by_cases c2:z=2
     ·have hb2:(z == 2)=true:=by simp[c2]
      have hkn:=Ar.o (HZ.o.trans c2);have HRR:Hd (S=.ok (x.ks.getLastD 0,ns)):=by show S=_;rw[az.o,if_neg (by rw[HZ.o];exact c0),if_pos (HZ.o.trans c2)]
      obtain⟨j,hj⟩:∃j,m=j+1:=⟨m-1,by have:=yS.o;have:=List.length_pos_iff.2 hkn;omega⟩;obtain⟨g,cap,UU,-,-⟩:=UT.o.form (by omega);have hlast:x.ks[j]?=some (x.ks.getLastD 0):=by
       have hl:=yS.o.trans hj;rw[List.getLastD_eq_getLast?,List.getLast?_eq_getElem?,hl];have:x.ks[j+1-1]?=some (x.ks[j]'(by omega)):=List.getElem?_eq_getElem (by omega);rw[this];exact List.getElem?_eq_getElem (by omega)
      have hcl:=UT.o.cells (g:=g) (by rw[UU];rfl) j (.int .i64 ((x.ks.getLastD 0:Nat):Int)) (by rw[List.getElem?_map,hlast];rfl);rw[nC]at hcl;obtain⟨la,hla⟩:=zN (x.ks.getLastD 0);rw[hla]at hcl;have HLA:=ae hla
      cases UU
      subst hj;have hj1:j<=1000000:=by
       have h1:=DJ.o;have h2:=yS.o;omega
      have hwj:=UQ j hj1;have hwk:(wrap64 (j:Int)).toNat=j:=by rw[hwj];exact Int.toNat_natCast j
      clear hj1;clear c0 c2 hkn hlast hla;go_wp2;refine bodyPost_ret (results_tmp2 (t:=6) (u:=7) rfl _ _ _) rfl ?_;rw[HRR.o,HLA.o];exact⟨fun t' ns' hh=>(by cases hh;exact⟨rfl,nJ.o.gb aK.o⟩),fun c p hh=>(by cases hh),Fr.gb aK.o hB⟩
     ·have hb2:(z == 2)=false:=by simp[c2]
      have HRR:Hd (S=.error (5,pl)):=by show S=_;rw[az.o,if_neg (by rw[HZ.o];exact c0),if_neg (by rw[HZ.o];exact c2)]
      clear c0 c2;go_wp2_with (go_at_call 195;refine(CW.o _).mono ?_;rintro e w5 ⟨⟨v,rfl,hv⟩,hg5⟩);refine bodyPost_ret (results_tmp2 (t:=6) (u:=7) rfl _ _ _) rfl ?_;rw[HRR.o];exact⟨fun t' ns' hh=>(by cases hh),fun c p hh=>(by cases hh;exact⟨v,rfl,dV.o _ _ hv⟩),Fr.gb (ai aK.o hg5) hB⟩
open Go.RowKit Go.Maps Go.WideMaps Go.Joins
def UV(B T:Nat)(own:List Nat)(now:Nat)(E:Int->TypeId × Value)(r:Rs (Nat × List Tn))(w:World)(e:Ending)(w':World):Prop :=
 (∀t ns,r=.ok (t,ns)->e=.returned (.tuple #[.int .i64 (t:Nat),.nilIface])/\Tr w' B T ns (t :: own) now)/\(∀c p,r=.error (c,p)->∃v,e=.returned (.tuple #[.int .i64 0,v])/\dF w' v E c p/\∃ns0,Tr w' B T ns0 own now)/\Fr B w w'
theorem H6{w:World}{b:Nat}{cs:Array Value}{t:TypeId}{fz:Nat × Nat}(hb:w.heap[b]?=some (.cells cs t fz))(h1:¬t=129)(h2:¬t=64)(h3:¬t=3)(o:Nat)(v:Value):Hz w (w.setCell ⟨b,o,none⟩ v) :=
 ⟨fun b' cs' t' fz' hb' ht=>heap_setCell_other _ _ _ _ (aO hb' hb (fun e=>by subst e;rcases ht with e|e|e;exact h1 e;exact h2 e;exact h3 e)),fun b' es c hb'=>heap_setCell_other _ _ _ _ (fun e=>qp hb hb' e.symm)⟩
theorem H7{w w1:World}{B b:Nat}(h:Fr B w w1)(hB:B<=w.heap.size)(hb:w.heap.size<=b)(o:Nat)(v:Value):Fr B w (w1.setCell ⟨b,o,none⟩ v) :=
 ⟨⟨h.bel.os,h.bel.tape,h.bel.output,by have:=h.bel.size;simpa [World.setCell] using this,fun k hk=>(heap_setCell_other _ _ _ _ (by simp;omega)).trans (h.bel.block k hk)⟩,fun b' cs t fz hb' h1 h2 h3=>(heap_setCell_other _ _ _ _ (by have:=aB hb';simp;omega)).trans (h.oth b' cs t fz hb' h1 h2 h3)⟩
theorem acG(B T:Nat)(ns:List Tn)(own:List Nat)(now t:Nat)(E:Int->TypeId × Value)(k:List UInt8)(pl:Nat)(w:World)(h:Tr w B T ns own now)(W:WF ns own)(ht:t<ns.length)(h0:ak ns t=0)(hsz:ns.length+own.length<=900000)(hk:k.length<=1048576)(he:Es w E) :
  Calls prog 192 #[.pointer (some ⟨T,0,none⟩),.int .i64 (t:Nat),.agg #[.string ⟨k.toArray⟩,.int .i64 (pl:Nat)]] w (UV B T own now E (gV ns own t k pl) w):=by
 have CW:Hd (∀w,Calls prog 195 #[.iface (E 5).1 (E 5).2,.int .i64 (pl:Nat)] w fun e w'=>(∃v,e=.returned v/\FaultV w' v pl (E 5).1 (E 5).2)/\w.grownBy w' none):=fun w=>tC pl _ _ w
 have CA:=ae (fun(hn:ah ns t k=none) w' (hg:w.grownBy w' none)=>Am B T ns own now t 0 k pl w' (h.gb hg) W ht (fun _=>hn) (by omega) hk);have jr:Hd (gV ns own t k pl=match ah ns t k with|none=>.ok (ns.length,addN ns t ⟨0,k,[],0,[],pl⟩)|some q=>if ak ns q=0/\¬q∈own then .ok (q,ns) else .error (5,pl)):=rfl;have Aq:=ae (fun q (hq:ah ns t k=some q)=>MW W hq);have nJ:=ae h;have uh:=ae W;have hB:=h.base;obtain⟨N,c,M,xs,ks,hD⟩:=h;have fA:w.grownBy (w.alloc (.cells #[.string ⟨k.toArray⟩,.int .i64 (pl:Nat)] 213)) none:=World.grownBy_alloc w _ none;have bV:=heap_alloc_new w (.cells #[.string ⟨k.toArray⟩,.int .i64 (pl:Nat)] 213);obtain⟨K,jd⟩:=zN (w.heap.size);rw[jd]at bV;have qw:(w.alloc (.cells #[.string ⟨k.toArray⟩,.int .i64 (pl:Nat)] 213)).heap.size=K+1:=by rw[World.size_alloc,jd]
 obtain⟨wa,hwa⟩:=zN (w.alloc (.cells #[.string ⟨k.toArray⟩,.int .i64 (pl:Nat)] 213));rw[hwa]at bV fA qw;have H8:wa.grownBy (wa.alloc (.cells #[.int .i64 (t:Nat),.string ⟨k.toArray⟩] 268)) none:=World.grownBy_alloc wa _ none;have hbS:=heap_alloc_new wa (.cells #[.int .i64 (t:Nat),.string ⟨k.toArray⟩] 268);rw[qw]at hbS;obtain⟨S8,hS8⟩:=zN (K+1);rw[hS8]at hbS qw;obtain⟨w1,hw1⟩:=zN (wa.alloc (.cells #[.int .i64 (t:Nat),.string ⟨k.toArray⟩] 268));rw[hw1]at hbS H8;have k0a:=(iG bV).1;have UW:=jG bV H8;have H9:=ai fA H8;have hD1:=hD.keeps (nG H9);have he1:=yR he H9;obtain⟨-,t1,-,-⟩:=hD1.cells;obtain⟨s0,s1,-⟩:=iG hbS;have gA:w1.grownBy (w1.alloc (.cells #[.int .i64 0,.bool false] 265)) none:=World.grownBy_alloc w1 _ none;have t1A:=gA.cell t1 (by simp);have s0A:=gA.cell s0 (by simp);have s1A:=gA.cell s1 (by simp)
 have l1:=Ap hD1 t k h0 (by omega) hk w1.drew (lw w1);have l2:=Ap hD1 t k h0 (by omega) hk (w1.alloc (.cells #[.int .i64 0,.bool false] 265)).drew (qx w1 _);have ax:=ae H9;have lg:=ae UW;have Ae:=ae hbS;have HD1:=ae hD1;have dV:Hd (∀w' v,FaultV w' v pl (E 5).1 (E 5).2->dF w' v E 5 pl):=fun _ _ h=>h
 have ug:=ae (fun w' (hg:w1.grownBy w' none)=>(yR he1 hg).tw);obtain⟨ty,hty⟩:=zN ((E 5).1);obtain⟨pv,hpv⟩:=zN ((E 5).2);rw[hty,hpv]at CW dV ug;obtain⟨S,hS⟩:=zN (gV ns own t k pl);rw[hS]at jr ⊢;clear hD bV UW hbS hD1 fA H8 H9 he1 he hty hpv gA hS W
 cases hq:ah ns t k with
 | none =>
  have az:Hd (S=.ok (ns.length,addN ns t ⟨0,k,[],0,[],pl⟩)):=by show S=_;rw[jr.o,hq]
  have DF:=ae (CA.o hq);have DK:=ae (ru ns own t ⟨0,k,[],0,[],pl⟩ rfl ht uh.o);have yT:Hd (ak (addN ns t ⟨0,k,[],0,[],pl⟩) t=0):=by
   show _=_;rw[fF ns t ⟨0,k,[],0,[],pl⟩ ht,if_neg (by omega)];exact h0
  have jU:Hd (ah (addN ns t ⟨0,k,[],0,[],pl⟩) t k=some ns.length):=by
   show _=_;rw[Lh ns own t ⟨0,k,[],0,[],pl⟩ rfl ht uh.o,if_pos rfl,hq];simp only[if_true]
  have ui:Hd ((addN ns t ⟨0,k,[],0,[],pl⟩).length=ns.length+1):=bY _ _ _;rw[hq]at l1 l2;simp only[]at l1 l2;clear hq;go_enter func192,ntmps192;go_upto_region 2 with fail
  go_cut [9,10] from 15 (fun v9 v10 wx=>∃H:Nat,v9=.pointer (some ⟨H,0,none⟩)/\wx.heap[H]?=some (.cells #[.int .i64 0,.bool false] 265 (0,0))/\v10=.bool false/\w1.grownBy wx none/\w1.heap.size<=H)
  case first =>
   go_region
   all_goals (
    go_wp2_with fail;go_meet;exact⟨_,rfl,heap_alloc_new w1 _,rfl,qx w1 _,Nat.le_refl _⟩)
  case rest =>
   obtain⟨H,rfl,hH,rfl,hgc,hHw⟩:=hcut;have Au:=ae (Nat.le_trans ax.o.size hHw);have bf:=ae (ai ax.o hgc);obtain⟨kc0,kc1,-⟩:=iG (jG lg.o hgc);have rM:=ae hH;have HSc:=ae (jG Ae.o hgc);clear hgc hH hHw t1 t1A s0 s1 s0A s1A k0a l1 l2;go_wp2_with (go_at_call 196;refine(DF.o _ bf.o).mono ?_;rintro e w3 ⟨rfl,ht3,hf3⟩;obtain⟨hh0,hh1,uj⟩:=iG ((hf3.oth _ _ _ _ rM.o (by decide) (by decide) (by decide)).trans rM.o);have UX:=uj 0);obtain⟨N',c',M',xs',ks',hD3⟩:=ht3;have hH3:=(hf3.oth _ _ _ _ rM.o (by decide) (by decide) (by decide)).trans rM.o;have hS3:=(hf3.oth _ _ _ _ HSc.o (by decide) (by decide) (by decide)).trans HSc.o;have Ib:(w3.setCell ⟨H,0,none⟩ (.int .i64 (ns.length:Nat))).heap[H]?=some (.cells #[.int .i64 (ns.length:Nat),.bool false] 265 (0,0)):=block_setCell (i:=0) hH3 _;have hS4:=(heap_setCell_other w3 ⟨H,0,none⟩ S8 (.int .i64 (ns.length:Nat)) (aO hS3 hH3 (by decide))).trans hS3
   have hH7:((w3.setCell ⟨H,0,none⟩ (.int .i64 (ns.length:Nat))).setCell ⟨H,1,none⟩ (.bool true)).heap[H]?=some (.cells #[.int .i64 (ns.length:Nat),.bool true] 265 (0,0)):=block_setCell (i:=1) Ib _;have hS7:=(heap_setCell_other (w3.setCell ⟨H,0,none⟩ (.int .i64 (ns.length:Nat))) ⟨H,1,none⟩ S8 (.bool true) (aO hS4 Ib (by decide))).trans hS4;have hD7:=(hD3.keeps (H6 hH3 (by decide) (by decide) (by decide) 0 (.int .i64 (ns.length:Nat)))).keeps (H6 Ib (by decide) (by decide) (by decide) 1 (.bool true));have yU:=H7 (H7 ((Fr.gb bf.o hB).two hf3) hB Au.o 0 (.int .i64 (ns.length:Nat))) hB Au.o 1 (.bool true);have hln:=ui.o;clear hD3 hH3 hS3 Ib hS4 hf3 hh0 hh1 uj UX;obtain⟨w7,hw7⟩:=zN ((w3.setCell ⟨H,0,none⟩ (.int .i64 (ns.length:Nat))).setCell ⟨H,1,none⟩ (.bool true));rw[hw7]at hD7 hH7 hS7 yU ⊢;obtain⟨w8,Aw,DL,oz⟩:=(hD7.map.block (w':=w7.drew) rfl).put t k (by omega) hk (by omega) ns.length true
   unfold oW at Aw;obtain⟨es,cc,hm0⟩:=hD7.map.map;have DN:=Nat.le_of_lt (Nat.lt_of_le_of_lt hD7.bT (aB hD7.blk));have DR:=(oz.block H (aB (w:=w7.drew) hH7) (by simp only[ne_eq,Option.some.injEq];exact qp hH7 hm0)).trans hH7;obtain⟨-,t17,-,-⟩:=hD7.cells;obtain⟨s0,s1,-⟩:=iG hS7;obtain⟨g0,g1,-⟩:=iG hH7;obtain⟨q0,-,-⟩:=iG DR;have MX:Hd (Tr w8 B T (addN ns t ⟨0,k,[],0,[],pl⟩) (ns.length :: own) now):=by
    refine⟨N',c',M',xs',ks',?_⟩;rw[Sr (addN ns t ⟨0,k,[],0,[],pl⟩) own DK.o t ns.length k yT.o jU.o];have e:=(hD7.keeps (w':=w7.drew) (nG (lw w7))).mapd DL oz;exact⟨e.blk,e.bT,e.row,e.cel,e.kid,e.apart,e.map.mono (by simp;omega),e.bM⟩
   have kN:=ae ((yU.two (Fr.gb (lw w7) DN)).two (Fr.mapd oz DN hD7.bM hm0));clear hD7 hH7 hS7 yU DL oz hm0 DR hw7
   go_region
   all_goals (
    go_wp2;refine bodyPost_ret (results_tmp2 (t:=6) (u:=7) rfl _ _ _) rfl ?_;rw[az.o];exact⟨fun t' ns' hh=>(by cases hh;exact⟨rfl,MX.o⟩),fun c p hh=>(by cases hh),kN.o⟩)
 | some q =>
  have dU:=Aq.o q hq;have DK:=ae uh.o;have yT:=ae h0;have jU:=ae hq;obtain⟨x,hx⟩:=zN (ns[q]);have hkx:ak ns q=x.kd:=by unfold ak;rw[List.getElem?_eq_getElem dU,hx]
  have fC:Hd (S=if x.kd=0/\¬decide (q∈own)=true then .ok (q,ns) else .error (5,pl)):=by
   show S=_;rw[jr.o,hq];simp only[hkx,decide_eq_true_eq]
  have DI:=ae hx;rw[hq]at l1 l2;simp only[]at l1 l2;generalize decide (q∈own)=bb at l1 l2 fC;clear hq hx hkx;go_enter func192,ntmps192;go_upto_region 2 with fail
  go_cut [9,10] from 15 (fun v9 v10 wx=>∃H:Nat,v9=.pointer (some ⟨H,0,none⟩)/\wx.heap[H]?=some (.cells #[.int .i64 (q:Nat),.bool bb] 265 (0,0))/\v10=.bool true/\w1.grownBy wx none/\w1.heap.size<=H)
  case first =>
   go_region
   all_goals (
    go_wp2_with fail;go_meet;exact⟨_,rfl,heap_alloc_new w1 _,rfl,qx w1 _,Nat.le_refl _⟩)
  case rest =>
   obtain⟨H,rfl,hH,rfl,hgc,hHw⟩:=hcut;have Au:=ae (Nat.le_trans ax.o.size hHw);have bf:=ae (ai ax.o hgc);obtain⟨kc0,kc1,-⟩:=iG (jG lg.o hgc);have rM:=ae hH;have HSc:=ae (jG Ae.o hgc);have hDc:=HD1.o.keeps (nG hgc);have HDc:=ae hDc;obtain⟨hh0,hh1,uj⟩:=iG hH;have acH:=uj 1;obtain⟨T0,-,-,-⟩:=hDc.cells;obtain⟨n0,-,-,-,-,-,-⟩:=hDc.node q dU;rw[DI.o]at n0;have twc:=ug.o _ hgc;obtain⟨z,hz⟩:=zN (x.kd);rw[hz]at n0 fC;clear hgc hH hHw hDc uj hz t1 t1A s0 s1 s0A s1A k0a l1 l2
   by_cases hok:z=0/\¬bb=true
   ·have az:Hd (S=.ok (q,ns)):=by show S=_;rw[fC.o,if_pos hok]
    have hbb:bb=false:=by simpa using hok.2
    have hzb:(z != 0)=false:=by simp[hok.1]
    subst hbb;clear hok;go_upto_region 5 with fail
    go_quiet (fail);go_upto_region 8 with fail
    have hH7:((wc.drewN nq).setCell ⟨H,1,none⟩ (.bool true)).heap[H]?=some (.cells #[.int .i64 (q:Nat),.bool true] 265 (0,0)):=block_setCell (i:=1) (w:=wc.drewN nq) rM.o _;have hS7:=(heap_setCell_other (wc.drewN nq) ⟨H,1,none⟩ S8 (.bool true) (aO HSc.o rM.o (by decide))).trans HSc.o;have hgn:=ay (au wc none) nq;have hD7:=(HDc.o.keeps (nG hgn)).keeps (H6 (w:=wc.drewN nq) rM.o (by decide) (by decide) (by decide) 1 (.bool true));have yU:=H7 ((Fr.gb bf.o hB).two (Fr.gb hgn (Nat.le_trans hB bf.o.size))) hB Au.o 1 (.bool true);clear hgn hh0 hh1 acH T0 n0 twc kc0 kc1;obtain⟨w7,hw7⟩:=zN ((wc.drewN nq).setCell ⟨H,1,none⟩ (.bool true));rw[hw7]at hD7 hH7 hS7 yU ⊢;obtain⟨w8,Aw,DL,oz⟩:=(hD7.map.block (w':=w7.drew) rfl).put t k (by omega) hk (by omega) q true;unfold oW at Aw;obtain⟨es,cc,hm0⟩:=hD7.map.map;have DN:=Nat.le_of_lt (Nat.lt_of_le_of_lt hD7.bT (aB hD7.blk))
    have DR:=(oz.block H (aB (w:=w7.drew) hH7) (by simp only[ne_eq,Option.some.injEq];exact qp hH7 hm0)).trans hH7;obtain⟨-,t17,-,-⟩:=hD7.cells;obtain⟨s0,s1,-⟩:=iG hS7;obtain⟨g0,g1,-⟩:=iG hH7;obtain⟨q0,-,-⟩:=iG DR;have MX:Hd (Tr w8 B T ns (q :: own) now):=by
     refine⟨N,c,M,xs,ks,?_⟩;rw[Sr ns own DK.o t q k yT.o jU.o];have e:=(hD7.keeps (w':=w7.drew) (nG (lw w7))).mapd DL oz;exact⟨e.blk,e.bT,e.row,e.cel,e.kid,e.apart,e.map.mono (by simp;omega),e.bM⟩
    have kN:=ae ((yU.two (Fr.gb (lw w7) DN)).two (Fr.mapd oz DN hD7.bM hm0));clear hD7 hH7 hS7 yU DL oz hm0 DR hw7
    go_region
    all_goals (
     go_wp2;refine bodyPost_ret (results_tmp2 (t:=6) (u:=7) rfl _ _ _) rfl ?_;rw[az.o];exact⟨fun t' ns' hh=>(by cases hh;exact⟨rfl,MX.o⟩),fun c p hh=>(by cases hh),kN.o⟩)
   ·have az:Hd (S=.error (5,pl)):=by show S=_;rw[fC.o,if_neg hok]
    have hcase:bb=true\/(bb=false/\(z != 0)=true):=by
     cases bb with
     | true=>exact Or.inl rfl
     | false=>exact Or.inr ⟨rfl,by simp at hok;simp[hok]⟩
    clear hok;go_upto_region 5 with fail
    rcases hcase with rfl|⟨rfl,hzb⟩
    all_goals (
     go_quiet (fail);go_wp2_with (go_at_call 195;refine(CW.o _).mono ?_;rintro e w5 ⟨⟨v,rfl,hv⟩,hg5⟩);refine bodyPost_ret (results_tmp2 (t:=6) (u:=7) rfl _ _ _) rfl ?_;rw[az.o];exact⟨fun t' ns' hh=>(by cases hh),fun c p hh=>(by cases hh;exact⟨v,rfl,dV.o _ _ hv,ns,nJ.o.gb (ai (ay bf.o _) hg5)⟩),Fr.gb (ai (ay bf.o _) hg5) hB⟩)
end Go.Proofs.YtnnbgjaphfhibaaGreatDoor
