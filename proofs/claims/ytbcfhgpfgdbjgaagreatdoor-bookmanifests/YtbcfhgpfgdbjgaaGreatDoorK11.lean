import Derived.Test.YtbcfhgpfgdbjgaaGreatDoorK06
import Derived.Test.YtbcfhgpfgdbjgaaGreatDoorK08
import Derived.Deep.RegionLaw
import Derived.Deep.Cut
set_option linter.all false
set_option maxRecDepth 100000
set_option maxHeartbeats 0
open Go.Proofs.Tryz
namespace Go.Proofs.YtbcfhgpfgdbjgaaGreatDoor
open Go.RowKit Go.Maps Go.WideMaps Go.Joins
variable{cs:Array Value}{ns:List Tn}{k:List UInt8}{xs:List Value}{B K L M N T a b c cap g i n p pl q s:Nat}{r:Option Nat}{e t t1:TypeId}{v v0 v1:Value}{w w' w1 w3:World}
theorem bY(h:w.ownsRow B e s v n xs)(hb:∀g cur,v.ownBlock=some g->w.heap[g]?=some (.cells cur e (0,0))->w'.heap[g]?=w.heap[g]?):w'.ownsRow B e s v n xs:=by
 refine⟨h.1,?_⟩
 rcases h.2 with h1|⟨g,cap,cur,rfl,h2,h3,h4⟩
 ·exact Or.inl h1
 ·exact Or.inr ⟨g,cap,cur,rfl,h2,(hb g cur rfl h3).trans h3,h4⟩
theorem dO(h:w.ownsRow B e s v n xs)(hg:v.ownBlock=some g):B<=g/\∃cur,w.heap[g]?=some (.cells cur e (0,0)):=by
 rcases h.2 with⟨rfl,_⟩|⟨g',cap,cur,rfl,h2,h3,h4⟩
 ·cases hg
 ·cases hg
  exact⟨h2,cur,h3⟩
theorem aZ{c1 c2:Array Value}{t2:TypeId}{f1 f2:Nat × Nat}(h1:w.heap[a]?=some (.cells c1 t1 f1))(h2:w.heap[b]?=some (.cells c2 t2 f2))(h:¬t1=t2):¬a=b:=fun e=>by
 subst e;rw[h1]at h2;injection h2 with h2
 injection h2 with _ e2 _
 exact h e2
theorem qM{c1:Array Value}{f1:Nat × Nat}{es:Array MapEntry}(h1:w.heap[a]?=some (.cells c1 t1 f1))(h2:w.heap[b]?=some (.map es c)):¬a=b:=fun e=>by
 subst e;rw[h1]at h2
 cases h2
theorem aG{o:Obj}(h:w.heap[b]?=some o):b<w.heap.size:=(bJ h)
structure TrD(w:World)(B T:Nat)(ns:List Tn)(now N c M:Nat)(xs:List Value)(ks:Nat->Value)(n:Nat)(f:Nat->List UInt8->Option (Nat × Bool)):Prop where
 blk:w.heap[T]?=some (.cells #[.slice (some ⟨N,0,none⟩) ns.length c,.map (some M),.int .i64 (now:Nat)] 98 (0,0))
 bT:B<=T
 row:w.ownsRow B 63 6 (.slice (some ⟨N,0,none⟩) ns.length c) ns.length xs
 cel:∀i (hi:i<ns.length),xs[i*6]?=some (.int .i64 ns[i].kd)/\xs[i*6+1]?=some (.string ⟨ns[i].ky.toArray⟩)/\xs[i*6+2]?=some (.string ⟨ns[i].tx.toArray⟩)/\xs[i*6+3]?=some (.int .i64 ns[i].nu)/\xs[i*6+4]?=some (ks i)/\xs[i*6+5]?=some (.int .i64 (ns[i].pl:Nat))
 kid:∀i (hi:i<ns.length),w.ownsRow B 3 1 (ks i) ns[i].ks.length (ns[i].ks.map fun q=>.int .i64 (q:Nat))
 apart:∀i j g,i<ns.length->j<ns.length->(ks i).ownBlock=some g->(ks j).ownBlock=some g->i=j
 map:HM w M n f
 bM:B<=M
section
variable {w w':World} {B T:Nat} {ns:List Tn} {now N c M:Nat} {xs:List Value} {ks:Nat->Value} {n:Nat} {f:Nat->List UInt8->Option (Nat × Bool)}
theorem TrD.rowT(h:TrD w B T ns now N c M xs ks n f):∃cur,w.heap[N]?=some (.cells cur 63 (0,0)):=(dO h.row rfl).2
theorem TrD.cells(h:TrD w B T ns now N c M xs ks n f):w.cell? ⟨T,0,none⟩=some (.slice (some ⟨N,0,none⟩) ns.length c)/\w.cell? ⟨T,1,none⟩=some (.map (some M))/\w.cell? ⟨T,2,none⟩=some (.int .i64 (now:Nat))/\∀k,w.frozen? ⟨T,k,none⟩=false :=
 ⟨by rw[aj h.blk];rfl,by rw[aj h.blk];rfl,by rw[aj h.blk];rfl,fun k=>Lib.frozen_of_heap h.blk k⟩
theorem uA(g k:Nat):(⟨g,0,none⟩:Addr).add k=⟨g,k,none⟩:=by
 unfold Addr.add;split
 ·rename_i h;rw[h]
 ·simp
theorem TrD.node(h:TrD w B T ns now N c M xs ks n f)(i:Nat)(hi:i<ns.length):w.cell? ⟨N,i*6,none⟩=some (.int .i64 ns[i].kd)/\w.cell? ⟨N,i*6+1,none⟩=some (.string ⟨ns[i].ky.toArray⟩)/\w.cell? ⟨N,i*6+2,none⟩=some (.string ⟨ns[i].tx.toArray⟩)/\w.cell? ⟨N,i*6+3,none⟩=some (.int .i64 ns[i].nu)/\w.cell? ⟨N,i*6+4,none⟩=some (ks i)/\w.cell? ⟨N,i*6+5,none⟩=some (.int .i64 (ns[i].pl:Nat))/\∀k,w.frozen? ⟨N,k,none⟩=false:=by
 obtain⟨h0,h1,h2,h3,h4,h5⟩:=h.cel i hi;have key:∀j u,xs[j]?=some u->w.cell? ⟨N,j,none⟩=some u:=fun j u hu=>by
  have:=h.row.cells (g:=N) rfl j u hu;rw[uA]at this;exact this
 obtain⟨cur,hc⟩:=h.rowT;exact⟨key _ _ h0,key _ _ h1,key _ _ h2,key _ _ h3,key _ _ h4,key _ _ h5,fun k=>Lib.frozen_of_heap hc k⟩
def Ja(w w':World):Prop:=(∀(b:Nat) (cs:Array Value) (t:TypeId) (fz:Nat × Nat),w.heap[b]?=some (.cells cs t fz)->(t=98\/t=63\/t=3)->w'.heap[b]?=w.heap[b]?)/\∀(b:Nat) (es:Array MapEntry) (c:Nat),w.heap[b]?=some (.map es c)->w'.heap[b]?=w.heap[b]?
theorem TrD.keeps(h:TrD w B T ns now N c M xs ks n f)(hk:Ja w w'):TrD w' B T ns now N c M xs ks n f:=by
 refine⟨(hk.1 _ _ _ _ h.blk (Or.inl rfl)).trans h.blk,h.bT,bY h.row fun g cur _ hc=>hk.1 _ _ _ _ hc (Or.inr (Or.inl rfl)),h.cel,fun i hi=>bY (h.kid i hi) fun g cur _ hc=>hk.1 _ _ _ _ hc (Or.inr (Or.inr rfl)),h.apart,?_,h.bM⟩;obtain⟨es,cc,hm⟩:=h.map.map;exact h.map.block (hk.2 _ _ _ hm)
theorem nU(hg:w.grownBy w' none):Ja w w':=⟨fun b cs t fz hb _=>hg.block b (aG hb) (by simp),fun b es c hb=>hg.block b (aG hb) (by simp)⟩
theorem ac9{R:Nat}{s:ByteArray}{T':Nat}(h:Rd w R s i T')(hg:w.grownBy w' (some R)):Ja w w' :=
 ⟨fun b cs t fz hb ht=>hg.block b (aG hb) (by
  simp only[ne_eq,Option.some.injEq];refine aZ hb h ?_
  rcases ht with rfl|rfl|rfl<;>decide),fun b es c hb=>hg.block b (aG hb) (by
  simp only[ne_eq,Option.some.injEq];exact fun e=>qM h hb e.symm)⟩
structure Fr(B:Nat)(w w':World):Prop where
 bel:Below B w w'
 oth:∀(b:Nat) (cs:Array Value) (t:TypeId) (fz:Nat × Nat),w.heap[b]?=some (.cells cs t fz)->¬t=98->¬t=63->¬t=3->w'.heap[b]?=w.heap[b]?
theorem Fr.two{w2:World}(h:Fr B w w1)(h':Fr B w1 w2):Fr B w w2 :=
 ⟨h.bel.trans h'.bel,fun b cs t fz hb h1 h2 h3=>by
  have e1:=h.oth b cs t fz hb h1 h2 h3;exact(h'.oth b cs t fz (e1.trans hb) h1 h2 h3).trans e1⟩
theorem Fr.gb(hg:w.grownBy w' none)(hB:B<=w.heap.size):Fr B w w' :=
 ⟨⟨hg.os,hg.tape,hg.output,hg.size,fun k hk=>hg.block k (by omega) (by simp)⟩,fun b cs t fz hb _ _ _=>hg.block b (aG hb) (by simp)⟩
theorem Fr.row{cur:Array Value}{fz:Nat × Nat}(hg:w.grownBy w' (some g))(hB:B<=w.heap.size)(hgB:B<=g)(hb:w.heap[g]?=some (.cells cur t fz))(ht:t=98\/t=63\/t=3):Fr B w w' :=
 ⟨⟨hg.os,hg.tape,hg.output,hg.size,fun k hk=>hg.block k (by omega) (by simp;omega)⟩,fun b cs t' fz' hb' h1 h2 h3=>hg.block b (aG hb') (by
  simp only[ne_eq,Option.some.injEq];refine aZ hb' hb ?_
  rcases ht with rfl|rfl|rfl
  ·exact h1
  ·exact h2
  ·exact h3)⟩
theorem Fr.mapd{es:Array MapEntry}(hg:w.grownBy w' (some M))(hB:B<=w.heap.size)(hgB:B<=M)(hb:w.heap[M]?=some (.map es c)):Fr B w w' :=
 ⟨⟨hg.os,hg.tape,hg.output,hg.size,fun k hk=>hg.block k (by omega) (by simp;omega)⟩,fun b cs t' fz' hb' h1 h2 h3=>hg.block b (aG hb') (by
  simp only[ne_eq,Option.some.injEq];exact qM hb' hb)⟩
theorem fO(w:World)(g o:Nat)(v:Value):w.grownBy (w.setCell ⟨g,o,none⟩ v) (some g) :=
 ⟨rfl,rfl,rfl,by simp[World.setCell],fun k hk hn=>heap_setCell_other w _ k v (fun e=>hn (by rw[e]))⟩
theorem TrD.push(h:TrD w B T ns now N c M xs ks n f)(x:Tn)(hx:x.ks=[])(hL:ns.length+1=L)
  (ho:w1.ownsRow B 63 6 (.slice (some ⟨g,0,none⟩) L cap) L (xs++[.int .i64 x.kd,.string ⟨x.ky.toArray⟩,.string ⟨x.tx.toArray⟩,.int .i64 x.nu,.slice none 0 0,.int .i64 (x.pl:Nat)])) (hg:w.grownBy w1 (some N)) :
  TrD (w1.setCell ⟨T,0,none⟩ (.slice (some ⟨g,0,none⟩) L cap)) B T (ns++[x]) now g cap M (xs++[.int .i64 x.kd,.string ⟨x.ky.toArray⟩,.string ⟨x.tx.toArray⟩,.int .i64 x.nu,.slice none 0 0,.int .i64 (x.pl:Nat)]) (fun i=>if i=ns.length then .slice none 0 0 else ks i) n f:=by
 obtain⟨cur,hN⟩:=h.rowT;have hT1:=hg.block T (aG h.blk) (by simp only[ne_eq,Option.some.injEq];exact aZ h.blk hN (by decide));have hb1:=hT1.trans h.blk;obtain⟨cg,hcg⟩:=(dO ho rfl).2;have hxl:=h.row.1;have hlen:(ns++[x]).length=L:=by simp[hL]
 have hset:=block_setCell (i:=0) hb1 (.slice (some ⟨g,0,none⟩) L cap);refine⟨?_,h.bT,?_,?_,?_,?_,?_,h.bM⟩
 ·rw[hlen];exact hset
 ·rw[hlen];exact bY ho fun g' cur' _ hc=>heap_setCell_other _ _ _ _ (aZ hc hb1 (by decide))
 ·intro i hi;rw[hlen]at hi
  by_cases he:i=ns.length
  ·subst he;simp only[List.getElem_append_right (Nat.le_refl _),Nat.sub_self,List.getElem_cons_zero];rw[<-hxl];refine⟨?_,?_,?_,?_,?_,?_⟩
   ·rw[List.getElem?_append_right (by omega),Nat.sub_self];rfl
   ·rw[List.getElem?_append_right (by omega),show xs.length+1-xs.length=1 by omega];rfl
   ·rw[List.getElem?_append_right (by omega),show xs.length+2-xs.length=2 by omega];rfl
   ·rw[List.getElem?_append_right (by omega),show xs.length+3-xs.length=3 by omega];rfl
   ·rw[List.getElem?_append_right (by omega),show xs.length+4-xs.length=4 by omega];simp
   ·rw[List.getElem?_append_right (by omega),show xs.length+5-xs.length=5 by omega];rfl
  ·have hlt:i<ns.length:=by omega
   obtain⟨h0,h1,h2,h3,h4,h5⟩:=h.cel i hlt;simp only[List.getElem_append_left hlt,if_neg he];refine⟨?_,?_,?_,?_,?_,?_⟩
   all_goals (rw[List.getElem?_append_left (by omega)];assumption)
 ·intro i hi;rw[hlen]at hi
  by_cases he:i=ns.length
  ·subst he;simp only[List.getElem_append_right (Nat.le_refl _),Nat.sub_self,List.getElem_cons_zero,hx,if_true];exact⟨rfl,Or.inl ⟨rfl,rfl⟩⟩
  ·have hlt:i<ns.length:=by omega
   simp only[List.getElem_append_left hlt,if_neg he];refine bY (h.kid i hlt) fun g' cur' _ hc=>?_
   have e1:=hg.block g' (aG hc) (by simp only[ne_eq,Option.some.injEq];exact aZ hc hN (by decide));exact(heap_setCell_other _ _ _ _ (aZ (e1.trans hc) hb1 (by decide))).trans e1
 ·intro i j g' hi hj h1 h2;rw[hlen]at hi hj
  by_cases hei:i=ns.length
  ·rw[if_pos hei]at h1;cases h1
  ·by_cases hej:j=ns.length
   ·rw[if_pos hej]at h2;cases h2
   ·rw[if_neg hei]at h1;rw[if_neg hej]at h2;exact h.apart i j g' (by omega) (by omega) h1 h2
 ·obtain⟨es,cc,hm⟩:=h.map.map;have e1:=hg.block M (aG hm) (by simp only[ne_eq,Option.some.injEq];exact fun e=>qM hN hm e.symm);exact h.map.block ((heap_setCell_other _ _ _ _ (fun e=>qM hb1 (e1.trans hm) e.symm)).trans e1)
theorem TrD.kidOwn(h:TrD w B T ns now N c M xs ks n f)(hi:i<ns.length)(hg:(ks i).ownBlock=some g):∃cur,w.heap[g]?=some (.cells cur 3 (0,0)):=(dO (h.kid i hi) hg).2
theorem TrD.kidp(h:TrD w B T ns now N c M xs ks n f)(p:Nat)(hp:p<ns.length)(q:Nat)(hL:ns[p].ks.length+1=L)
  (ho:w1.ownsRow B 3 1 (.slice (some ⟨g,0,none⟩) L cap) L ((ns[p].ks.map fun q=>.int .i64 (q:Nat))++[.int .i64 (q:Nat)])) (hg:w.grownBy w1 (ks p).ownBlock) (hat:(ks p).ownBlock=some g\/w.heap.size<=g) :
  TrD (w1.setCell ⟨N,p*6+4,none⟩ (.slice (some ⟨g,0,none⟩) L cap)) B T (ns.set p { ns[p] with ks:=ns[p].ks++[q] }) now N c M (xs.set (p*6+4) (.slice (some ⟨g,0,none⟩) L cap)) (fun i=>if i=p then .slice (some ⟨g,0,none⟩) L cap else ks i) n f:=by
 obtain⟨cur,hN⟩:=h.rowT;have zx:∀(b:Nat) (cs:Array Value) (t:TypeId) (fz:Nat × Nat),w.heap[b]?=some (.cells cs t fz)->¬t=3->w1.heap[b]?=w.heap[b]?:=fun b cs t fz hb ht=>hg.block b (aG hb) (fun e=>by
  obtain⟨cc,hcc⟩:=h.kidOwn hp e.symm;exact aZ hb hcc ht rfl)
 have hN1:=zx _ _ _ _ hN (by decide);have hT1:=zx _ _ _ _ h.blk (by decide);have hxl:=h.row.1;have hlen:(ns.set p { ns[p] with ks:=ns[p].ks++[q] }).length=ns.length:=by simp
 obtain⟨cg,hcg⟩:=(dO ho rfl).2;refine⟨?_,h.bT,?_,?_,?_,?_,?_,h.bM⟩
 ·rw[hlen];exact(heap_setCell_other _ _ _ _ (aZ (hT1.trans h.blk) (hN1.trans hN) (by decide))).trans (hT1.trans h.blk)
 ·rw[hlen];have r1:=bY h.row fun g' cur' hh hc=>zx _ _ _ _ hc (by decide)
  refine⟨by rw[List.length_set];exact r1.1,?_⟩
  rcases r1.2 with⟨e1,_⟩|⟨g',cap',cu,e1,hb,hgg,hn,hm,hs,ht⟩
  ·cases e1
  ·cases e1
   refine Or.inr ⟨N,c,cu.setIfInBounds (p*6+4) _,rfl,hb,block_setCell hgg _,hn,hm,by simpa using hs,?_⟩;rw[Array.toList_setIfInBounds,List.take_set,ht]
 ·intro i hi;rw[hlen]at hi;obtain⟨h0,h1,h2,h3,h4,h5⟩:=h.cel i hi;have keep:∀j,j<xs.length->¬j=p*6+4->(xs.set (p*6+4) (.slice (some ⟨g,0,none⟩) L cap))[j]?=xs[j]?:=fun j hj hne=>List.getElem?_set_ne (fun e=>hne e.symm)
  by_cases he:i=p
  ·subst he;simp only[List.getElem_set_self,if_true];refine⟨(keep _ (by omega) (by omega)).trans h0,(keep _ (by omega) (by omega)).trans h1,(keep _ (by omega) (by omega)).trans h2,(keep _ (by omega) (by omega)).trans h3,List.getElem?_set_self (by omega),(keep _ (by omega) (by omega)).trans h5⟩
  ·have hpi:¬p=i:=fun e=>he e.symm
   simp only[List.getElem_set_ne hpi,if_neg he];refine⟨(keep _ (by omega) (by omega)).trans h0,(keep _ (by omega) (by omega)).trans h1,(keep _ (by omega) (by omega)).trans h2,(keep _ (by omega) (by omega)).trans h3,(keep _ (by omega) (by omega)).trans h4,(keep _ (by omega) (by omega)).trans h5⟩
 ·intro i hi;rw[hlen]at hi;have hs:∀(g':Nat) (cur':Array Value),w1.heap[g']?=some (.cells cur' 3 (0,0))->(w1.setCell ⟨N,p*6+4,none⟩ (.slice (some ⟨g,0,none⟩) L cap)).heap[g']?=w1.heap[g']?:=fun g' cur' hc=>heap_setCell_other _ _ _ _ (aZ hc (hN1.trans hN) (by decide))
  by_cases he:i=p
  ·subst he;simp only[List.getElem_set_self,if_true];rw[List.map_append,List.length_append,List.length_singleton,hL];exact bY ho fun g' cur' _ hc=>hs g' cur' hc
  ·have hpi:¬p=i:=fun e=>he e.symm
   simp only[List.getElem_set_ne hpi,if_neg he];refine bY (h.kid i hi) fun g' cur' hgo hc=>?_
   have e1:=hg.block g' (aG hc) (fun e=>he (h.apart i p g' hi hp hgo e.symm));exact(hs g' cur' (e1.trans hc)).trans e1
 ·intro i j g' hi hj h1 h2;rw[hlen]at hi hj;have fresh:∀k,k<ns.length->¬k=p->(ks k).ownBlock=some g->False:=fun k hk hne e=>by
   rcases hat with e2|e2
   ·exact hne (h.apart k p g hk hp e e2)
   ·obtain⟨cc,hcc⟩:=h.kidOwn hk e;have:=aG hcc;omega
  by_cases hei:i=p
  ·by_cases hej:j=p
   ·rw[hei,hej]
   ·rw[if_pos hei]at h1;rw[if_neg hej]at h2
    cases h1
    exact(fresh j hj hej h2).elim
  ·by_cases hej:j=p
   ·rw[if_pos hej]at h2;rw[if_neg hei]at h1
    cases h2
    exact(fresh i hi hei h1).elim
   ·rw[if_neg hei]at h1;rw[if_neg hej]at h2;exact h.apart i j g' hi hj h1 h2
 ·obtain⟨es,cc,hm⟩:=h.map.map;have e1:w1.heap[M]?=w.heap[M]?:=hg.block M (aG hm) (fun e=>by
   obtain⟨cc,hcc⟩:=h.kidOwn hp e.symm;exact qM hcc hm rfl)
  exact h.map.block ((heap_setCell_other _ _ _ _ (fun e=>qM (hN1.trans hN) (e1.trans hm) e.symm)).trans e1)
theorem TrD.mapd(h:TrD w B T ns now N c M xs ks n f){n':Nat}{f':Nat->List UInt8->Option (Nat × Bool)}(hm:HM w' M n' f')(hg:w.grownBy w' (some M)):TrD w' B T ns now N c M xs ks n' f':=by
 obtain⟨es,cc,hm0⟩:=h.map.map;have hb:=fun(b:Nat) (cs:Array Value) (t:TypeId) (fz:Nat × Nat) (hb:w.heap[b]?=some (.cells cs t fz))=>hg.block b (aG hb) (by simp only[ne_eq,Option.some.injEq];exact qM hb hm0)
 exact⟨(hb _ _ _ _ h.blk).trans h.blk,h.bT,bY h.row fun g cur _ hc=>hb _ _ _ _ hc,h.cel,fun i hi=>bY (h.kid i hi) fun g cur _ hc=>hb _ _ _ _ hc,h.apart,hm,h.bM⟩
theorem TrD.hand(h:TrD w B T ns now N c M xs ks n f)(m:Nat):TrD (w.setCell ⟨T,2,none⟩ (.int .i64 (m:Nat))) B T ns m N c M xs ks n f:=by
 have hb:∀(b:Nat) (cs:Array Value) (t:TypeId) (fz:Nat × Nat),w.heap[b]?=some (.cells cs t fz)->¬t=98->(w.setCell ⟨T,2,none⟩ (.int .i64 (m:Nat))).heap[b]?=w.heap[b]?:=fun b cs t fz hb ht=>heap_setCell_other _ _ _ _ (aZ hb h.blk ht)
 refine⟨block_setCell (i:=2) h.blk _,h.bT,bY h.row fun g cur _ hc=>hb _ _ _ _ hc (by decide),h.cel,fun i hi=>bY (h.kid i hi) fun g cur _ hc=>hb _ _ _ _ hc (by decide),h.apart,?_,h.bM⟩;obtain⟨es,cc,hm⟩:=h.map.map;exact h.map.block (heap_setCell_other _ _ _ _ (fun e=>qM h.blk hm e.symm))
theorem TrD.cellSet(h:TrD w B T ns now N c M xs ks n f)(q o:Nat)(v:Value)(x:Tn)(hq:q<ns.length)(ho:o<6)(h4:¬o=4)(hk:x.ks=ns[q].ks)
  (hv:∀j u,(if j=o then some v else([.int .i64 ns[q].kd,.string ⟨ns[q].ky.toArray⟩,.string ⟨ns[q].tx.toArray⟩,.int .i64 ns[q].nu,ks q,.int .i64 (ns[q].pl:Nat)]:List Value)[j]?)=some u->([.int .i64 x.kd,.string ⟨x.ky.toArray⟩,.string ⟨x.tx.toArray⟩,.int .i64 x.nu,ks q,.int .i64 (x.pl:Nat)]:List Value)[j]?=some u) :
  TrD (w.setCell ⟨N,q*6+o,none⟩ v) B T (ns.set q x) now N c M (xs.set (q*6+o) v) ks n f:=by
 obtain⟨cur,hN⟩:=h.rowT;have hb:∀(b:Nat) (cs:Array Value) (t:TypeId) (fz:Nat × Nat),w.heap[b]?=some (.cells cs t fz)->¬t=63->(w.setCell ⟨N,q*6+o,none⟩ v).heap[b]?=w.heap[b]?:=fun b cs t fz hb ht=>heap_setCell_other _ _ _ _ (aZ hb hN ht)
 have hxl:=h.row.1;have hlen:(ns.set q x).length=ns.length:=by simp
 refine⟨?_,h.bT,?_,?_,?_,?_,?_,h.bM⟩
 ·rw[hlen];exact(hb _ _ _ _ h.blk (by decide)).trans h.blk
 ·rw[hlen];refine⟨by rw[List.length_set];exact h.row.1,?_⟩
  rcases h.row.2 with⟨e1,_⟩|⟨g',cap',cu,e1,hb,hgg,hn,hm,hs,ht⟩
  ·cases e1
  ·cases e1
   refine Or.inr ⟨N,c,cu.setIfInBounds (q*6+o) v,rfl,hb,block_setCell hgg _,hn,hm,by simpa using hs,?_⟩;rw[Array.toList_setIfInBounds,List.take_set,ht]
 ·intro i hi;rw[hlen]at hi;obtain⟨h0,h1,h2,h3,h4',h5⟩:=h.cel i hi;have keep:∀j,¬j=q*6+o->(xs.set (q*6+o) v)[j]?=xs[j]?:=fun j hne=>List.getElem?_set_ne (fun e=>hne e.symm)
  by_cases he:i=q
  ·subst he;simp only[List.getElem_set_self];have get:∀j u,j<6->([.int .i64 ns[i].kd,.string ⟨ns[i].ky.toArray⟩,.string ⟨ns[i].tx.toArray⟩,.int .i64 ns[i].nu,ks i,.int .i64 (ns[i].pl:Nat)]:List Value)[j]?=some u->xs[i*6+j]?=some u:=fun j u hj hu=>by
    match j,hj,hu with
    | 0,_,hu=>cases hu;exact h0
    | 1,_,hu=>cases hu;exact h1
    | 2,_,hu=>cases hu;exact h2
    | 3,_,hu=>cases hu;exact h3
    | 4,_,hu=>cases hu;exact h4'
    | 5,_,hu=>cases hu;exact h5
   have main:∀j (hj:j<6),∀u,(xs.set (i*6+o) v)[i*6+j]?=some u->([.int .i64 x.kd,.string ⟨x.ky.toArray⟩,.string ⟨x.tx.toArray⟩,.int .i64 x.nu,ks i,.int .i64 (x.pl:Nat)]:List Value)[j]?=some u:=fun j hj u hu=>by
    apply hv j u
    by_cases hjo:j=o
    ·subst hjo;rw[List.getElem?_set_self (by omega)]at hu;rw[if_pos rfl];exact hu
    ·rw[keep _ (by omega)]at hu;rw[if_neg hjo];have hlt:j<([.int .i64 ns[i].kd,.string ⟨ns[i].ky.toArray⟩,.string ⟨ns[i].tx.toArray⟩,.int .i64 ns[i].nu,ks i,.int .i64 (ns[i].pl:Nat)]:List Value).length:=hj;have:=get j _ hj (List.getElem?_eq_getElem hlt);rw[this]at hu;rw[List.getElem?_eq_getElem hlt];exact hu
   have has:∀j,j<6->∃u,(xs.set (i*6+o) v)[i*6+j]?=some u:=fun j hj=>⟨_,List.getElem?_eq_getElem (by rw[List.length_set];omega)⟩
   have fin:∀j (hj:j<6),(xs.set (i*6+o) v)[i*6+j]?=([.int .i64 x.kd,.string ⟨x.ky.toArray⟩,.string ⟨x.tx.toArray⟩,.int .i64 x.nu,ks i,.int .i64 (x.pl:Nat)]:List Value)[j]?:=fun j hj=>by
    obtain⟨u,hu⟩:=has j hj;rw[hu,main j hj u hu]
   exact⟨fin 0 (by omega),fin 1 (by omega),fin 2 (by omega),fin 3 (by omega),fin 4 (by omega),fin 5 (by omega)⟩
  ·have hqi:¬q=i:=fun e=>he e.symm
   simp only[List.getElem_set_ne hqi];exact⟨(keep _ (by omega)).trans h0,(keep _ (by omega)).trans h1,(keep _ (by omega)).trans h2,(keep _ (by omega)).trans h3,(keep _ (by omega)).trans h4',(keep _ (by omega)).trans h5⟩
 ·intro i hi;rw[hlen]at hi
  by_cases he:i=q
  ·subst he;simp only[List.getElem_set_self,hk];exact bY (h.kid i hq) fun g cur _ hc=>hb _ _ _ _ hc (by decide)
  ·have hqi:¬q=i:=fun e=>he e.symm
   simp only[List.getElem_set_ne hqi];exact bY (h.kid i hi) fun g cur _ hc=>hb _ _ _ _ hc (by decide)
 ·intro i j g' hi hj;rw[hlen]at hi hj;exact h.apart i j g' hi hj
 ·obtain⟨es,cc,hm⟩:=h.map.map;exact h.map.block (heap_setCell_other _ _ _ _ (fun e=>qM hN hm e.symm))
end
def Tr(w:World)(B T:Nat)(ns:List Tn)(own:List Nat)(now:Nat):Prop:=∃N c M xs ks,TrD w B T ns now N c M xs ks (ns.length+own.length) (hold ns own)
open Go.RowKit Go.Maps Go.WideMaps Go.Joins
theorem ada:(prog.info? 63).map (fun i=>(i.zero,i.size,i.bytes))=some (some (.agg #[.int .i64 0,.string ⟨#[]⟩,.string ⟨#[]⟩,.int .i64 0,.slice none 0 0,.int .i64 0]),6,80):=by kernel_rfl
theorem NR:(prog.info? 3).map (fun i=>(i.zero,i.size,i.bytes))=some (some (.int .i64 0),1,8):=by kernel_rfl
def adb(B T:Nat)(ns:List Tn)(own:List Nat)(now p:Nat)(x:Tn)(w:World)(e:Ending)(w':World):Prop:=e=.returned (.int .i64 (ns.length:Nat))/\Tr w' B T (addN ns p x) own now/\Fr B w w'
theorem xW{o:Obj}(d:w.heap[T]?=some (.cells cs t (0,0)))(hg:(w.drew.alloc o).grownBy w3 r)(hne:some T≠r):w3.frozen? ⟨T,i,none⟩=false:=by
 have e0:=((World.grownBy_alloc w.drew o none).block T (aG (w:=w.drew) d) (by simp)).trans d;exact Lib.frozen_of_heap ((hg.block T (aG e0) hne).trans e0) i
theorem rY{o:Obj}(d:w.cell? ⟨T,i,none⟩=some v)(hg:(w.drew.alloc o).grownBy w3 r)(hne:some T≠r):w3.cell? ⟨T,i,none⟩=some v:=hg.cell ((World.grownBy_alloc w.drew o none).cell d (by simp)) hne
theorem Vy(x:Tn):∀u∈([.int .i64 x.kd,.string ⟨x.ky.toArray⟩,.string ⟨x.tx.toArray⟩,.int .i64 x.nu,.slice none 0 0,.int .i64 (x.pl:Nat)]:List Value),u.oneCell'=true:=by
 intro u hu;simp only[List.mem_cons,List.not_mem_nil,or_false]at hu
 rcases hu with rfl|rfl|rfl|rfl|rfl|rfl<;>rfl
theorem Vz(q:Nat):∀u∈([.int .i64 (q:Nat)]:List Value),u.oneCell'=true:=by
 intro u hu;simp only[List.mem_cons,List.not_mem_nil,or_false]at hu
 rcases hu with rfl;rfl
theorem nV(h:w.ownsRow B e s v n xs):∃o c,v=.slice o n c:=by
 rcases h.2 with⟨h1,h2⟩|⟨g,cap,cur,h1,_⟩
 ·exact⟨none,0,by rw[h1,h2]⟩
 ·exact⟨_,_,h1⟩
theorem VC(ns:List Tn)(p:Nat)(x:Tn)(hp:p<ns.length)(hp':p<(ns++[x]).length):(ns++[x]).set p { (ns++[x])[p] with ks:=(ns++[x])[p].ks++[ns.length] }=addN ns p x:=by
 unfold addN;rw[List.getElem?_eq_getElem hp];simp only[List.getElem_append_left hp];rw[List.set_append_left _ _ hp]
theorem adc{now:Nat}{ks:Nat->Value}{f:Nat->List UInt8->Option (Nat × Bool)}{kd:Int}
  (h:TrD w1 B T ns now N c M xs ks n f) (hf:Fr B w w1) (hK:w1.heap[K]?=some (.cells #[.string ⟨k.toArray⟩,.int .i64 (pl:Nat)] 173 (0,0)))
  (ho:w3.ownsRow B 63 6 (.slice (some ⟨g,0,none⟩) (ns.length+1) cap) (ns.length+1) (xs++[.int .i64 kd,.string ⟨k.toArray⟩,.string ⟨#[]⟩,.int .i64 0,.slice none 0 0,.int .i64 (pl:Nat)]))
  (hg:(w1.drew.alloc (.cells #[.int .i64 kd,.string ⟨k.toArray⟩,.string ⟨#[]⟩,.int .i64 0,.slice none 0 0,.int .i64 (pl:Nat)] 63)).grownBy w3 (Value.slice (some ⟨N,0,none⟩) ns.length c).ownBlock) :
  ∃(g' cap':Nat) (xs':List Value) (ks':Nat->Value),TrD (w3.setCell ⟨T,0,none⟩ (.slice (some ⟨g,0,none⟩) (ns.length+1) cap)) B T (ns++[⟨kd,k,[],0,[],pl⟩]) now g' cap' M xs' ks' n f/\Fr B w (w3.setCell ⟨T,0,none⟩ (.slice (some ⟨g,0,none⟩) (ns.length+1) cap))/\(w3.setCell ⟨T,0,none⟩ (.slice (some ⟨g,0,none⟩) (ns.length+1) cap)).heap[K]?=some (.cells #[.string ⟨k.toArray⟩,.int .i64 (pl:Nat)] 173 (0,0)):=by
 have hgE:w1.grownBy (w1.drew.alloc (.cells #[.int .i64 kd,.string ⟨k.toArray⟩,.string ⟨#[]⟩,.int .i64 0,.slice none 0 0,.int .i64 (pl:Nat)] 63)) none:=by
  have:=World.grownBy_alloc w1.drew (.cells #[.int .i64 kd,.string ⟨k.toArray⟩,.string ⟨#[]⟩,.int .i64 0,.slice none 0 0,.int .i64 (pl:Nat)] 63) none;exact⟨this.os,this.tape,this.output,this.size,this.block⟩
 obtain⟨w2,hw2⟩:=zN (w1.drew.alloc (.cells #[.int .i64 kd,.string ⟨k.toArray⟩,.string ⟨#[]⟩,.int .i64 0,.slice none 0 0,.int .i64 (pl:Nat)] 63));rw[hw2]at hg hgE;have hg':w2.grownBy w3 (some N):=hg;have h2:=h.keeps (nU hgE);obtain⟨cN,mg⟩:=h2.rowT;have hB1:=Nat.le_of_lt (Nat.lt_of_le_of_lt h.bT (aG h.blk));have hB2:=Nat.le_trans hB1 hgE.size;have VD:=(hg'.block T (aG h2.blk) (by simp only[ne_eq,Option.some.injEq];exact aZ h2.blk mg (by decide))).trans h2.blk;have hK2:w2.heap[K]?=_:=(hgE.block K (aG hK) (by simp)).trans hK;have hK3:w3.heap[K]?=_:=(hg'.block K (aG hK2) (by simp only[ne_eq,Option.some.injEq];exact aZ hK2 mg (by decide))).trans hK2;refine⟨g,cap,_,_,h2.push (L:=ns.length+1) ⟨kd,k,[],0,[],pl⟩ rfl rfl ho hg',?_,(heap_setCell_other _ _ _ _ (aZ hK3 VD (by decide))).trans hK3⟩;exact((hf.two (Fr.gb hgE hB1)).two (Fr.row hg' hB2 (dO h2.row rfl).1 mg (Or.inr (Or.inl rfl)))).two (Fr.row (fO w3 T 0 _) (Nat.le_trans hB2 hg'.size) h2.bT VD (Or.inl rfl))
theorem ade{x:Tn}{now m:Nat}{ys:List Value}{ks:Nat->Value}{f:Nat->List UInt8->Option (Nat × Bool)}{m4:Nat}{o4:Option Addr}{hpl:p<(ns++[x]).length}
  (hp:p<ns.length) (h:TrD w1 B T (ns++[x]) now N c M xs ks n f) (hf:Fr B w w1) (hK:w1.heap[K]?=some (.cells #[.string ⟨k.toArray⟩,.int .i64 (pl:Nat)] 173 (0,0))) (hv:ks p=.slice o4 m m4) (hm:((ns++[x])[p]'hpl).ks.length=m) (hys:(((ns++[x])[p]'hpl).ks.map fun q=>Value.int .i64 (q:Nat))=ys)
  (ho:w3.ownsRow B 3 1 (.slice (some ⟨g,0,none⟩) (m+1) cap) (m+1) (ys++[.int .i64 (ns.length:Nat)]))
  (hg:(w1.drew.alloc (.cells #[.int .i64 (ns.length:Nat)] 3)).grownBy w3 (Value.slice o4 m m4).ownBlock) (hat:(Value.slice o4 m m4).ownBlock=some g\/g=(w1.drew.alloc (.cells #[.int .i64 (ns.length:Nat)] 3)).heap.size) :
  ∃(g' cap':Nat) (xs':List Value) (ks':Nat->Value),TrD (w3.setCell ⟨N,p*6+4,none⟩ (.slice (some ⟨g,0,none⟩) (m+1) cap)) B T (addN ns p x) now g' cap' M xs' ks' n f/\Fr B w (w3.setCell ⟨N,p*6+4,none⟩ (.slice (some ⟨g,0,none⟩) (m+1) cap))/\(w3.setCell ⟨N,p*6+4,none⟩ (.slice (some ⟨g,0,none⟩) (m+1) cap)).heap[K]?=some (.cells #[.string ⟨k.toArray⟩,.int .i64 (pl:Nat)] 173 (0,0)):=by
 have hgE:w1.grownBy (w1.drew.alloc (.cells #[.int .i64 (ns.length:Nat)] 3)) none:=by
  have:=World.grownBy_alloc w1.drew (.cells #[.int .i64 (ns.length:Nat)] 3) none;exact⟨this.os,this.tape,this.output,this.size,this.block⟩
 obtain⟨w2,hw2⟩:=zN (w1.drew.alloc (.cells #[.int .i64 (ns.length:Nat)] 3));rw[hw2]at hg hgE hat;rw[<-hv]at hg hat;have h2:=h.keeps (nU hgE);obtain⟨cN,mg⟩:=h2.rowT;have hB1:=Nat.le_of_lt (Nat.lt_of_le_of_lt h.bT (aG h.blk));have hB2:=Nat.le_trans hB1 hgE.size;have hne:∀(b:Nat) (cs:Array Value) (t:TypeId) (fz:Nat × Nat),w2.heap[b]?=some (.cells cs t fz)->¬t=3->w3.heap[b]?=w2.heap[b]?:=fun b cs t fz hb ht=>hg.block b (aG hb) (fun e=>by
  obtain⟨cc,hcc⟩:=h2.kidOwn hpl e.symm;exact aZ hb hcc ht rfl)
 have hK2:w2.heap[K]?=_:=(hgE.block K (aG hK) (by simp)).trans hK;have hK3:w3.heap[K]?=_:=(hne _ _ _ _ hK2 (by decide)).trans hK2;have hN3:w3.heap[N]?=_:=(hne _ _ _ _ mg (by decide)).trans mg;have h3:=h2.kidp (L:=m+1) p hpl ns.length (by rw[hm]) (by rw[hys];exact ho) hg (by rcases hat with e|e;exact Or.inl e;exact Or.inr (by omega));rw[VC ns p x hp hpl]at h3;refine⟨_,_,_,_,h3,?_,(heap_setCell_other _ _ _ _ (aZ hK3 hN3 (by decide))).trans hK3⟩;have f2:Fr B w2 w3:=by
  cases hb:(ks p).ownBlock with
  |none=>rw[hb]at hg;exact Fr.gb hg hB2
  |some q=>
   rw[hb]at hg;obtain⟨hq,cc,hcc⟩:=dO (h2.kid p hpl) hb;exact Fr.row hg hB2 hq hcc (Or.inr (Or.inr rfl))
 exact((hf.two (Fr.gb hgE hB1)).two f2).two (Fr.row (fO w3 N _ _) (Nat.le_trans hB2 hg.size) (dO h2.row rfl).1 hN3 (Or.inr (Or.inl rfl)))
theorem BA(B T:Nat)(ns:List Tn)(own:List Nat)(now p:Nat)(kd:Int)(k:List UInt8)(pl:Nat)(w:World)(h:Tr w B T ns own now)(W:WF ns own)(hp:p<ns.length)(hfree:ay ns p=0->aK ns p k=none)(hsz:ns.length+own.length<=1000000)(hk:k.length<=1048576) :
  Calls prog 125 #[.pointer (some ⟨T,0,none⟩),.int .i64 (p:Nat),.int .i64 kd,.agg #[.string ⟨k.toArray⟩,.int .i64 (pl:Nat)]] w (adb B T ns own now p ⟨kd,k,[],0,[],pl⟩ w):=by
 obtain⟨N,c,M,xs,ks,hD⟩:=h;obtain⟨i0,hi0,hii⟩:=Option.map_eq_some_iff.1 ada;simp only[Prod.mk.injEq]at hii;obtain⟨hz0,hz1,hzb⟩:=hii;obtain⟨j0,hj0,hjj⟩:=Option.map_eq_some_iff.1 NR;simp only[Prod.mk.injEq]at hjj;obtain⟨hy0,hy1,hyb⟩:=hjj;have hone:=Vy ⟨kd,k,[],0,[],pl⟩;simp only[]at hone;have NS:=Vz ns.length;obtain⟨K,kZ⟩:=zN (w.heap.size);have eH:w.grownBy (w.alloc (.cells #[.string ⟨k.toArray⟩,.int .i64 (pl:Nat)] 173)) none:=World.grownBy_alloc w _ none;have bV:=heap_alloc_new w (.cells #[.string ⟨k.toArray⟩,.int .i64 (pl:Nat)] 173);have qN:(w.alloc (.cells #[.string ⟨k.toArray⟩,.int .i64 (pl:Nat)] 173)).heap.size=K+1:=by rw[World.size_alloc,kZ]
 rw[kZ]at bV;have hD1:=hD.keeps (nU eH);have hBs:=Nat.le_of_lt (Nat.lt_of_le_of_lt hD.bT (aG hD.blk));have jo:=ae (Fr.gb eH hBs);obtain⟨w1,hw1⟩:=zN (w.alloc (.cells #[.string ⟨k.toArray⟩,.int .i64 (pl:Nat)] 173));rw[hw1]at bV qN hD1 jo;have hrow:=hD1.row;obtain⟨cN,mg⟩:=hD1.rowT;have pO:Hd (some T≠(Value.slice (some ⟨N,0,none⟩) ns.length c).ownBlock):=by
  show some T≠some N;simp only[ne_eq,Option.some.injEq];exact aZ hD1.blk mg (by decide)
 have d1:=hD1.cells.1;have dA:(w1.alloc (.cells #[.int .i64 kd,.string ⟨k.toArray⟩,.string ⟨#[]⟩,.int .i64 0,.slice none 0 0,.int .i64 (pl:Nat)] 63)).cell? ⟨T,0,none⟩=some (.slice (some ⟨N,0,none⟩) ns.length c):=(World.grownBy_alloc w1 _ none).cell d1 (by simp);have xX:=ae hD1.blk;have HFK:Hd (some K≠(Value.slice (some ⟨N,0,none⟩) ns.length c).ownBlock):=by
  show some K≠some N;simp only[ne_eq,Option.some.injEq];exact aZ bV mg (by decide)
 have k1:w1.cell? ⟨K,0,none⟩=some (.string ⟨k.toArray⟩):=by rw[aj bV];rfl
 have k2:w1.cell? ⟨K,1,none⟩=some (.int .i64 (pl:Nat)):=by rw[aj bV];rfl
 have HD1:=ae hD1;have lQ:=ae bV;have HW:=ae W;have fB:Hd ((w1.drew.alloc (.cells #[.int .i64 kd,.string ⟨k.toArray⟩,.string ⟨#[]⟩,.int .i64 0,.slice none 0 0,.int .i64 (pl:Nat)] 63)).heap[K+1]?=some (.cells #[.int .i64 kd,.string ⟨k.toArray⟩,.string ⟨#[]⟩,.int .i64 0,.slice none 0 0,.int .i64 (pl:Nat)] 63 (0,0))):=by
  have:=heap_alloc_new w1.drew (.cells #[.int .i64 kd,.string ⟨k.toArray⟩,.string ⟨#[]⟩,.int .i64 0,.slice none 0 0,.int .i64 (pl:Nat)] 63);rw[show w1.drew.heap.size=K+1 from qN]at this;exact this
 have adf:=ae hfree;have HP:=ae hp;clear hD eH bV hD1 mg W hfree;go_enter func125,ntmps125;go_upto_region 2 with fail
 go_cut [] from 15 (fun wx=>∃(g cap:Nat) (xs':List Value) (ks':Nat->Value),TrD wx B T (ns++[⟨kd,k,[],0,[],pl⟩]) now g cap M xs' ks' (ns.length+own.length) (hold ns own)/\Fr B w wx/\wx.heap[K]?=some (.cells #[.string ⟨k.toArray⟩,.int .i64 (pl:Nat)] 173 (0,0)))
 case first=>
  go_region_law (refine step_append_lies _ (by rfl) _ _ _ (by rfl) B 63 i0 _ 6 80 underlying53 hi0 hz0 hz1 hzb (by rfl) (by decide) (.slice (some ⟨N,0,none⟩) ns.length c) ns.length xs (by rfl) (hrow.drew.alloc _) ⟨K+1,0,none⟩ 1 1 [.int .i64 kd,.string ⟨k.toArray⟩,.string ⟨#[]⟩,.int .i64 0,.slice none 0 0,.int .i64 (pl:Nat)] (by rfl) (by rfl) (World.news_of_block fB.o) hone (by omega) (by unfold maxLen;omega) (by omega) (by simp;omega) _ rfl ?_;intro g cap w3 hown3 hgrow hat hlt3;have hc3:=rY d1 hgrow pO.o;have uB:w3.frozen? ⟨T,0,none⟩=false:=xW xX.o hgrow pO.o)
  all_goals (
   go_wp2_with fail;go_meet;exact adc HD1.o jo.o lQ.o hown3 hgrow)
 case rest=>
  obtain⟨N1,c1,xs1,ks1,hD2,hF2,hb2⟩:=hcut;obtain⟨L,hL⟩:=zN ((ns++[(⟨kd,k,[],0,[],pl⟩:Tn)]).length);have hpl:p<(ns++[(⟨kd,k,[],0,[],pl⟩:Tn)]).length:=by simp;omega
  have hpL:p<L:=by omega
  have d1':=hD2.cells.1;have ni:=hD2.kid p hpl;obtain⟨o4,m4,hv4⟩:=nV ni;obtain⟨-,-,-,-,e4,-,ef⟩:=hD2.node p hpl;obtain⟨cN1,hcN1⟩:=hD2.rowT;rw[hv4]at e4 ni;have hm4:((ns++[(⟨kd,k,[],0,[],pl⟩:Tn)])[p]'hpl).ks.length<=1000000:=by
   have:=HW.o.len p;unfold aA at this;rw[List.getElem?_eq_getElem HP.o]at this;simp only[]at this;rw[List.getElem_append_left HP.o];omega
  obtain⟨m,hm⟩:=zN (((ns++[(⟨kd,k,[],0,[],pl⟩:Tn)])[p]'hpl).ks.length);rw[hm]at hm4 hv4 e4 ni;rw[hL]at d1';obtain⟨ys,hys⟩:∃ys:List Value,(((ns++[(⟨kd,k,[],0,[],pl⟩:Tn)])[p]'hpl).ks.map fun q=>Value.int .i64 (q:Nat))=ys:=⟨_,rfl⟩;rw[hys]at ni;have cZ:Hd (some T≠(Value.slice o4 m m4).ownBlock):=by
   show _≠_;intro e;obtain⟨cc,hcc⟩:=(dO ni e.symm).2;exact aZ hD2.blk hcc (by decide) rfl
  have l9:Hd (some N1≠(Value.slice o4 m m4).ownBlock):=by
   show _≠_;intro e;obtain⟨cc,hcc⟩:=(dO ni e.symm).2;exact aZ hcN1 hcc (by decide) rfl
  have e4A:(wc.alloc (.cells #[.int .i64 (ns.length:Nat)] 3)).cell? ⟨N1,p*6+4,none⟩=some (.slice o4 m m4):=(World.grownBy_alloc wc _ none).cell e4 (by simp);have d1A:(wc.alloc (.cells #[.int .i64 (ns.length:Nat)] 3)).cell? ⟨T,0,none⟩=some (.slice (some ⟨N1,0,none⟩) L c1):=(World.grownBy_alloc wc _ none).cell d1' (by simp);obtain⟨Z,hZ⟩:=zN (wc.heap.size);have hBZ:=Nat.le_of_lt (Nat.lt_of_le_of_lt hD2.bT (aG hD2.blk));have oK:Hd ((wc.drew.alloc (.cells #[.int .i64 (ns.length:Nat)] 3)).heap[Z]?=some (.cells #[.int .i64 (ns.length:Nat)] 3 (0,0))):=by
   have:=heap_alloc_new wc.drew (.cells #[.int .i64 (ns.length:Nat)] 3);rw[show wc.drew.heap.size=Z from hZ]at this;exact this
  have nX:=ae hcN1;have HD2:=ae hD2;have HF2:=ae hF2;have HB2:=ae hb2;have NU:=ae hv4;have pR:=ae hm;have pG:=ae hys;have gX:=ae hpl;have dG:=ae hL;clear hD2 hF2 hb2 hcN1 hv4 hm hys hL;go_upto_region 3 with fail
  go_cut [] from 30 (fun wx=>∃(g cap:Nat) (xs':List Value) (ks':Nat->Value),TrD wx B T (addN ns p ⟨kd,k,[],0,[],pl⟩) now g cap M xs' ks' (ns.length+own.length) (hold ns own)/\Fr B w wx/\wx.heap[K]?=some (.cells #[.string ⟨k.toArray⟩,.int .i64 (pl:Nat)] 173 (0,0)))
  case first=>
   go_region_law (refine step_append_lies _ (by rfl) _ _ _ (by rfl) B 3 j0 _ 1 8 underlying46 hj0 hy0 hy1 hyb (by rfl) (by decide) (.slice o4 m m4) m ys (by rfl) (ni.drew.alloc _) ⟨Z,0,none⟩ 1 1 [.int .i64 (ns.length:Nat)] (by rfl) (by rfl) (World.news_of_block oK.o) NS (by omega) (by unfold maxLen;omega) (by omega) (by simp;omega) _ rfl ?_;intro g cap w3 hown3 hgrow hat hlt3;have hc3:=rY e4 hgrow l9.o;have uB:w3.frozen? ⟨N1,p*6+4,none⟩=false:=xW nX.o hgrow l9.o;have adg:=rY d1' hgrow cZ.o)
   all_goals (
    go_wp2_with fail;go_meet;exact ade HP.o HD2.o HF2.o HB2.o NU.o pR.o pG.o hown3 hgrow hat)
  case rest=>
   obtain⟨N2,c2,xs2,ks2,hD3,hF3,hb3⟩:=hcut;have hp3:p<(addN ns p ⟨kd,k,[],0,[],pl⟩).length:=by rw[bW];omega
   obtain⟨t0,t1,-,-⟩:=hD3.cells;obtain⟨n0,-,-,-,-,-,-⟩:=hD3.node p hp3;have kk:wc.cell? ⟨K,0,none⟩=some (.string ⟨k.toArray⟩):=by rw[aj hb3];rfl
   have hkd:((addN ns p ⟨kd,k,[],0,[],pl⟩)[p]'hp3).kd=ay ns p:=by
    have h1:=eX ns p ⟨kd,k,[],0,[],pl⟩ HP.o p;rw[if_neg (by have:=HP.o;omega)]at h1;rw[<-h1];unfold ay;rw[List.getElem?_eq_getElem hp3]
   rw[hkd]at n0;obtain⟨z,hz⟩:=zN (ay ns p);obtain⟨L3,hL3⟩:=zN ((addN ns p ⟨kd,k,[],0,[],pl⟩).length);have akY:p<L3:=by omega
   rw[hL3]at t0;rw[hz]at n0;have HF3:=ae hF3;have HD3:=ae hD3;have hBc:=Nat.le_of_lt (Nat.lt_of_le_of_lt hD3.bT (aG hD3.blk));obtain⟨w5,qO,VE,hg5⟩:=(hD3.map.block (w':=wc.drew) rfl).put p k (by omega) hk (by omega) ns.length false;unfold pI at qO;have HM5:=ae VE;have fJ:=ae hg5;have HZ:=ae hz;have vW:Hd ((addN ns p ⟨kd,k,[],0,[],pl⟩).length=ns.length+1):=bW _ _ _;clear hD3 hF3 hb3 hkd hL3 hz VE hg5 hp3
   by_cases hz0:z=0
   ·have hb:(z == 0)=true:=by simp[hz0]
    have HZ0:=ae (HZ.o.trans hz0);clear hz0;go_wp2
    go_region
    all_goals (
     go_wp2;refine bodyPost_ret (results_tmp (t:=8) rfl _ _ _) rfl ⟨rfl,⟨N2,c2,M,xs2,ks2,?_⟩,?_⟩
     ·rw[abw ns own p ⟨kd,k,[],0,[],pl⟩ rfl HP.o HW.o HZ0.o (adf.o HZ0.o),vW.o];have h1:=(HD3.o.keeps (w':=wc.drew) (nU ⟨rfl,rfl,rfl,Nat.le_refl _,fun _ _ _=>rfl⟩)).mapd HM5.o fJ.o;exact⟨h1.blk,h1.bT,h1.row,h1.cel,h1.kid,h1.apart,h1.map.mono (by omega),h1.bM⟩
     ·obtain⟨es,cc,hm0⟩:=HD3.o.map.map;exact(HF3.o.two (Fr.gb (w':=wc.drew) ⟨rfl,rfl,rfl,Nat.le_refl _,fun _ _ _=>rfl⟩ hBc)).two (Fr.mapd fJ.o hBc HD3.o.bM hm0))
   ·have hb:(z == 0)=false:=by simp[hz0]
    have HZ0:Hd (¬ay ns p=0):=by show ¬_;rw[HZ.o];exact hz0
    clear hz0;go_wp2;refine bodyPost_ret (results_tmp (t:=8) rfl _ _ _) rfl ⟨rfl,⟨N2,c2,M,xs2,ks2,?_⟩,HF3.o⟩;have h1:=HD3.o;rw[abx ns own p ⟨kd,k,[],0,[],pl⟩ rfl HP.o HW.o HZ0.o,vW.o];exact⟨h1.blk,h1.bT,h1.row,h1.cel,h1.kid,h1.apart,h1.map.mono (by omega),h1.bM⟩
open Go.RowKit Go.Maps Go.WideMaps Go.Joins
theorem VF(ns:List Tn)(own:List Nat)(t:Nat)(k:List UInt8)(h0:ay ns t=0):hold ns own t k=(aK ns t k).map fun q=>(q,decide (q∈own)):=by unfold hold;rw[if_pos h0]
theorem zy{E:Int->TypeId × Value}(h:Es w E)(hg:w.grownBy w' none):Es w' E:=⟨hg.cell h.te (by simp),hg.cell h.ra (by simp),hg.cell h.ma (by simp),hg.cell h.tw (by simp)⟩
theorem qP(w:World)(o:Obj):w.grownBy (w.alloc o).drew none:=by
 have:=World.grownBy_alloc w o none;exact⟨this.os,this.tape,this.output,this.size,this.block⟩
def adh(E:Int->TypeId × Value)(r:Option Nat)(pl:Nat)(w:World)(e:Ending)(w':World):Prop:=(r=none->e=.returned .nilIface)/\(∀q,r=some q->∃v,e=.returned v/\dD w' v E 5 pl)/\w.grownBy w' none
theorem adi(B T:Nat)(ns:List Tn)(own:List Nat)(now:Nat)(E:Int->TypeId × Value)(k:List UInt8)(pl:Nat)(w:World)(h:Tr w B T ns own now)(h0:ay ns now=0)(hnw:now<=1000000)(hk:k.length<=1048576)(he:Es w E) :
  Calls prog 101 #[.pointer (some ⟨T,0,none⟩),.agg #[.string ⟨k.toArray⟩,.int .i64 (pl:Nat)]] w (adh E (aK ns now k) pl w):=by
 obtain⟨N,c,M,xs,ks,hD⟩:=h;have CW:Hd (∀w,Calls prog 124 #[.iface (E 5).1 (E 5).2,.int .i64 (pl:Nat)] w fun e w'=>(∃v,e=.returned v/\FaultV w' v pl (E 5).1 (E 5).2)/\w.grownBy w' none):=fun w=>uh pl _ _ w
 have eH:w.grownBy (w.alloc (.cells #[.string ⟨k.toArray⟩,.int .i64 (pl:Nat)] 173)) none:=World.grownBy_alloc w _ none;have bV:=heap_alloc_new w (.cells #[.string ⟨k.toArray⟩,.int .i64 (pl:Nat)] 173);obtain⟨K,kZ⟩:=zN (w.heap.size);rw[kZ]at bV;have hD1:=hD.keeps (nU eH);have he1:=zy he eH;obtain⟨w1,hw1⟩:=zN (w.alloc (.cells #[.string ⟨k.toArray⟩,.int .i64 (pl:Nat)] 173));rw[hw1]at bV hD1 eH he1;obtain⟨-,t1,t2,-⟩:=hD1.cells;have k0:w1.cell? ⟨K,0,none⟩=some (.string ⟨k.toArray⟩):=by rw[aj bV];rfl
 have k1:w1.cell? ⟨K,1,none⟩=some (.int .i64 (pl:Nat)):=by rw[aj bV];rfl
 have gA:w1.grownBy (w1.alloc (.cells #[.int .i64 0,.bool false] 211)) none:=World.grownBy_alloc w1 _ none;have t1A:=gA.cell t1 (by simp);have t2A:=gA.cell t2 (by simp);have k0A:=gA.cell k0 (by simp);have hl:∀W:World,W.heap[M]?=w1.heap[M]?->(Instr.lookup 96 (.map (some M)) (pI now k) true).run prog W=.ok (match hold ns own now k with|some v=>.tuple #[.agg #[.int .i64 (v.1:Nat),.bool v.2],.bool true]|none=>.tuple #[.agg #[.int .i64 0,.bool false],.bool false]) W:=fun W hW=>(hD1.map.block hW).look now k (by omega) hk
 obtain⟨es,cc,hm0⟩:=hD1.map.map;have l1:=hl w1.drew rfl;have l2:=hl (w1.alloc (.cells #[.int .i64 0,.bool false] 211)).drew ((gA.block M (aG hm0) (by simp)));rw[VF ns own now k h0]at l1 l2;unfold pI at l1 l2;have aC:=ae eH;have lK:=ae he1;have fA:Hd (∀w' v,FaultV w' v pl (E 5).1 (E 5).2->dD w' v E 5 pl):=fun _ _ h=>h
 obtain⟨ty,hty⟩:=zN ((E 5).1);obtain⟨pv,hpv⟩:=zN ((E 5).2);have tw1:=he1.tw;rw[hty,hpv]at CW fA tw1;clear hD bV hD1 eH he1 he hl hm0 hty hpv gA
 cases hq:aK ns now k with
 |none=>
  rw[hq]at l1 l2;simp only[Option.map_none]at l1 l2;clear hq;go_enter func101,ntmps101;go_wp2
  go_region
  all_goals (
   go_wp2;exact bodyPost_ret (results_tmp (t:=4) rfl _ _ _) rfl ⟨fun _=>rfl,fun q hh=>(by cases hh),ak aC.o (qP w1 _)⟩)
 |some q=>
  rw[hq]at l1 l2;simp only[Option.map_some]at l1 l2;have gB:w1.grownBy (w1.alloc (.cells #[.int .i64 (q:Nat),.bool (decide (q∈own))] 211)) none:=World.grownBy_alloc w1 _ none;have twB:=gB.cell tw1 (by simp);have k1B:=gB.cell k1 (by simp);clear hq gB;generalize decide (q∈own)=bb at l1 l2 twB k1B;go_enter func101,ntmps101;go_wp2
  go_region
  all_goals (
   go_wp2_with (go_at_call 124;refine(CW.o _).mono ?_;rintro e w3 ⟨⟨v,rfl,hv⟩,hg3⟩);exact bodyPost_ret (results_tmp (t:=4) rfl _ _ _) rfl ⟨fun hh=>(by cases hh),fun q hh=>⟨v,rfl,fA.o _ _ hv⟩,ak (ak aC.o (qP w1 _)) hg3⟩)
open Go.RowKit Go.Maps Go.WideMaps Go.Joins
def adk(B T:Nat)(own:List Nat)(now:Nat)(E:Int->TypeId × Value)(r:Rs (Nat × List Tn))(w:World)(e:Ending)(w':World):Prop :=
 (∀t ns,r=.ok (t,ns)->e=.returned (.tuple #[.int .i64 (t:Nat),.nilIface])/\Tr w' B T ns own now)/\(∀c p,r=.error (c,p)->∃v,e=.returned (.tuple #[.int .i64 0,v])/\dD w' v E c p)/\Fr B w w'
theorem NV{own:List Nat}(W:WF ns own){t:Nat}(h:aK ns t k=some q):q<ns.length:=W.lt _ _ (ui h).1
theorem Tr.gb{own:List Nat}{now:Nat}(h:Tr w B T ns own now)(hg:w.grownBy w' none):Tr w' B T ns own now:=by
 obtain⟨N,c,M,xs,ks,hD⟩:=h;exact⟨N,c,M,xs,ks,hD.keeps (nU hg)⟩
theorem Tr.base{own:List Nat}{now:Nat}(h:Tr w B T ns own now):B<=w.heap.size:=by
 obtain⟨N,c,M,xs,ks,hD⟩:=h;exact Nat.le_of_lt (Nat.lt_of_le_of_lt hD.bT (aG hD.blk))
theorem gY(h:w.heap[b]?=some (.cells #[v0,v1] t (0,0))):w.cell? ⟨b,0,none⟩=some v0/\w.cell? ⟨b,1,none⟩=some v1/\∀i,w.frozen? ⟨b,i,none⟩=false :=
 ⟨by rw[aj h];rfl,by rw[aj h];rfl,fun i=>Lib.frozen_of_heap h i⟩
theorem adl{v2 v3 v4 v5:Value}(h:w.heap[b]?=some (.cells #[v0,v1,v2,v3,v4,v5] t (0,0))):w.cell? ⟨b,0,none⟩=some v0/\w.cell? ⟨b,4,none⟩=some v4 :=
 ⟨by rw[aj h];rfl,by rw[aj h];rfl⟩
theorem jr{o:Obj}(h:w.heap[b]?=some o)(hg:w.grownBy w' none):w'.heap[b]?=some o:=(hg.block b (aG h) (by simp)).trans h
theorem BC{w1:World}{B T:Nat}{ns:List Tn}{now N c M:Nat}{xs:List Value}{ks:Nat->Value}{n:Nat}{own:List Nat}(hD1:TrD w1 B T ns now N c M xs ks n (hold ns own))(t:Nat)(k:List UInt8)(h0:ay ns t=0)(ht:t<4611686018427387904)(hk:k.length<=1048576)(W:World)(hW:w1.grownBy W none) :
  (Instr.lookup 96 (.map (some M)) (.agg #[.int .i64 (t:Nat),.string ⟨k.toArray⟩]) true).run prog W=.ok (match aK ns t k with|some q=>.tuple #[.agg #[.int .i64 (q:Nat),.bool (decide (q∈own))],.bool true]|none=>.tuple #[.agg #[.int .i64 0,.bool false],.bool false]) W:=by
 obtain⟨es,cc,hm0⟩:=hD1.map.map;have h1:=(hD1.map.block (hW.block M (aG hm0) (by simp))).look t k ht hk;rw[VF ns own t k h0]at h1;unfold pI at h1
 cases hq:aK ns t k with
 |none=>rw[hq]at h1;exact h1
 |some q=>rw[hq]at h1;exact h1
theorem VG(j:Nat)(h:j<=1000000):wrap64 (j:Int)=(j:Int):=by
 unfold wrap64;omega
theorem lS(w:World):w.grownBy w.drew none:=⟨rfl,rfl,rfl,Nat.le_refl _,fun _ _ _=>rfl⟩
theorem adm(B T:Nat)(ns:List Tn)(own:List Nat)(now t:Nat)(E:Int->TypeId × Value)(k:List UInt8)(pl:Nat)(w:World)(h:Tr w B T ns own now)(W:WF ns own)(WW:WT ns)(ht:t<ns.length)(h0:ay ns t=0)(hsz:ns.length+own.length<=1000000)(hk:k.length<=1048576)(he:Es w E) :
  Calls prog 119 #[.pointer (some ⟨T,0,none⟩),.int .i64 (t:Nat),.agg #[.string ⟨k.toArray⟩,.int .i64 (pl:Nat)]] w (adk B T own now E (gm ns t k pl) w):=by
 have CW:Hd (∀w,Calls prog 124 #[.iface (E 5).1 (E 5).2,.int .i64 (pl:Nat)] w fun e w'=>(∃v,e=.returned v/\FaultV w' v pl (E 5).1 (E 5).2)/\w.grownBy w' none):=fun w=>uh pl _ _ w
 have CA:=ae (fun(hn:aK ns t k=none) w' (hg:w.grownBy w' none)=>BA B T ns own now t 0 k pl w' (h.gb hg) W ht (fun _=>hn) hsz hk);have iU:Hd (gm ns t k pl=match aK ns t k with|none=>.ok (ns.length,addN ns t ⟨0,k,[],0,[],pl⟩)|some q=>if ay ns q=0 then .ok (q,ns) else if ay ns q=2 then(match ns[q]? with|some u=>.ok (u.ks.getLastD 0,ns)|none=>.error (5,pl)) else .error (5,pl)):=rfl;have EX:=ae (fun q (hq:aK ns t k=some q)=>NV W hq);have uC:=ae W.len;have nY:=ae h;have hB:=h.base;obtain⟨N,c,M,xs,ks,hD⟩:=h;have eH:w.grownBy (w.alloc (.cells #[.string ⟨k.toArray⟩,.int .i64 (pl:Nat)] 173)) none:=World.grownBy_alloc w _ none;have bV:=heap_alloc_new w (.cells #[.string ⟨k.toArray⟩,.int .i64 (pl:Nat)] 173);obtain⟨K,kZ⟩:=zN (w.heap.size);rw[kZ]at bV;have hD1:=hD.keeps (nU eH);have he1:=zy he eH;obtain⟨w1,hw1⟩:=zN (w.alloc (.cells #[.string ⟨k.toArray⟩,.int .i64 (pl:Nat)] 173))
 rw[hw1]at bV hD1 eH he1;obtain⟨-,t1,-,-⟩:=hD1.cells;have k0:=(gY bV).1;have gA:w1.grownBy (w1.alloc (.cells #[.int .i64 0,.bool false] 211)) none:=World.grownBy_alloc w1 _ none;have t1A:=gA.cell t1 (by simp);have k0A:=gA.cell k0 (by simp);have l1:=BC hD1 t k h0 (by omega) hk w1.drew (lS w1);have l2:=BC hD1 t k h0 (by omega) hk (w1.alloc (.cells #[.int .i64 0,.bool false] 211)).drew (qP w1 _);have aC:=ae eH;have lK:=ae he1;have lQ:=ae bV;have HD1:=ae hD1;have HWW:=ae WW;have fA:Hd (∀w' v,FaultV w' v pl (E 5).1 (E 5).2->dD w' v E 5 pl):=fun _ _ h=>h
 have xY:=ae (fun w' (hg:w1.grownBy w' none)=>(zy he1 hg).tw);obtain⟨ty,hty⟩:=zN ((E 5).1);obtain⟨pv,hpv⟩:=zN ((E 5).2);rw[hty,hpv]at CW fA xY;obtain⟨S,hS⟩:=zN (gm ns t k pl);rw[hS]at iU ⊢;clear hD bV hD1 eH he1 he hty hpv gA hS W WW
 cases hq:aK ns t k with
 |none=>
  have aB:Hd (S=.ok (ns.length,addN ns t ⟨0,k,[],0,[],pl⟩)):=by show S=_;rw[iU.o,hq]
  have Bq:=CA.o hq;have EY:=ae Bq;rw[hq]at l1 l2;clear hq Bq;simp only[]at l1 l2;go_enter func119,ntmps119;go_upto_region 1 with fail
  go_cut [8,9] from 11 (fun v8 v9 wx=>v9=.bool false/\w1.grownBy wx none)
  case first=>
   go_region
   all_goals (
    go_wp2_with fail;go_meet;exact⟨rfl,qP w1 _⟩)
  case rest=>
   obtain⟨rfl,hgc⟩:=hcut;have dU:=ae (ak aC.o hgc);have hbk:=jr lQ.o hgc;obtain⟨kc0,kc1,-⟩:=gY hbk;clear hgc hbk t1 k0 t1A k0A l1 l2;go_wp2_with (go_at_call 125;refine(EY.o _ dU.o).mono ?_;rintro e w3 ⟨rfl,ht3,hf3⟩);refine bodyPost_ret (results_tmp2 (t:=6) (u:=7) rfl _ _ _) rfl ?_;rw[aB.o];exact⟨fun t' ns' hh=>(by cases hh;exact⟨rfl,ht3⟩),fun c p hh=>(by cases hh),(Fr.gb dU.o hB).two hf3⟩
 |some q=>
  have jH:=EX.o q hq;obtain⟨x,hx⟩:=zN (ns[q]);have hkx:ay ns q=x.kd:=by unfold ay;rw[List.getElem?_eq_getElem jH,hx]
  have aB:Hd (S=if x.kd=0 then .ok (q,ns) else if x.kd=2 then .ok (x.ks.getLastD 0,ns) else .error (5,pl)):=by
   show S=_;rw[iU.o,hq];simp only[hkx,List.getElem?_eq_getElem jH,hx]
  have vX:Hd (x.kd=2->x.ks≠[]):=fun h2=>by
   have:=(HWW.o q (hkx.trans h2)).1;unfold aA at this;rw[List.getElem?_eq_getElem jH,hx]at this;exact this
  have EZ:=ae hx;have hxl:x.ks.length<=1000000:=by
   have:=uC.o q;unfold aA at this;rw[List.getElem?_eq_getElem jH,hx]at this;simp only[]at this;omega
  have E8:=ae hxl;clear hxl;rw[hq]at l1 l2;simp only[]at l1 l2;generalize decide (q∈own)=bb at l1 l2;clear hq hx hkx;go_enter func119,ntmps119;go_upto_region 1 with fail
  go_cut [8,9] from 11 (fun v8 v9 wx=>∃H:Nat,v8=.pointer (some ⟨H,0,none⟩)/\wx.heap[H]?=some (.cells #[.int .i64 (q:Nat),.bool bb] 211 (0,0))/\v9=.bool true/\w1.grownBy wx none)
  case first=>
   go_region
   all_goals (
    go_wp2_with fail;go_meet;exact⟨_,rfl,heap_alloc_new w1 _,rfl,qP w1 _⟩)
  case rest=>
   obtain⟨H,rfl,hH,rfl,hgc⟩:=hcut;obtain⟨w2,hw2⟩:∃w2,w2=wc:=⟨_,rfl⟩;subst hw2;have HG2:=ae (ak aC.o hgc);have dU:=ae hgc;have hbk:=jr lQ.o hgc;have hD2:=HD1.o.keeps (nU hgc);obtain⟨T0,-,-,-⟩:=hD2.cells;obtain⟨n0,n1,n2,n3,n4,n5,-⟩:=hD2.node q jH;have hkr:=hD2.kid q jH;rw[EZ.o]at n0 n1 n2 n3 n5 hkr;obtain⟨o4,m4,hv4⟩:=nV hkr;rw[hv4]at n4 hkr;obtain⟨H0,H1,-⟩:=gY hH;have VH:=ae hkr;have Ez:=ae hH;have HB2:=ae hbk;have gZ:w2.grownBy (w2.alloc (.cells #[.int .i64 0,.string ⟨#[]⟩,.string ⟨#[]⟩,.int .i64 0,.slice none 0 0,.int .i64 0] 63)) none:=World.grownBy_alloc w2 _ none;have T0Z:=gZ.cell T0 (by simp);have n0Z:=gZ.cell n0 (by simp);have n1Z:=gZ.cell n1 (by simp);have n2Z:=gZ.cell n2 (by simp);have n3Z:=gZ.cell n3 (by simp);have n4Z:=gZ.cell n4 (by simp);have n5Z:=gZ.cell n5 (by simp);have H0Z:=gZ.cell H0 (by simp);generalize hkm:x.ks.length=m at n4 n4Z VH
   have zA:=ae hkm;clear hgc hbk hD2 hkr hv4 hH gZ hkm t1 k0 t1A k0A l1 l2;go_upto_region 4 with fail
   go_cut [10] from 29 (fun v10 wx=>∃Z:Nat,v10=.pointer (some ⟨Z,0,none⟩)/\wx.heap[Z]?=some (.cells #[.int .i64 x.kd,.string ⟨x.ky.toArray⟩,.string ⟨x.tx.toArray⟩,.int .i64 x.nu,.slice o4 m m4,.int .i64 (x.pl:Nat)] 63 (0,0))/\w2.grownBy wx none)
   case first=>
    go_region
    all_goals (
     go_wp2_with fail;go_meet;exact⟨_,rfl,heap_alloc_new w2 _,qP w2 _⟩)
   case rest=>
    obtain⟨Z,rfl,hZ,hgc⟩:=hcut;obtain⟨z0,z4⟩:=adl hZ;have aU:=ae (ak HG2.o hgc);obtain⟨H0c,-,-⟩:=gY (jr Ez.o hgc);obtain⟨-,k1c,-⟩:=gY (jr HB2.o hgc);have twc:=xY.o _ (ak dU.o hgc);have hkr:=VH.o.kept hgc (by cases (Value.slice o4 m m4).ownBlock<;>simp);have VI:=ae hkr;clear hZ hgc hkr T0 T0Z n0 n1 n2 n3 n4 n5 n0Z n1Z n2Z n3Z n4Z n5Z H0 H1 H0Z;obtain⟨z,hz⟩:=zN (x.kd);have HZ:=ae hz;rw[hz]at z0;clear hz
    by_cases c0:z=0
    ·have hb0:(z == 0)=true:=by simp[c0]
     have HRR:Hd (S=.ok (q,ns)):=by show S=_;rw[aB.o,if_pos (HZ.o.trans c0)]
     clear c0;go_wp2;refine bodyPost_ret (results_tmp2 (t:=6) (u:=7) rfl _ _ _) rfl ?_;rw[HRR.o];exact⟨fun t' ns' hh=>(by cases hh;exact⟨rfl,nY.o.gb aU.o⟩),fun c p hh=>(by cases hh),Fr.gb aU.o hB⟩
    ·have hb0:(z == 0)=false:=by simp[c0]
     by_cases c2:z=2
     ·have hb2:(z == 2)=true:=by simp[c2]
      have hkn:=vX.o (HZ.o.trans c2);have HRR:Hd (S=.ok (x.ks.getLastD 0,ns)):=by show S=_;rw[aB.o,if_neg (by rw[HZ.o];exact c0),if_pos (HZ.o.trans c2)]
      obtain⟨j,hj⟩:∃j,m=j+1:=⟨m-1,by have:=zA.o;have:=List.length_pos_iff.2 hkn;omega⟩;obtain⟨g,cap,VJ,-,-⟩:=VI.o.form (by omega);have hlast:x.ks[j]?=some (x.ks.getLastD 0):=by
       have hl:=zA.o.trans hj;rw[List.getLastD_eq_getLast?,List.getLast?_eq_getElem?,hl];have:x.ks[j+1-1]?=some (x.ks[j]'(by omega)):=List.getElem?_eq_getElem (by omega);rw[this];exact List.getElem?_eq_getElem (by omega)
      have hcl:=VI.o.cells (g:=g) (by rw[VJ];rfl) j (.int .i64 ((x.ks.getLastD 0:Nat):Int)) (by rw[List.getElem?_map,hlast];rfl);rw[uA]at hcl;obtain⟨la,hla⟩:=zN (x.ks.getLastD 0);rw[hla]at hcl;have Fa:=ae hla
      cases VJ
      subst hj;have hj1:j<=1000000:=by
       have h1:=E8.o;have h2:=zA.o;omega
      have hwj:=VG j hj1;have hwk:(wrap64 (j:Int)).toNat=j:=by rw[hwj];exact Int.toNat_natCast j
      clear hj1;clear c0 c2 hkn hlast hla;go_wp2;refine bodyPost_ret (results_tmp2 (t:=6) (u:=7) rfl _ _ _) rfl ?_;rw[HRR.o,Fa.o];exact⟨fun t' ns' hh=>(by cases hh;exact⟨rfl,nY.o.gb aU.o⟩),fun c p hh=>(by cases hh),Fr.gb aU.o hB⟩
     ·have hb2:(z == 2)=false:=by simp[c2]
      have HRR:Hd (S=.error (5,pl)):=by show S=_;rw[aB.o,if_neg (by rw[HZ.o];exact c0),if_neg (by rw[HZ.o];exact c2)]
      clear c0 c2;go_wp2_with (go_at_call 124;refine(CW.o _).mono ?_;rintro e w5 ⟨⟨v,rfl,hv⟩,hg5⟩);refine bodyPost_ret (results_tmp2 (t:=6) (u:=7) rfl _ _ _) rfl ?_;rw[HRR.o];exact⟨fun t' ns' hh=>(by cases hh),fun c p hh=>(by cases hh;exact⟨v,rfl,fA.o _ _ hv⟩),Fr.gb (ak aU.o hg5) hB⟩
open Go.RowKit Go.Maps Go.WideMaps Go.Joins
def VK(B T:Nat)(own:List Nat)(now:Nat)(E:Int->TypeId × Value)(r:Rs (Nat × List Tn))(w:World)(e:Ending)(w':World):Prop :=
 (∀t ns,r=.ok (t,ns)->e=.returned (.tuple #[.int .i64 (t:Nat),.nilIface])/\Tr w' B T ns (t :: own) now)/\(∀c p,r=.error (c,p)->∃v,e=.returned (.tuple #[.int .i64 0,v])/\dD w' v E c p/\∃ns0,Tr w' B T ns0 own now)/\Fr B w w'
theorem Jb{fz:Nat × Nat}(hb:w.heap[b]?=some (.cells cs t fz))(h1:¬t=98)(h2:¬t=63)(h3:¬t=3)(o:Nat)(v:Value):Ja w (w.setCell ⟨b,o,none⟩ v) :=
 ⟨fun b' cs' t' fz' hb' ht=>heap_setCell_other _ _ _ _ (aZ hb' hb (fun e=>by subst e;rcases ht with e|e|e;exact h1 e;exact h2 e;exact h3 e)),fun b' es c hb'=>heap_setCell_other _ _ _ _ (fun e=>qM hb hb' e.symm)⟩
theorem Jc(h:Fr B w w1)(hB:B<=w.heap.size)(hb:w.heap.size<=b)(o:Nat)(v:Value):Fr B w (w1.setCell ⟨b,o,none⟩ v) :=
 ⟨⟨h.bel.os,h.bel.tape,h.bel.output,by have:=h.bel.size;simpa [World.setCell] using this,fun k hk=>(heap_setCell_other _ _ _ _ (by simp;omega)).trans (h.bel.block k hk)⟩,fun b' cs t fz hb' h1 h2 h3=>(heap_setCell_other _ _ _ _ (by have:=aG hb';simp;omega)).trans (h.oth b' cs t fz hb' h1 h2 h3)⟩
theorem adn(B T:Nat)(ns:List Tn)(own:List Nat)(now t:Nat)(E:Int->TypeId × Value)(k:List UInt8)(pl:Nat)(w:World)(h:Tr w B T ns own now)(W:WF ns own)(ht:t<ns.length)(h0:ay ns t=0)(hsz:ns.length+own.length<=900000)(hk:k.length<=1048576)(he:Es w E) :
  Calls prog 121 #[.pointer (some ⟨T,0,none⟩),.int .i64 (t:Nat),.agg #[.string ⟨k.toArray⟩,.int .i64 (pl:Nat)]] w (VK B T own now E (gy ns own t k pl) w):=by
 have CW:Hd (∀w,Calls prog 124 #[.iface (E 5).1 (E 5).2,.int .i64 (pl:Nat)] w fun e w'=>(∃v,e=.returned v/\FaultV w' v pl (E 5).1 (E 5).2)/\w.grownBy w' none):=fun w=>uh pl _ _ w
 have CA:=ae (fun(hn:aK ns t k=none) w' (hg:w.grownBy w' none)=>BA B T ns own now t 0 k pl w' (h.gb hg) W ht (fun _=>hn) (by omega) hk);have iU:Hd (gy ns own t k pl=match aK ns t k with|none=>.ok (ns.length,addN ns t ⟨0,k,[],0,[],pl⟩)|some q=>if ay ns q=0/\¬q∈own then .ok (q,ns) else .error (5,pl)):=rfl;have EX:=ae (fun q (hq:aK ns t k=some q)=>NV W hq);have nY:=ae h;have qQ:=ae W;have hB:=h.base;obtain⟨N,c,M,xs,ks,hD⟩:=h;have eH:w.grownBy (w.alloc (.cells #[.string ⟨k.toArray⟩,.int .i64 (pl:Nat)] 173)) none:=World.grownBy_alloc w _ none;have bV:=heap_alloc_new w (.cells #[.string ⟨k.toArray⟩,.int .i64 (pl:Nat)] 173);obtain⟨K,kZ⟩:=zN (w.heap.size);rw[kZ]at bV;have qN:(w.alloc (.cells #[.string ⟨k.toArray⟩,.int .i64 (pl:Nat)] 173)).heap.size=K+1:=by rw[World.size_alloc,kZ]
 obtain⟨wa,hwa⟩:=zN (w.alloc (.cells #[.string ⟨k.toArray⟩,.int .i64 (pl:Nat)] 173));rw[hwa]at bV eH qN;have Jd:wa.grownBy (wa.alloc (.cells #[.int .i64 (t:Nat),.string ⟨k.toArray⟩] 214)) none:=World.grownBy_alloc wa _ none;have hbS:=heap_alloc_new wa (.cells #[.int .i64 (t:Nat),.string ⟨k.toArray⟩] 214);rw[qN]at hbS;obtain⟨S8,hS8⟩:=zN (K+1);rw[hS8]at hbS qN;obtain⟨w1,hw1⟩:=zN (wa.alloc (.cells #[.int .i64 (t:Nat),.string ⟨k.toArray⟩] 214));rw[hw1]at hbS Jd;have k0a:=(gY bV).1;have VL:=jr bV Jd;have Je:=ak eH Jd;have hD1:=hD.keeps (nU Je);have he1:=zy he Je;obtain⟨-,t1,-,-⟩:=hD1.cells;obtain⟨s0,s1,-⟩:=gY hbS;have gA:w1.grownBy (w1.alloc (.cells #[.int .i64 0,.bool false] 211)) none:=World.grownBy_alloc w1 _ none;have t1A:=gA.cell t1 (by simp);have s0A:=gA.cell s0 (by simp);have s1A:=gA.cell s1 (by simp)
 have l1:=BC hD1 t k h0 (by omega) hk w1.drew (lS w1);have l2:=BC hD1 t k h0 (by omega) hk (w1.alloc (.cells #[.int .i64 0,.bool false] 211)).drew (qP w1 _);have aC:=ae Je;have lQ:=ae VL;have IV:=ae hbS;have HD1:=ae hD1;have fA:Hd (∀w' v,FaultV w' v pl (E 5).1 (E 5).2->dD w' v E 5 pl):=fun _ _ h=>h
 have xY:=ae (fun w' (hg:w1.grownBy w' none)=>(zy he1 hg).tw);obtain⟨ty,hty⟩:=zN ((E 5).1);obtain⟨pv,hpv⟩:=zN ((E 5).2);rw[hty,hpv]at CW fA xY;obtain⟨S,hS⟩:=zN (gy ns own t k pl);rw[hS]at iU ⊢;clear hD bV VL hbS hD1 eH Jd Je he1 he hty hpv gA hS W
 cases hq:aK ns t k with
 |none=>
  have aB:Hd (S=.ok (ns.length,addN ns t ⟨0,k,[],0,[],pl⟩)):=by show S=_;rw[iU.o,hq]
  have EY:=ae (CA.o hq);have NW:=ae (rU ns own t ⟨0,k,[],0,[],pl⟩ rfl ht qQ.o);have zB:Hd (ay (addN ns t ⟨0,k,[],0,[],pl⟩) t=0):=by
   show _=_;rw[eX ns t ⟨0,k,[],0,[],pl⟩ ht,if_neg (by omega)];exact h0
  have jU:Hd (aK (addN ns t ⟨0,k,[],0,[],pl⟩) t k=some ns.length):=by
   show _=_;rw[MW ns own t ⟨0,k,[],0,[],pl⟩ rfl ht qQ.o,if_pos rfl,hq];simp only[if_true]
  have jv:Hd ((addN ns t ⟨0,k,[],0,[],pl⟩).length=ns.length+1):=bW _ _ _;rw[hq]at l1 l2;simp only[]at l1 l2;clear hq;go_enter func121,ntmps121;go_upto_region 2 with fail
  go_cut [9,10] from 15 (fun v9 v10 wx=>∃H:Nat,v9=.pointer (some ⟨H,0,none⟩)/\wx.heap[H]?=some (.cells #[.int .i64 0,.bool false] 211 (0,0))/\v10=.bool false/\w1.grownBy wx none/\w1.heap.size<=H)
  case first=>
   go_region
   all_goals (
    go_wp2_with fail;go_meet;exact⟨_,rfl,heap_alloc_new w1 _,rfl,qP w1 _,Nat.le_refl _⟩)
  case rest=>
   obtain⟨H,rfl,hH,rfl,hgc,hHw⟩:=hcut;have BD:=ae (Nat.le_trans aC.o.size hHw);have dU:=ae (ak aC.o hgc);obtain⟨kc0,kc1,-⟩:=gY (jr lQ.o hgc);have su:=ae hH;have HSc:=ae (jr IV.o hgc);clear hgc hH hHw t1 t1A s0 s1 s0A s1A k0a l1 l2;go_wp2_with (go_at_call 125;refine(EY.o _ dU.o).mono ?_;rintro e w3 ⟨rfl,ht3,hf3⟩;obtain⟨hh0,hh1,uD⟩:=gY ((hf3.oth _ _ _ _ su.o (by decide) (by decide) (by decide)).trans su.o);have VM:=uD 0);obtain⟨N',c',M',xs',ks',hD3⟩:=ht3;have hH3:=(hf3.oth _ _ _ _ su.o (by decide) (by decide) (by decide)).trans su.o;have hS3:=(hf3.oth _ _ _ _ HSc.o (by decide) (by decide) (by decide)).trans HSc.o;have Jf:(w3.setCell ⟨H,0,none⟩ (.int .i64 (ns.length:Nat))).heap[H]?=some (.cells #[.int .i64 (ns.length:Nat),.bool false] 211 (0,0)):=block_setCell (i:=0) hH3 _;have hS4:=(heap_setCell_other w3 ⟨H,0,none⟩ S8 (.int .i64 (ns.length:Nat)) (aZ hS3 hH3 (by decide))).trans hS3
   have hH7:((w3.setCell ⟨H,0,none⟩ (.int .i64 (ns.length:Nat))).setCell ⟨H,1,none⟩ (.bool true)).heap[H]?=some (.cells #[.int .i64 (ns.length:Nat),.bool true] 211 (0,0)):=block_setCell (i:=1) Jf _;have hS7:=(heap_setCell_other (w3.setCell ⟨H,0,none⟩ (.int .i64 (ns.length:Nat))) ⟨H,1,none⟩ S8 (.bool true) (aZ hS4 Jf (by decide))).trans hS4;have hD7:=(hD3.keeps (Jb hH3 (by decide) (by decide) (by decide) 0 (.int .i64 (ns.length:Nat)))).keeps (Jb Jf (by decide) (by decide) (by decide) 1 (.bool true));have zC:=Jc (Jc ((Fr.gb dU.o hB).two hf3) hB BD.o 0 (.int .i64 (ns.length:Nat))) hB BD.o 1 (.bool true);have hln:=jv.o;clear hD3 hH3 hS3 Jf hS4 hf3 hh0 hh1 uD VM;obtain⟨w7,hw7⟩:=zN ((w3.setCell ⟨H,0,none⟩ (.int .i64 (ns.length:Nat))).setCell ⟨H,1,none⟩ (.bool true));rw[hw7]at hD7 hH7 hS7 zC ⊢;obtain⟨w8,BF,Fe,oQ⟩:=(hD7.map.block (w':=w7.drew) rfl).put t k (by omega) hk (by omega) ns.length true
   unfold pI at BF;obtain⟨es,cc,hm0⟩:=hD7.map.map;have Ff:=Nat.le_of_lt (Nat.lt_of_le_of_lt hD7.bT (aG hD7.blk));have Fg:=(oQ.block H (aG (w:=w7.drew) hH7) (by simp only[ne_eq,Option.some.injEq];exact qM hH7 hm0)).trans hH7;obtain⟨-,t17,-,-⟩:=hD7.cells;obtain⟨s0,s1,-⟩:=gY hS7;obtain⟨g0,g1,-⟩:=gY hH7;obtain⟨q0,-,-⟩:=gY Fg;have NY:Hd (Tr w8 B T (addN ns t ⟨0,k,[],0,[],pl⟩) (ns.length :: own) now):=by
    refine⟨N',c',M',xs',ks',?_⟩;rw[TP (addN ns t ⟨0,k,[],0,[],pl⟩) own NW.o t ns.length k zB.o jU.o];have e:=(hD7.keeps (w':=w7.drew) (nU (lS w7))).mapd Fe oQ;exact⟨e.blk,e.bT,e.row,e.cel,e.kid,e.apart,e.map.mono (by simp;omega),e.bM⟩
   have jk:=ae ((zC.two (Fr.gb (lS w7) Ff)).two (Fr.mapd oQ Ff hD7.bM hm0));clear hD7 hH7 hS7 zC Fe oQ hm0 Fg hw7
   go_region
   all_goals (
    go_wp2;refine bodyPost_ret (results_tmp2 (t:=6) (u:=7) rfl _ _ _) rfl ?_;rw[aB.o];exact⟨fun t' ns' hh=>(by cases hh;exact⟨rfl,NY.o⟩),fun c p hh=>(by cases hh),jk.o⟩)
 |some q=>
  have jH:=EX.o q hq;have NW:=ae qQ.o;have zB:=ae h0;have jU:=ae hq;obtain⟨x,hx⟩:=zN (ns[q]);have hkx:ay ns q=x.kd:=by unfold ay;rw[List.getElem?_eq_getElem jH,hx]
  have dP:Hd (S=if x.kd=0/\¬decide (q∈own)=true then .ok (q,ns) else .error (5,pl)):=by
   show S=_;rw[iU.o,hq];simp only[hkx,decide_eq_true_eq]
  have EZ:=ae hx;rw[hq]at l1 l2;simp only[]at l1 l2;generalize decide (q∈own)=bb at l1 l2 dP;clear hq hx hkx;go_enter func121,ntmps121;go_upto_region 2 with fail
  go_cut [9,10] from 15 (fun v9 v10 wx=>∃H:Nat,v9=.pointer (some ⟨H,0,none⟩)/\wx.heap[H]?=some (.cells #[.int .i64 (q:Nat),.bool bb] 211 (0,0))/\v10=.bool true/\w1.grownBy wx none/\w1.heap.size<=H)
  case first=>
   go_region
   all_goals (
    go_wp2_with fail;go_meet;exact⟨_,rfl,heap_alloc_new w1 _,rfl,qP w1 _,Nat.le_refl _⟩)
  case rest=>
   obtain⟨H,rfl,hH,rfl,hgc,hHw⟩:=hcut;have BD:=ae (Nat.le_trans aC.o.size hHw);have dU:=ae (ak aC.o hgc);obtain⟨kc0,kc1,-⟩:=gY (jr lQ.o hgc);have su:=ae hH;have HSc:=ae (jr IV.o hgc);have hDc:=HD1.o.keeps (nU hgc);have HDc:=ae hDc;obtain⟨hh0,hh1,uD⟩:=gY hH;have ado:=uD 1;obtain⟨T0,-,-,-⟩:=hDc.cells;obtain⟨n0,-,-,-,-,-,-⟩:=hDc.node q jH;rw[EZ.o]at n0;have twc:=xY.o _ hgc;obtain⟨z,hz⟩:=zN (x.kd);rw[hz]at n0 dP;clear hgc hH hHw hDc uD hz t1 t1A s0 s1 s0A s1A k0a l1 l2
   by_cases hok:z=0/\¬bb=true
   ·have aB:Hd (S=.ok (q,ns)):=by show S=_;rw[dP.o,if_pos hok]
    have hbb:bb=false:=by simpa using hok.2
    have hzb:(z != 0)=false:=by simp[hok.1]
    subst hbb;clear hok;go_upto_region 5 with fail
    go_quiet (fail);go_upto_region 8 with fail
    have hH7:((wc.drewN nq).setCell ⟨H,1,none⟩ (.bool true)).heap[H]?=some (.cells #[.int .i64 (q:Nat),.bool true] 211 (0,0)):=block_setCell (i:=1) (w:=wc.drewN nq) su.o _;have hS7:=(heap_setCell_other (wc.drewN nq) ⟨H,1,none⟩ S8 (.bool true) (aZ HSc.o su.o (by decide))).trans HSc.o;have hgn:=az (ax wc none) nq;have hD7:=(HDc.o.keeps (nU hgn)).keeps (Jb (w:=wc.drewN nq) su.o (by decide) (by decide) (by decide) 1 (.bool true));have zC:=Jc ((Fr.gb dU.o hB).two (Fr.gb hgn (Nat.le_trans hB dU.o.size))) hB BD.o 1 (.bool true);clear hgn hh0 hh1 ado T0 n0 twc kc0 kc1;obtain⟨w7,hw7⟩:=zN ((wc.drewN nq).setCell ⟨H,1,none⟩ (.bool true));rw[hw7]at hD7 hH7 hS7 zC ⊢;obtain⟨w8,BF,Fe,oQ⟩:=(hD7.map.block (w':=w7.drew) rfl).put t k (by omega) hk (by omega) q true;unfold pI at BF;obtain⟨es,cc,hm0⟩:=hD7.map.map;have Ff:=Nat.le_of_lt (Nat.lt_of_le_of_lt hD7.bT (aG hD7.blk))
    have Fg:=(oQ.block H (aG (w:=w7.drew) hH7) (by simp only[ne_eq,Option.some.injEq];exact qM hH7 hm0)).trans hH7;obtain⟨-,t17,-,-⟩:=hD7.cells;obtain⟨s0,s1,-⟩:=gY hS7;obtain⟨g0,g1,-⟩:=gY hH7;obtain⟨q0,-,-⟩:=gY Fg;have NY:Hd (Tr w8 B T ns (q :: own) now):=by
     refine⟨N,c,M,xs,ks,?_⟩;rw[TP ns own NW.o t q k zB.o jU.o];have e:=(hD7.keeps (w':=w7.drew) (nU (lS w7))).mapd Fe oQ;exact⟨e.blk,e.bT,e.row,e.cel,e.kid,e.apart,e.map.mono (by simp;omega),e.bM⟩
    have jk:=ae ((zC.two (Fr.gb (lS w7) Ff)).two (Fr.mapd oQ Ff hD7.bM hm0));clear hD7 hH7 hS7 zC Fe oQ hm0 Fg hw7
    go_region
    all_goals (
     go_wp2;refine bodyPost_ret (results_tmp2 (t:=6) (u:=7) rfl _ _ _) rfl ?_;rw[aB.o];exact⟨fun t' ns' hh=>(by cases hh;exact⟨rfl,NY.o⟩),fun c p hh=>(by cases hh),jk.o⟩)
   ·have aB:Hd (S=.error (5,pl)):=by show S=_;rw[dP.o,if_neg hok]
    have hcase:bb=true\/(bb=false/\(z != 0)=true):=by
     cases bb with
     |true=>exact Or.inl rfl
     |false=>exact Or.inr ⟨rfl,by simp at hok;simp[hok]⟩
    clear hok;go_upto_region 5 with fail
    rcases hcase with rfl|⟨rfl,hzb⟩
    all_goals (
     go_quiet (fail);go_wp2_with (go_at_call 124;refine(CW.o _).mono ?_;rintro e w5 ⟨⟨v,rfl,hv⟩,hg5⟩);refine bodyPost_ret (results_tmp2 (t:=6) (u:=7) rfl _ _ _) rfl ?_;rw[aB.o];exact⟨fun t' ns' hh=>(by cases hh),fun c p hh=>(by cases hh;exact⟨v,rfl,fA.o _ _ hv,ns,nY.o.gb (ak (az dU.o _) hg5)⟩),Fr.gb (ak (az dU.o _) hg5) hB⟩)
open Go.RowKit Go.Maps Go.WideMaps Go.Joins
theorem Tr.own{own:List Nat}{now:Nat}(h:Tr w B T ns own now)(W:WF ns own)(h0:¬ay ns p=0)(hq:q∈aA ns p):Tr w B T ns (q :: own) now:=by
 obtain⟨N,c,M,xs,ks,e⟩:=h;refine⟨N,c,M,xs,ks,?_⟩;rw[aby ns own W p q h0 hq];exact⟨e.blk,e.bT,e.row,e.cel,e.kid,e.apart,e.map.mono (by simp),e.bM⟩
theorem adp{own:List Nat}{now:Nat}(h:Tr w B T ns own now){H:Nat}(hH:w.heap[H]?=some (.cells cs 211 (0,0)))(o:Nat)(v:Value):Tr (w.setCell ⟨H,o,none⟩ v) B T ns own now:=by
 obtain⟨N,c,M,xs,ks,e⟩:=h;exact⟨N,c,M,xs,ks,e.keeps (Jb hH (by decide) (by decide) (by decide) o v)⟩
theorem VN(ns:List Tn)(up:Nat)(n:Tn)(hu:up<ns.length):ns.length∈aA (addN ns up n) up:=by
 rw[jR ns up n hu,if_neg (by omega),if_pos rfl];simp
theorem adq(B T:Nat)(ns:List Tn)(own:List Nat)(now t:Nat)(E:Int->TypeId × Value)(k:List UInt8)(pl:Nat)(w:World)(h:Tr w B T ns own now)(W:WF ns own)(ht:t<ns.length)(h0:ay ns t=0)(hsz:ns.length+own.length<=900000)(hk:k.length<=1048576)(he:Es w E) :
  Calls prog 120 #[.pointer (some ⟨T,0,none⟩),.int .i64 (t:Nat),.agg #[.string ⟨k.toArray⟩,.int .i64 (pl:Nat)]] w (VK B T own now E (gz ns t k pl) w):=by
 have CW:Hd (∀w,Calls prog 124 #[.iface (E 5).1 (E 5).2,.int .i64 (pl:Nat)] w fun e w'=>(∃v,e=.returned v/\FaultV w' v pl (E 5).1 (E 5).2)/\w.grownBy w' none):=fun w=>uh pl _ _ w
 have CA:=ae (fun(hn:aK ns t k=none) w' (hg:w.grownBy w' none)=>BA B T ns own now t 2 k pl w' (h.gb hg) W ht (fun _=>hn) (by omega) hk);have CB:=ae (fun w' (hg:Tr w' B T (addN ns t ⟨2,k,[],0,[],pl⟩) own now)=>BA B T _ own now ns.length 0 [] pl w' hg (rU ns own t _ rfl ht W) (by rw[bW];omega) (fun h2=>by rw[eX ns t _ ht,if_pos rfl]at h2;exact absurd (show(2:Int)=0 from h2) (by decide)) (by rw[bW];omega) (by simp));have CQ:=ae (fun q (hq:q<ns.length) (h2:ay ns q=2) w' (hg:w.grownBy w' none)=>BA B T ns own now q 0 [] pl w' (h.gb hg) W hq (fun h3=>by rw[h2]at h3;exact absurd h3 (by decide)) (by omega) (by simp));have iU:Hd (gz ns t k pl=match aK ns t k with|none=>.ok (ns.length+1,addN (addN ns t ⟨2,k,[],0,[],pl⟩) ns.length ⟨0,[],[],0,[],pl⟩)|some q=>if ay ns q=2 then .ok (ns.length,addN ns q ⟨0,[],[],0,[],pl⟩) else .error (5,pl)):=rfl
 have EX:=ae (fun q (hq:aK ns t k=some q)=>NV W hq);have qQ:=ae W;have nY:=ae h;have hB:=h.base;obtain⟨N,c,M,xs,ks,hD⟩:=h;have eH:w.grownBy (w.alloc (.cells #[.string ⟨k.toArray⟩,.int .i64 (pl:Nat)] 173)) none:=World.grownBy_alloc w _ none;have bV:=heap_alloc_new w (.cells #[.string ⟨k.toArray⟩,.int .i64 (pl:Nat)] 173);obtain⟨K,kZ⟩:=zN (w.heap.size);rw[kZ]at bV;have hD1:=hD.keeps (nU eH);have he1:=zy he eH;obtain⟨w1,hw1⟩:=zN (w.alloc (.cells #[.string ⟨k.toArray⟩,.int .i64 (pl:Nat)] 173));rw[hw1]at bV hD1 eH he1;obtain⟨-,t1,-,-⟩:=hD1.cells;have k0:=(gY bV).1;have gA:w1.grownBy (w1.alloc (.cells #[.int .i64 0,.bool false] 211)) none:=World.grownBy_alloc w1 _ none;have t1A:=gA.cell t1 (by simp);have k0A:=gA.cell k0 (by simp);have l1:=BC hD1 t k h0 (by omega) hk w1.drew (lS w1);have l2:=BC hD1 t k h0 (by omega) hk (w1.alloc (.cells #[.int .i64 0,.bool false] 211)).drew (qP w1 _)
 have aC:=ae eH;have lQ:=ae bV;have HD1:=ae hD1;have fA:Hd (∀w' v,FaultV w' v pl (E 5).1 (E 5).2->dD w' v E 5 pl):=fun _ _ h=>h
 have xY:=ae (fun w' (hg:w1.grownBy w' none)=>(zy he1 hg).tw);obtain⟨ty,hty⟩:=zN ((E 5).1);obtain⟨pv,hpv⟩:=zN ((E 5).2);rw[hty,hpv]at CW fA xY;obtain⟨S,hS⟩:=zN (gz ns t k pl);rw[hS]at iU ⊢;clear hD bV hD1 eH he1 he hty hpv gA hS W
 cases hq:aK ns t k with
 |none=>
  have aB:Hd (S=.ok (ns.length+1,addN (addN ns t ⟨2,k,[],0,[],pl⟩) ns.length ⟨0,[],[],0,[],pl⟩)):=by show S=_;rw[iU.o,hq]
  have EY:=ae (CA.o hq);have jv:Hd ((addN ns t ⟨2,k,[],0,[],pl⟩).length=ns.length+1):=bW _ _ _;have HOW:Hd (∀w',Tr w' B T (addN (addN ns t ⟨2,k,[],0,[],pl⟩) ns.length ⟨0,[],[],0,[],pl⟩) own now->Tr w' B T (addN (addN ns t ⟨2,k,[],0,[],pl⟩) ns.length ⟨0,[],[],0,[],pl⟩) ((ns.length+1) :: own) now):=fun w' hh=>by
   have hu:ns.length<(addN ns t ⟨2,k,[],0,[],pl⟩).length:=by rw[bW];omega
   have hw1:=rU ns own t ⟨2,k,[],0,[],pl⟩ rfl ht qQ.o;have hm:=VN (addN ns t ⟨2,k,[],0,[],pl⟩) ns.length ⟨0,[],[],0,[],pl⟩ hu;rw[bW]at hm;refine hh.own (rU _ own ns.length ⟨0,[],[],0,[],pl⟩ rfl hu hw1) (p:=ns.length) ?_ hm;rw[eX _ _ _ hu,if_neg (by rw[bW];omega),eX _ _ _ ht,if_pos rfl];exact fun hh=>absurd (show(2:Int)=0 from hh) (by decide)
  rw[hq]at l1 l2;simp only[]at l1 l2;clear hq;go_enter func120,ntmps120;go_upto_region 1 with fail
  go_cut [8,9] from 10 (fun v8 v9 wx=>∃H:Nat,v8=.pointer (some ⟨H,0,none⟩)/\wx.heap[H]?=some (.cells #[.int .i64 0,.bool false] 211 (0,0))/\v9=.bool false/\w1.grownBy wx none/\w1.heap.size<=H)
  case first=>
   go_region
   all_goals (
    go_wp2_with fail;go_meet;exact⟨_,rfl,heap_alloc_new w1 _,rfl,qP w1 _,Nat.le_refl _⟩)
  case rest=>
   obtain⟨H,rfl,hH,rfl,hgc,hHw⟩:=hcut;have BD:=ae (Nat.le_trans aC.o.size hHw);have dU:=ae (ak aC.o hgc);obtain⟨kc0,kc1,-⟩:=gY (jr lQ.o hgc);have su:=ae hH;have BG:=ae (jr lQ.o hgc);clear hgc hH hHw t1 t1A k0 k0A l1 l2;go_wp2_with (go_at_call 125;refine(EY.o _ dU.o).mono ?_);rintro e w3 ⟨rfl,ht3,hf3⟩;have hH3:=(hf3.oth _ _ _ _ su.o (by decide) (by decide) (by decide)).trans su.o;have hK3:=(hf3.oth _ _ _ _ BG.o (by decide) (by decide) (by decide)).trans BG.o;obtain⟨hh0,hh1,uD⟩:=gY hH3;have VM:=uD 0;obtain⟨kk0,kk1,-⟩:=gY hK3;have hkne:=aZ hK3 hH3 (by decide);have HT4:Hd (Tr (w3.setCell ⟨H,0,none⟩ (.int .i64 (ns.length:Nat))) B T (addN ns t ⟨2,k,[],0,[],pl⟩) own now):=adp ht3 hH3 0 _;have HF3:=ae hf3;clear hH3 hK3 ht3 hf3 uD kc0 kc1;go_wp2_with (go_at_call 125;refine(CB.o _ HT4.o).mono ?_;rintro e w4 ⟨rfl,qR,hf4⟩)
   refine bodyPost_ret (results_tmp2 (t:=6) (u:=7) rfl _ _ _) rfl ?_;rw[aB.o];refine⟨fun t' ns' hh=>(by cases hh;exact⟨by rw[jv.o];rfl,HOW.o _ qR⟩),fun c p hh=>(by cases hh),(Jc ((Fr.gb dU.o hB).two HF3.o) hB BD.o 0 _).two hf4⟩
 |some q=>
  have jH:=EX.o q hq;obtain⟨x,hx⟩:=zN (ns[q]);have hkx:ay ns q=x.kd:=by unfold ay;rw[List.getElem?_eq_getElem jH,hx]
  have dP:Hd (S=if x.kd=2 then .ok (ns.length,addN ns q ⟨0,[],[],0,[],pl⟩) else .error (5,pl)):=by
   show S=_;rw[iU.o,hq];simp only[hkx]
  have EZ:=ae hx;have BH:=ae hkx;rw[hq]at l1 l2;simp only[]at l1 l2;generalize decide (q∈own)=bb at l1 l2;clear hq hx hkx;go_enter func120,ntmps120;go_upto_region 1 with fail
  go_cut [8,9] from 10 (fun v8 v9 wx=>∃H:Nat,v8=.pointer (some ⟨H,0,none⟩)/\wx.heap[H]?=some (.cells #[.int .i64 (q:Nat),.bool bb] 211 (0,0))/\v9=.bool true/\w1.grownBy wx none)
  case first=>
   go_region
   all_goals (
    go_wp2_with fail;go_meet;exact⟨_,rfl,heap_alloc_new w1 _,rfl,qP w1 _⟩)
  case rest=>
   obtain⟨H,rfl,hH,rfl,hgc⟩:=hcut;have dU:=ae (ak aC.o hgc);obtain⟨kc0,kc1,-⟩:=gY (jr lQ.o hgc);have hDc:=HD1.o.keeps (nU hgc);obtain⟨hh0,hh1,uD⟩:=gY hH;obtain⟨T0,-,-,-⟩:=hDc.cells;obtain⟨n0,-,-,-,-,-,-⟩:=hDc.node q jH;rw[EZ.o]at n0;have twc:=xY.o _ hgc;obtain⟨z,hz⟩:=zN (x.kd);rw[hz]at n0 dP BH;clear hgc hH hDc uD hz t1 t1A k0 k0A l1 l2
   by_cases hok:z=2
   ·have aB:Hd (S=.ok (ns.length,addN ns q ⟨0,[],[],0,[],pl⟩)):=by show S=_;rw[dP.o,if_pos hok]
    have hzb:(z != 2)=false:=by simp[hok]
    have fD:=ae (BH.o.trans hok);have NZ:=ae (CQ.o q jH fD.o);have HOW:Hd (∀w',Tr w' B T (addN ns q ⟨0,[],[],0,[],pl⟩) own now->Tr w' B T (addN ns q ⟨0,[],[],0,[],pl⟩) (ns.length :: own) now):=fun w' hh=>by
     refine hh.own (rU ns own q ⟨0,[],[],0,[],pl⟩ rfl jH qQ.o) (p:=q) ?_ (VN ns q _ jH);rw[eX _ _ _ jH,if_neg (by omega),fD.o];exact fun hh=>absurd hh (by decide)
    clear hok;go_upto_region 4 with fail
    go_quiet (fail);go_wp2_with (go_at_call 125;refine(NZ.o _ (az dU.o _)).mono ?_;rintro e w4 ⟨rfl,qR,hf4⟩);refine bodyPost_ret (results_tmp2 (t:=6) (u:=7) rfl _ _ _) rfl ?_;rw[aB.o];exact⟨fun t' ns' hh=>(by cases hh;exact⟨rfl,HOW.o _ qR⟩),fun c p hh=>(by cases hh),(Fr.gb (az dU.o _) hB).two hf4⟩
   ·have aB:Hd (S=.error (5,pl)):=by show S=_;rw[dP.o,if_neg hok]
    have hzb:(z != 2)=true:=by simp[hok]
    clear hok;go_upto_region 4 with fail
    go_quiet (fail);go_wp2_with (go_at_call 124;refine(CW.o _).mono ?_;rintro e w5 ⟨⟨v,rfl,hv⟩,hg5⟩);refine bodyPost_ret (results_tmp2 (t:=6) (u:=7) rfl _ _ _) rfl ?_;rw[aB.o];exact⟨fun t' ns' hh=>(by cases hh),fun c p hh=>(by cases hh;exact⟨v,rfl,fA.o _ _ hv,ns,nY.o.gb (ak (az dU.o _) hg5)⟩),Fr.gb (ak (az dU.o _) hg5) hB⟩
end Go.Proofs.YtbcfhgpfgdbjgaaGreatDoor
