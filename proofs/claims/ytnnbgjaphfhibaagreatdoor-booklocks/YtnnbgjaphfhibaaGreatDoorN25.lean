import Derived.Test.YtnnbgjaphfhibaaGreatDoorN23
import Derived.Test.YtnnbgjaphfhibaaGreatDoorN16
import Derived.Test.YtnnbgjaphfhibaaGreatDoorN13
import Derived.Deep.AppendLies
set_option linter.unusedVariables false
set_option linter.unusedSimpArgs false
set_option maxRecDepth 100000
set_option maxHeartbeats 6400000
open Go.Proofs.Tryz
namespace Go.Proofs.YtnnbgjaphfhibaaGreatDoor
open Go.RowKit Go.Maps Go.WideMaps Go.Joins
def fB(ns:List Tn)(t:Nat)(k:List UInt8):Int:=match ah ns t k with|some q=>(q:Int)|none=>-1
theorem Gh{α:Type}(p:α->Bool):∀(l:List α) (i:Nat) (hi:i<l.length),(∀j (hj:j<l.length),j<i->p l[j]=false)->p l[i]=true->l.find? p=some l[i]
 | x :: l,0,_,_,h=>by simp[show p x=true from h]
 | x :: l,i+1,hi,ha,h=>by
  have h0:p x=false:=ha 0 (by simp) (by omega);rw[List.find?_cons,h0];exact Gh p l i (by simpa using hi) (fun j hj hji=>ha (j+1) (by simpa using hj) (by omega)) h
theorem Ti{α:Type}(p:α->Bool):∀(l:List α),(∀j (hj:j<l.length),p l[j]=false)->l.find? p=none
 | [],_=>rfl
 | x :: l,h=>by
  have h0:p x=false:=h 0 (by simp);rw[List.find?_cons,h0];exact Ti p l fun j hj=>h (j+1) (by simpa using hj)
theorem Gj(w:World)(B P:Nat)(ns:List Tn)(m:Nat)(own:List Nat)(N c:Nat)(OV:Value)(xs:List Value)(ks:Nat->Value)(t:Nat)(k:List UInt8)(h:DtD w B P ns m own (.slice (some ⟨N,0,none⟩) ns.length c) OV xs ks)(W:WF ns own)(ht:t<ns.length)(hn:ns.length<=1000000) :
  Calls prog 14 #[.slice (some ⟨N,0,none⟩) ns.length c,.int .i64 (t:Nat),.string ⟨k.toArray⟩] w fun e w'=>e=.returned (.int .i64 (fB ns t k))/\w'=w:=by
 obtain⟨-,-,-,-,e4,-,-⟩:=h.node t ht;have hrow:=h.kid t ht;obtain⟨o,cp,hv⟩:=kV hrow;rw[hv]at e4 hrow;have hks:ae ns t=ns[t].ks:=by unfold ae;rw[List.getElem?_eq_getElem ht]
 have hlen:ns[t].ks.length<=1000000:=by have:=W.len t;rw[hks]at this;omega
 have uj:Hd (fB ns t k=match (ns[t].ks.find? (gK ns k)) with|some q=>(q:Int)|none=>-1):=by
  show _=_;unfold fB;rw[qp,hks]
 have HC:Hd (∀i (hi:i<ns[t].ks.length),∃g,o=some ⟨g,0,none⟩/\w.cell? ⟨g,i,none⟩=some (.int .i64 (ns[t].ks[i]:Nat))):=fun i hi=>by
  rcases hrow.2 with⟨e1,e2⟩|⟨g,cap,cur,e1,_⟩
  ·omega
  ·injection e1 with e1 _ _
   refine⟨g,e1,?_⟩;have:=hrow.cells (g:=g) (by rw[e1];rfl) i (.int .i64 (ns[t].ks[i]:Nat)) (by rw[List.getElem?_map,List.getElem?_eq_getElem hi];rfl);rw[mr]at this;exact this
 have HL:Hd (∀i (hi:i<ns[t].ks.length),ns[t].ks[i]<ns.length):=fun i hi=>W.lt t _ (by rw[hks];exact List.getElem_mem hi)
 have HN:Hd (∀q (hq:q<ns.length),w.cell? ⟨N,q*6+1,none⟩=some (.string ⟨ns[q].ky.toArray⟩)/\gK ns k q=decide (ns[q].ky=k)):=fun q hq=>⟨(h.node q hq).2.1,by unfold gK;rw[List.getElem?_eq_getElem hq]⟩
 obtain⟨K,hK⟩:=zN (ns[t].ks);rw[hK]at uj HC HL hlen e4;obtain⟨r,hr⟩:=zN (fB ns t k);rw[hr]at uj ⊢;obtain⟨L,hL⟩:=zN (ns.length);have jZ:Hd (ns.length=L):=hL;obtain⟨M,hM⟩:=zN (K.length);have mG:Hd (K.length=M):=hM;rw[hL]at ht hn ⊢;rw[hM]at hlen e4;clear hrow hv hks h W hK hr hL hM;go_enter func14,ntmps14;go_wp2;go_loopw [7] (fun vi wr=>∃i:Nat,vi=.int .i64 (i:Nat)/\i<=M/\(∀j (hj:j<K.length),j<i->gK ns k K[j]=false)/\w=wr) (fun vi _=>M-(intOf vi).toNat)
 case atStart=>exact⟨0,rfl,by omega,fun j hj h=>absurd h (by omega),rfl⟩
 case round =>
  obtain⟨i,rfl,hi,hpre,rfl⟩:=hrel;have KU:Hd (∀j (hj:j<K.length),j<i->gK ns k K[j]=false):=hpre;clear hpre
  by_cases hlt:i<M
  ·have hlt':i<K.length:=by rw[mG.o];exact hlt
   obtain⟨g,hg,cg⟩:=HC.o i hlt';have hq:=HL.o i hlt';have hkb:=HN.o K[i] hq;obtain⟨q,hqe⟩:=zN (K[i]);have mg:Hd (K[i]=q):=hqe;rw[jZ.o]at hq;rw[hqe]at cg hq;have hq':q<ns.length:=by rw[jZ.o];exact hq
   have HKB:Hd (w.cell? ⟨N,q*6+1,none⟩=some (.string ⟨(ns[q]'hq').ky.toArray⟩)/\gK ns k q=decide ((ns[q]'hq').ky=k)):=HN.o q hq';obtain⟨y,hy⟩:=zN ((ns[q]'hq').ky);rw[hy]at HKB;have cy:=HKB.o.1;have dY:Hd (gK ns k q=decide (y=k)):=HKB.o.2;subst hg;clear hkb hqe hy HKB
   by_cases hyk:y=k
   ·have hse:(y == k)=true:=by simpa using hyk
    have HRR:Hd (r=(q:Int)):=by
     show r=_;rw[uj.o,Gh (gK ns k) K i (by rw[mG.o];exact hlt) KU.o (by rw[mg.o,dY.o,decide_eq_true hyk]),mg.o]
    clear hyk;go_wp2;go_ret;exact⟨dB HRR.o.symm,rfl⟩
   ·have hse:(y == k)=false:=by simpa using hyk
    have HP2:Hd (∀j (hj:j<K.length),j<i+1->gK ns k K[j]=false):=fun j hj hji=>by
     by_cases hj':j<i
     ·exact KU.o j hj hj'
     ·have e:j=i:=by omega
      subst e;rw[mg.o,dY.o,decide_eq_false hyk]
    clear hyk;go_wp2;refine⟨⟨i+1,by go_num,by omega,HP2.o,by first|trivial|rfl⟩,?_⟩;simp[intOf];omega
  ·have afJ:M<=i:=by omega
   have HRR:Hd (r=-1):=by
    show r=_;rw[uj.o,Ti (gK ns k) K fun j hj=>KU.o j hj (by rw[mG.o]at hj;omega)]
   go_wp2;go_ret;exact⟨dB HRR.o.symm,rfl⟩
open Go.RowKit Go.Maps Go.WideMaps Go.Joins
theorem Tj:(prog.info? 45).map (fun i=>(i.zero,i.size,i.bytes))=some (some (.agg #[.int .i64 0,.string ⟨#[]⟩,.string ⟨#[]⟩,.int .i64 0,.slice none 0 0,.int .i64 0]),6,80):=by kernel_rfl
theorem Tm:(prog.info? 4).map (fun i=>(i.zero,i.size,i.bytes))=some (some (.bool false),1,1):=by kernel_rfl
theorem Tq:∀u∈([.bool false]:List Value),u.oneCell'=true:=by
 intro u hu;simp only[List.mem_cons,List.not_mem_nil,or_false]at hu
 rcases hu with rfl;rfl
def Gm(x:Tn):List Value:=[.int .i64 x.kd,.string ⟨x.ky.toArray⟩,.string ⟨x.tx.toArray⟩,.int .i64 x.nu,.slice none 0 0,.int .i64 (x.pl:Nat)]
section
variable {w1 w3:World} {B P R:Nat} {s:ByteArray} {now de:Nat} {q:Rs Nat} {ns:List Tn} {m:Nat} {own:List Nat} {LV OV:Value} {xs:List Value} {ks:Nat->Value}
theorem Tt{g cap:Nat}{o:Obj}(x:Tn)(hx:x.ks=[])(h:DtD w1 B P ns m own LV OV xs ks)(hR:Ds w1 R s LV OV now de q)(jg:B<=R)(oH:¬P=R)(hPL:LV.ownBlock≠some P)
  (ho:w3.ownsRow B 45 6 (.slice (some ⟨g,0,none⟩) (ns.length+1) cap) (ns.length+1) (xs++Gm x)) (hg:(w1.drew.alloc o).grownBy w3 LV.ownBlock) (hat:LV.ownBlock=some g\/g=(w1.drew.alloc o).heap.size) :
  ∃xs' ks',DtD (w3.setCell ⟨R,2,none⟩ (.slice (some ⟨g,0,none⟩) (ns.length+1) cap)) B P (ns++[x]) m own (.slice (some ⟨g,0,none⟩) (ns.length+1) cap) OV xs' ks'/\Ds (w3.setCell ⟨R,2,none⟩ (.slice (some ⟨g,0,none⟩) (ns.length+1) cap)) R s (.slice (some ⟨g,0,none⟩) (ns.length+1) cap) OV now de q/\DFr B P w1 (w3.setCell ⟨R,2,none⟩ (.slice (some ⟨g,0,none⟩) (ns.length+1) cap))/\¬P=g:=by
 have g0:w1.grownBy (w1.drew.alloc o) none:=by
  have:=World.grownBy_alloc w1.drew o none;exact⟨this.os,this.tape,this.output,this.size,this.block⟩
 obtain⟨w2,hw2⟩:∃W,w1.drew.alloc o=W:=⟨_,rfl⟩;rw[hw2]at g0 hg hat;obtain⟨i,er,p,hd⟩:=hR.dd;have hB1:B<=w1.heap.size:=Nat.le_of_lt (Nat.lt_of_le_of_lt jg (aA hd));have h2:=h.gb g0;have hR2:=hR.grow g0;have h3:=h2.push (L:=ns.length+1) x hx rfl ho hg;have uk:=hR2.app h2.row hg (by decide);obtain⟨i3,er3,p3,hd3⟩:=uk.dd;have hB2:B<=w2.heap.size:=Nat.le_trans hB1 g0.size;refine⟨_,_,h3.keepR hd3 (iq w3 R 2 _),uk.setL _,((DFr.gb g0 hB1 h.hP).two (DFr.app h2.row hg hB2 h2.hP hPL (Or.inr (Or.inl rfl)))).two (DFr.row (iq w3 R 2 _) (Nat.le_trans hB2 hg.size) h3.hP jg oH hd3 (Or.inl rfl)),?_⟩;intro e
 rcases hat with e1|e1
 ·exact hPL (by rw[e1,e])
 ·have:=h2.hP;omega
theorem Tu{g cap:Nat}{o:Obj}(h:DtD w1 B P ns m own LV OV xs ks)(hR:Ds w1 R s LV OV now de q)(jg:B<=R)(oH:¬P=R)(BH:OV.ownBlock≠some P)(hm:¬m∈own)
  (ho:w3.ownsRow B 4 1 (.slice (some ⟨g,0,none⟩) (m+1) cap) (m+1) (oG m own++[.bool false])) (hg:(w1.alloc o).grownBy w3 OV.ownBlock) (hat:OV.ownBlock=some g\/g=(w1.alloc o).heap.size) :
  DtD (w3.setCell ⟨R,3,none⟩ (.slice (some ⟨g,0,none⟩) (m+1) cap)) B P ns (m+1) own LV (.slice (some ⟨g,0,none⟩) (m+1) cap) xs ks/\Ds (w3.setCell ⟨R,3,none⟩ (.slice (some ⟨g,0,none⟩) (m+1) cap)) R s LV (.slice (some ⟨g,0,none⟩) (m+1) cap) now de q/\DFr B P w1 (w3.setCell ⟨R,3,none⟩ (.slice (some ⟨g,0,none⟩) (m+1) cap))/\¬P=g:=by
 have g0:w1.grownBy (w1.alloc o) none:=World.grownBy_alloc w1 o none;obtain⟨w2,hw2⟩:∃W,w1.alloc o=W:=⟨_,rfl⟩;rw[hw2]at g0 hg hat;obtain⟨i,er,p,hd⟩:=hR.dd;have hB1:B<=w1.heap.size:=Nat.le_of_lt (Nat.lt_of_le_of_lt jg (aA hd));have h2:=h.gb g0;have hR2:=hR.grow g0;have h3:=h2.flag (L:=m+1) rfl hm ho hg;have uk:=hR2.app h2.owr hg (by decide);obtain⟨i3,er3,p3,hd3⟩:=uk.dd;have hB2:B<=w2.heap.size:=Nat.le_trans hB1 g0.size;refine⟨h3.keepR hd3 (iq w3 R 3 _),uk.setO _,((DFr.gb g0 hB1 h.hP).two (DFr.app h2.owr hg hB2 h2.hP BH (Or.inr (Or.inr (Or.inr rfl))))).two (DFr.row (iq w3 R 3 _) (Nat.le_trans hB2 hg.size) h3.hP jg oH hd3 (Or.inl rfl)),?_⟩;intro e
 rcases hat with e1|e1
 ·exact BH (by rw[e1,e])
 ·have:=h2.hP;omega
theorem aaV{N c g cap M:Nat}{o:Obj}{x:Tn}(up:Nat)(hup:up<ns.length)(hpl:up<(ns++[x]).length)(h:DtD w1 B P (ns++[x]) m own (.slice (some ⟨N,0,none⟩) (ns++[x]).length c) OV xs ks)(hR:Ds w1 R s (.slice (some ⟨N,0,none⟩) (ns++[x]).length c) OV now de q)(jg:B<=R)(Gn:¬P=N)(hM:((ns++[x])[up]'hpl).ks.length=M)
  (ho:w3.ownsRow B 3 1 (.slice (some ⟨g,0,none⟩) (M+1) cap) (M+1) ((((ns++[x])[up]'hpl).ks.map fun q=>Value.int .i64 (q:Nat))++[.int .i64 (ns.length:Nat)])) (hg:(w1.drew.alloc o).grownBy w3 (ks up).ownBlock) (hat:(ks up).ownBlock=some g\/g=(w1.drew.alloc o).heap.size) :
  ∃xs' ks',DtD (w3.setCell ⟨N,up*6+4,none⟩ (.slice (some ⟨g,0,none⟩) (M+1) cap)) B P (addN ns up x) m own (.slice (some ⟨N,0,none⟩) (addN ns up x).length c) OV xs' ks'/\Ds (w3.setCell ⟨N,up*6+4,none⟩ (.slice (some ⟨g,0,none⟩) (M+1) cap)) R s (.slice (some ⟨N,0,none⟩) (addN ns up x).length c) OV now de q/\DFr B P w1 (w3.setCell ⟨N,up*6+4,none⟩ (.slice (some ⟨g,0,none⟩) (M+1) cap)):=by
 have g0:w1.grownBy (w1.drew.alloc o) none:=by
  have:=World.grownBy_alloc w1.drew o none;exact⟨this.os,this.tape,this.output,this.size,this.block⟩
 obtain⟨w2,hw2⟩:∃W,w1.drew.alloc o=W:=⟨_,rfl⟩;rw[hw2]at g0 hg hat;obtain⟨i,er,p,hd⟩:=hR.dd;have hB1:B<=w1.heap.size:=Nat.le_of_lt (Nat.lt_of_le_of_lt jg (aA hd));have h2:=h.gb g0;have hR2:=hR.grow g0;have hB2:B<=w2.heap.size:=Nat.le_trans hB1 g0.size;have h3:=h2.kidp (L:=M+1) up hpl ns.length (by rw[hM]) ho hg (by rcases hat with e|e;exact Or.inl e;exact Or.inr (by omega));rw[QJ ns up x hup hpl]at h3;have elen:(ns++[x]).length=(addN ns up x).length:=by rw[bZ];simp
 rw[elen]at h3;have uk:=hR2.app (h2.kid up hpl) hg (by decide);obtain⟨cN,kW⟩:=(bn h2.row (g:=N) rfl).2;have hN3:w3.heap[N]?=some (.cells cN 45 (0,0)):=(hg.block N (aA kW) (fun e=>by
  obtain⟨cc,hcc⟩:=h2.kidOwn hpl e.symm;exact aP kW hcc (by decide) rfl)).trans kW
 obtain⟨i3,er3,p3,hd3⟩:=uk.dd;rw[elen]at uk;refine⟨_,_,h3,uk.other (iq w3 N _ _) (aP hd3 hN3 (by decide)),?_⟩;exact((DFr.gb g0 hB1 h.hP).two (DFr.app (h2.kid up hpl) hg hB2 h2.hP (h2.far up hpl) (Or.inr (Or.inr (Or.inl rfl))))).two (DFr.row (iq w3 N _ _) (Nat.le_trans hB2 hg.size) (Nat.lt_of_lt_of_le h2.hP hg.size) (bn h2.row (g:=N) rfl).1 Gn hN3 (Or.inr (Or.inl rfl)))
end
open Go.RowKit Go.Maps Go.WideMaps Go.Joins
theorem Tz(x:Tn):∀u∈Gm x,u.oneCell'=true:=QH x
def zh(B P R:Nat)(s:ByteArray)(now de:Nat)(q:Rs Nat)(ns:List Tn)(own:List Nat)(ns':List Tn)(w:World)(e:Ending)(w':World):Prop:=e=.returned (.int .i64 (ns.length:Nat))/\Dt w' B P R s now de q ns' own/\DFr B P w w'
theorem um(B P R:Nat)(s:ByteArray)(now de:Nat)(q:Rs Nat)(ns:List Tn)(own:List Nat)(up:Nat)(kd nu:Int)(ky tx:List UInt8)(pl:Nat)(w:World)(h:Dt w B P R s now de q ns own)(W:WF ns own)(hup:up<ns.length)(hsz:ns.length<=1000000) :
  Calls prog 29 #[.pointer (some ⟨R,0,none⟩),.int .i64 (up:Nat),.agg #[.int .i64 kd,.string ⟨ky.toArray⟩,.string ⟨tx.toArray⟩,.int .i64 nu,.slice none 0 0,.int .i64 (pl:Nat)]] w (zh B P R s now de q ns own (addN ns up ⟨kd,ky,tx,nu,[],pl⟩) w):=by
 obtain⟨jg,oH,N,c,O,oc,xs,ks,Gn,BH,hD,hS⟩:=h;obtain⟨i0,hi0,hii⟩:=Option.map_eq_some_iff.1 Tj;simp only[Prod.mk.injEq]at hii;obtain⟨hz0,hz1,hzb⟩:=hii;obtain⟨j0,hj0,hjj⟩:=Option.map_eq_some_iff.1 Jv;simp only[Prod.mk.injEq]at hjj;obtain⟨hy0,hy1,hyb⟩:=hjj;obtain⟨b0,hb0,hbb⟩:=Option.map_eq_some_iff.1 Tm;simp only[Prod.mk.injEq]at hbb;obtain⟨hx0,hx1,hxb⟩:=hbb;have hone:=Tz ⟨kd,ky,tx,nu,[],pl⟩;have vW:Hd (Gm ⟨kd,ky,tx,nu,[],pl⟩=[.int .i64 kd,.string ⟨ky.toArray⟩,.string ⟨tx.toArray⟩,.int .i64 nu,.slice none 0 0,.int .i64 (pl:Nat)]):=rfl;rw[vW.o]at hone;have AQ:=QI ns.length;have KW:=Tq;obtain⟨K,iR⟩:=zN (w.heap.size);have eG:w.grownBy (w.alloc (.cells #[.int .i64 kd,.string ⟨ky.toArray⟩,.string ⟨tx.toArray⟩,.int .i64 nu,.slice none 0 0,.int .i64 (pl:Nat)] 45)) none:=World.grownBy_alloc w _ none;have bY:=heap_alloc_new w (.cells #[.int .i64 kd,.string ⟨ky.toArray⟩,.string ⟨tx.toArray⟩,.int .i64 nu,.slice none 0 0,.int .i64 (pl:Nat)] 45)
 have pg:(w.alloc (.cells #[.int .i64 kd,.string ⟨ky.toArray⟩,.string ⟨tx.toArray⟩,.int .i64 nu,.slice none 0 0,.int .i64 (pl:Nat)] 45)).heap.size=K+1:=by rw[World.size_alloc,iR]
 rw[iR]at bY;have hD1:=hD.gb eG;have hS1:=hS.grow eG;obtain⟨ii,er,pp,hdd⟩:=hS.dd;have hBs:B<=w.heap.size:=Nat.le_of_lt (Nat.lt_of_le_of_lt jg (aA hdd));have je:Hd (DFr B P w (w.alloc (.cells #[.int .i64 kd,.string ⟨ky.toArray⟩,.string ⟨tx.toArray⟩,.int .i64 nu,.slice none 0 0,.int .i64 (pl:Nat)] 45))):=DFr.gb eG hBs hD.hP;obtain⟨w1,hw1⟩:=zN (w.alloc (.cells #[.int .i64 kd,.string ⟨ky.toArray⟩,.string ⟨tx.toArray⟩,.int .i64 nu,.slice none 0 0,.int .i64 (pl:Nat)] 45));rw[hw1]at bY pg hD1 je hS1;have hrow:=hD1.row;obtain⟨cN,kW⟩:=(bn hD1.row (g:=N) rfl).2;obtain⟨ii1,er1,pp1,vX⟩:=hS1.dd;have tY:Hd (some R≠(Value.slice (some ⟨N,0,none⟩) ns.length c).ownBlock):=by
  show some R≠some N;simp only[ne_eq,Option.some.injEq];exact aP vX kW (by decide)
 obtain⟨-,-,d2,-,-,-,-,-,dfz⟩:=vX.cells;have dA:(w1.alloc (.cells #[.int .i64 kd,.string ⟨ky.toArray⟩,.string ⟨tx.toArray⟩,.int .i64 nu,.slice none 0 0,.int .i64 (pl:Nat)] 45)).cell? ⟨R,2,none⟩=some (.slice (some ⟨N,0,none⟩) ns.length c):=(World.grownBy_alloc w1 _ none).cell d2 (by simp);have AU:Hd (Dd w1 R s (.slice (some ⟨N,0,none⟩) ns.length c) (.slice (some ⟨O,0,none⟩) ns.length oc) now de ii1 er1 pp1):=vX;have k0:w1.cell? ⟨K,0,none⟩=some (.int .i64 kd):=by rw[af bY];rfl
 have k1:w1.cell? ⟨K,1,none⟩=some (.string ⟨ky.toArray⟩):=by rw[af bY];rfl
 have k2:w1.cell? ⟨K,2,none⟩=some (.string ⟨tx.toArray⟩):=by rw[af bY];rfl
 have k3:w1.cell? ⟨K,3,none⟩=some (.int .i64 nu):=by rw[af bY];rfl
 have k4:w1.cell? ⟨K,4,none⟩=some (.slice none 0 0):=by rw[af bY];rfl
 have k5:w1.cell? ⟨K,5,none⟩=some (.int .i64 (pl:Nat)):=by rw[af bY];rfl
 have HD1:Hd (DtD w1 B P ns ns.length own (.slice (some ⟨N,0,none⟩) ns.length c) (.slice (some ⟨O,0,none⟩) ns.length oc) xs ks):=hD1;have eH:Hd (Ds w1 R s (.slice (some ⟨N,0,none⟩) ns.length c) (.slice (some ⟨O,0,none⟩) ns.length oc) now de q):=hS1;have HW:Hd (WF ns own):=W;have dP:Hd ((w1.drew.alloc (.cells #[.int .i64 kd,.string ⟨ky.toArray⟩,.string ⟨tx.toArray⟩,.int .i64 nu,.slice none 0 0,.int .i64 (pl:Nat)] 45)).heap[K+1]?=some (.cells #[.int .i64 kd,.string ⟨ky.toArray⟩,.string ⟨tx.toArray⟩,.int .i64 nu,.slice none 0 0,.int .i64 (pl:Nat)] 45 (0,0))):=by
  have:=heap_alloc_new w1.drew (.cells #[.int .i64 kd,.string ⟨ky.toArray⟩,.string ⟨tx.toArray⟩,.int .i64 nu,.slice none 0 0,.int .i64 (pl:Nat)] 45);rw[show w1.drew.heap.size=K+1 from pg]at this;exact this
 have HP:Hd (up<ns.length):=hup;have vY:Hd (¬P=R/\¬P=N/\¬P=O):=⟨oH,Gn,BH⟩;have aaW:Hd (¬ns.length∈own):=fun hm=>by have:=W.own _ hm;omega
 clear hD eG bY hD1 kW W hS hS1 hdd vX dfz oH Gn BH;go_enter func29,ntmps29;go_upto_region 2 with fail
 go_cut [] from 13 (fun wx=>∃(g cap:Nat) (xs':List Value) (ks':Nat->Value),DtD wx B P (ns++[⟨kd,ky,tx,nu,[],pl⟩]) ns.length own (.slice (some ⟨g,0,none⟩) (ns.length+1) cap) (.slice (some ⟨O,0,none⟩) ns.length oc) xs' ks'/\Ds wx R s (.slice (some ⟨g,0,none⟩) (ns.length+1) cap) (.slice (some ⟨O,0,none⟩) ns.length oc) now de q/\DFr B P w1 wx/\¬P=g)
 case first =>
  go_region_law (refine step_append_lies _ (by rfl) _ _ _ (by rfl) B 45 i0 _ 6 80 underlying39 hi0 hz0 hz1 hzb (by rfl) (by decide) (.slice (some ⟨N,0,none⟩) ns.length c) ns.length xs (by rfl) (hrow.drew.alloc _) ⟨K+1,0,none⟩ 1 1 [.int .i64 kd,.string ⟨ky.toArray⟩,.string ⟨tx.toArray⟩,.int .i64 nu,.slice none 0 0,.int .i64 (pl:Nat)] (by rfl) (by rfl) (World.news_of_block dP.o) hone (by omega) (by unfold maxLen;omega) (by omega) (by simp;omega) _ rfl ?_;intro g cap w3 hown3 hgrow hat hlt3;have hc3:w3.cell? ⟨R,2,none⟩=some (.slice (some ⟨N,0,none⟩) ns.length c):=mF d2 hgrow tY.o;have oq:w3.frozen? ⟨R,2,none⟩=false:=qF AU.o hgrow tY.o)
  all_goals (
   go_wp2_with fail;go_meet;obtain⟨xs',ks',q1,q2,q3,q4⟩:=Tt ⟨kd,ky,tx,nu,[],pl⟩ rfl HD1.o eH.o jg vY.o.1 (fun e=>vY.o.2.1 (Option.some.inj (show some N=some P from e)).symm) hown3 hgrow hat;exact⟨g,cap,xs',ks',q1,q2,q3,q4⟩)
 case rest =>
  obtain⟨N1,c1,xs1,ks1,hD2,hS2,hF2,BI⟩:=hcut;obtain⟨ii2,er2,pp2,sF⟩:=hS2.dd;obtain⟨-,-,e2,e3,-,-,-,-,efz⟩:=sF.cells;have TA:=hD2.owr;obtain⟨cO,TB⟩:=(bn hD2.owr (g:=O) rfl).2;have vZ:Hd (some R≠(Value.slice (some ⟨O,0,none⟩) ns.length oc).ownBlock):=by
   show some R≠some O;simp only[ne_eq,Option.some.injEq];exact aP sF TB (by decide)
  have wu:Hd (Dd wc R s (.slice (some ⟨N1,0,none⟩) (ns.length+1) c1) (.slice (some ⟨O,0,none⟩) ns.length oc) now de ii2 er2 pp2):=sF;have HD2:Hd (DtD wc B P (ns++[⟨kd,ky,tx,nu,[],pl⟩]) ns.length own (.slice (some ⟨N1,0,none⟩) (ns.length+1) c1) (.slice (some ⟨O,0,none⟩) ns.length oc) xs1 ks1):=hD2;have HS2:Hd (Ds wc R s (.slice (some ⟨N1,0,none⟩) (ns.length+1) c1) (.slice (some ⟨O,0,none⟩) ns.length oc) now de q):=hS2;have HF2:Hd (DFr B P w1 wc):=hF2;have Gp:Hd (¬P=N1):=BI;have hBc:B<=wc.heap.size:=Nat.le_of_lt (Nat.lt_of_le_of_lt jg (aA sF));have aaX:(0:Int)<=(up:Int):=by omega
  clear hD2 hS2 hF2 BI sF TB efz;go_upto_region 5 with(first|(at_builtin;refine wpList_append_lies _ rfl _ _ 72 rfl B 4 b0 _ 1 1 underlying72 hb0 hx0 hx1 hxb rfl (by decide) (.slice (some ⟨O,0,none⟩) ns.length oc) ns.length (oG ns.length own) rfl (TA.alloc _) ⟨wc.heap.size,0,none⟩ 1 1 [.bool false] rfl rfl (World.news_of_block (heap_alloc_new _ _)) KW (by omega) (by unfold maxLen;omega) (by omega) (by simp;omega) _ rfl ?_;intro g cap w3 hown3 hgrow hat hlt3;have hc3:w3.cell? ⟨R,3,none⟩=some (.slice (some ⟨O,0,none⟩) ns.length oc):=hgrow.cell ((World.grownBy_alloc wc _ none).cell e3 (by simp)) vZ.o;have oq:w3.frozen? ⟨R,3,none⟩=false:=Lib.frozen_of_heap ((hgrow.block R (by have:=aA wu.o;simp;omega) vZ.o).trans (((World.grownBy_alloc wc _ none).block R (aA wu.o) (by simp)).trans wu.o)) 3))
  obtain⟨hD4,hS4,BJ,Gq⟩:=Tu HD2.o HS2.o jg vY.o.1 (fun e=>vY.o.2.2 (Option.some.inj (show some O=some P from e)).symm) aaW.o hown3 hgrow hat;obtain⟨w4,hw4⟩:∃W,w3.setCell ⟨R,3,none⟩ (.slice (some ⟨g,0,none⟩) (ns.length+1) cap)=W:=⟨_,rfl⟩;rw[hw4]at hD4 hS4 BJ ⊢;have hF5:Hd (DFr B P w1 w4):=HF2.o.two BJ;clear hw4 hown3 hgrow hat hlt3 hc3 oq HD2 HS2 HF2 BJ wu e2 e3 TA vZ hBc;obtain⟨L,hL⟩:=zN ((ns++[(⟨kd,ky,tx,nu,[],pl⟩:Tn)]).length);have hL1:L=ns.length+1:=by rw[<-hL];simp
  have hpl:up<(ns++[(⟨kd,ky,tx,nu,[],pl⟩:Tn)]).length:=by simp;omega
  have hpL:up<L:=by omega
  obtain⟨ii4,er4,pp4,Gs⟩:=hS4.dd;obtain⟨-,-,f2,-,-,-,-,-,ffz⟩:=Gs.cells;have lL:=hD4.kid up hpl;obtain⟨o4,m4,hv4⟩:=kV lL;rw[<-hL1,<-hL]at hD4 hS4;obtain⟨-,-,-,-,e4,-,ef⟩:=hD4.node up hpl;obtain⟨cN1,hcN1⟩:=(bn hD4.row (g:=N1) rfl).2;rw[hv4]at e4 lL;have hm4:((ns++[(⟨kd,ky,tx,nu,[],pl⟩:Tn)])[up]'hpl).ks.length<=1000000:=by
   have:=HW.o.len up;unfold ae at this;rw[List.getElem?_eq_getElem HP.o]at this;simp only[]at this;rw[List.getElem_append_left HP.o];omega
  obtain⟨m,hm⟩:=zN (((ns++[(⟨kd,ky,tx,nu,[],pl⟩:Tn)])[up]'hpl).ks.length);have afK:Hd (w4.ownsRow B 3 1 (.slice o4 ((ns++[(⟨kd,ky,tx,nu,[],pl⟩:Tn)])[up]'hpl).ks.length m4) ((ns++[(⟨kd,ky,tx,nu,[],pl⟩:Tn)])[up]'hpl).ks.length (((ns++[(⟨kd,ky,tx,nu,[],pl⟩:Tn)])[up]'hpl).ks.map fun q=>Value.int .i64 (q:Nat))):=lL;rw[hm]at hm4 hv4 e4 lL;obtain⟨ys,hys⟩:∃ys:List Value,(((ns++[(⟨kd,ky,tx,nu,[],pl⟩:Tn)])[up]'hpl).ks.map fun q=>Value.int .i64 (q:Nat))=ys:=⟨_,rfl⟩;rw[hys]at lL;have bH:Hd (some R≠(Value.slice o4 m m4).ownBlock):=by
   show _≠_;intro e;obtain⟨cc,hcc⟩:=(bn lL e.symm).2;exact aP Gs hcc (by decide) rfl
  have gY:Hd (some N1≠(Value.slice o4 m m4).ownBlock):=by
   show _≠_;intro e;obtain⟨cc,hcc⟩:=(bn lL e.symm).2;exact aP hcN1 hcc (by decide) rfl
  rw[<-hL1]at f2;have e4A:(w4.alloc (.cells #[.int .i64 (ns.length:Nat)] 3)).cell? ⟨N1,up*6+4,none⟩=some (.slice o4 m m4):=(World.grownBy_alloc w4 _ none).cell e4 (by simp);have f2A:(w4.alloc (.cells #[.int .i64 (ns.length:Nat)] 3)).cell? ⟨R,2,none⟩=some (.slice (some ⟨N1,0,none⟩) L c1):=(World.grownBy_alloc w4 _ none).cell f2 (by simp);obtain⟨Z,hZ⟩:=zN (w4.heap.size);have YV:B<=w4.heap.size:=Nat.le_of_lt (Nat.lt_of_le_of_lt jg (aA Gs));have oZ:Hd ((w4.drew.alloc (.cells #[.int .i64 (ns.length:Nat)] 3)).heap[Z]?=some (.cells #[.int .i64 (ns.length:Nat)] 3 (0,0))):=by
   have:=heap_alloc_new w4.drew (.cells #[.int .i64 (ns.length:Nat)] 3);rw[show w4.drew.heap.size=Z from hZ]at this;exact this
  have ku:Hd (w4.heap[N1]?=some (.cells cN1 45 (0,0))):=hcN1;have HD4:Hd (DtD w4 B P (ns++[⟨kd,ky,tx,nu,[],pl⟩]) (ns++[(⟨kd,ky,tx,nu,[],pl⟩:Tn)]).length own (.slice (some ⟨N1,0,none⟩) (ns++[(⟨kd,ky,tx,nu,[],pl⟩:Tn)]).length c1) (.slice (some ⟨g,0,none⟩) (ns++[(⟨kd,ky,tx,nu,[],pl⟩:Tn)]).length cap) xs1 ks1):=hD4;have rF:Hd (Ds w4 R s (.slice (some ⟨N1,0,none⟩) (ns++[(⟨kd,ky,tx,nu,[],pl⟩:Tn)]).length c1) (.slice (some ⟨g,0,none⟩) (ns++[(⟨kd,ky,tx,nu,[],pl⟩:Tn)]).length cap) now de q):=hS4;have rO:Hd (ks1 up=.slice o4 m m4):=hv4;have mG:Hd (((ns++[(⟨kd,ky,tx,nu,[],pl⟩:Tn)])[up]'hpl).ks.length=m):=hm;have kT:Hd ((((ns++[(⟨kd,ky,tx,nu,[],pl⟩:Tn)])[up]'hpl).ks.map fun q=>Value.int .i64 (q:Nat))=ys):=hys;have kU:Hd (up<(ns++[(⟨kd,ky,tx,nu,[],pl⟩:Tn)]).length):=hpl;have jZ:Hd ((ns++[(⟨kd,ky,tx,nu,[],pl⟩:Tn)]).length=L/\L=ns.length+1):=⟨hL,hL1⟩;have aaY:Hd (¬P=g):=Gq;have Aw:Hd (∀(g' cap':Nat) (w3:World),w3.ownsRow B 3 1 (.slice (some ⟨g',0,none⟩) (m+1) cap') (m+1) (ys++[.int .i64 (ns.length:Nat)])->(w4.drew.alloc (.cells #[.int .i64 (ns.length:Nat)] 3)).grownBy w3 (Value.slice o4 m m4).ownBlock->((Value.slice o4 m m4).ownBlock=some g'\/g'=(w4.drew.alloc (.cells #[.int .i64 (ns.length:Nat)] 3)).heap.size)->zh B P R s now de q ns own (addN ns up ⟨kd,ky,tx,nu,[],pl⟩) w (.returned (.int .i64 (ns.length:Nat))) (w3.setCell ⟨N1,up*6+4,none⟩ (.slice (some ⟨g',0,none⟩) (m+1) cap'))):=fun g' cap' w3 a1 a2 a3=>by
   rw[<-rO.o]at a2 a3;rw[<-kT.o]at a1;obtain⟨xs',ks',q1,q2,q3⟩:=aaV up HP.o kU.o HD4.o rF.o jg Gp.o mG.o a1 a2 a3;have elen:(ns++[(⟨kd,ky,tx,nu,[],pl⟩:Tn)]).length=(addN ns up ⟨kd,ky,tx,nu,[],pl⟩).length:=by rw[bZ];simp
   rw[elen]at q1 q2;exact⟨rfl,⟨jg,vY.o.1,N1,c1,g,cap,xs',ks',Gp.o,aaY.o,q1,q2⟩,(je.o.two hF5.o).two q3⟩
  clear hD4 hS4 Gs hcN1 hv4 hm hys hL hL1 Gq ffz
  go_region_law (refine step_append_lies _ (by rfl) _ _ _ (by rfl) B 3 j0 _ 1 8 underlying43 hj0 hy0 hy1 hyb (by rfl) (by decide) (.slice o4 m m4) m ys (by rfl) (lL.drew.alloc _) ⟨Z,0,none⟩ 1 1 [.int .i64 (ns.length:Nat)] (by rfl) (by rfl) (World.news_of_block oZ.o) AQ (by omega) (by unfold maxLen;omega) (by omega) (by simp;omega) _ rfl ?_;intro g' cap' w3 hown3 hgrow hat hlt3;have hc3:w3.cell? ⟨N1,up*6+4,none⟩=some (.slice o4 m m4):=mF e4 hgrow gY.o;have oq:w3.frozen? ⟨N1,up*6+4,none⟩=false:=qF ku.o hgrow gY.o;have YW:w3.cell? ⟨R,2,none⟩=some (.slice (some ⟨N1,0,none⟩) L c1):=mF f2 hgrow bH.o)
  all_goals (
   go_wp2_with fail;go_ret;exact Aw.o g' cap' w3 hown3 hgrow hat)
open Go.RowKit Go.Maps Go.WideMaps Go.Joins
theorem aaZ(w:World)(B P:Nat)(hP:P<w.heap.size):DtD w B P [] 0 [] (.slice none 0 0) (.slice none 0 0) [] (fun _=>.slice none 0 0) :=
 ⟨World.ownsRow_nil _ _ _ _,fun i hi=>absurd hi (by simp),fun i hi=>absurd hi (by simp),fun i j g hi=>absurd hi (by simp),World.ownsRow_nil _ _ _ _,fun i hi=>absurd hi (by simp),hP⟩
theorem aa0(B P R:Nat)(s:ByteArray)(now de:Nat)(q:Rs Nat)(w:World)(hS:Ds w R s (.slice none 0 0) (.slice none 0 0) now de q)(jg:B<=R)(oH:¬P=R)(hP:P<w.heap.size) :
  Calls prog 29 #[.pointer (some ⟨R,0,none⟩),.int .i64 (-1),.agg #[.int .i64 0,.string ⟨#[]⟩,.string ⟨#[]⟩,.int .i64 0,.slice none 0 0,.int .i64 0]] w fun e w'=>e=.returned (.int .i64 0)/\Dt w' B P R s now de q [⟨0,[],[],0,[],0⟩] []/\DFr B P w w':=by
 obtain⟨i0,hi0,hii⟩:=Option.map_eq_some_iff.1 Tj;simp only[Prod.mk.injEq]at hii;obtain⟨hz0,hz1,hzb⟩:=hii;obtain⟨b0,hb0,hbb⟩:=Option.map_eq_some_iff.1 Tm;simp only[Prod.mk.injEq]at hbb;obtain⟨hx0,hx1,hxb⟩:=hbb;have hone:=Tz ⟨0,[],[],0,[],0⟩;have vW:Hd (Gm ⟨0,[],[],0,[],0⟩=[.int .i64 0,.string ⟨#[]⟩,.string ⟨#[]⟩,.int .i64 0,.slice none 0 0,.int .i64 0]):=rfl;rw[vW.o]at hone;have KW:=Tq;obtain⟨K,iR⟩:=zN (w.heap.size);have eG:w.grownBy (w.alloc (.cells #[.int .i64 0,.string ⟨#[]⟩,.string ⟨#[]⟩,.int .i64 0,.slice none 0 0,.int .i64 0] 45)) none:=World.grownBy_alloc w _ none;have bY:=heap_alloc_new w (.cells #[.int .i64 0,.string ⟨#[]⟩,.string ⟨#[]⟩,.int .i64 0,.slice none 0 0,.int .i64 0] 45);have pg:(w.alloc (.cells #[.int .i64 0,.string ⟨#[]⟩,.string ⟨#[]⟩,.int .i64 0,.slice none 0 0,.int .i64 0] 45)).heap.size=K+1:=by rw[World.size_alloc,iR]
 rw[iR]at bY;have hS1:=hS.grow eG;obtain⟨ii,er,pp,hdd⟩:=hS.dd;have hBs:B<=w.heap.size:=Nat.le_of_lt (Nat.lt_of_le_of_lt jg (aA hdd));have je:Hd (DFr B P w (w.alloc (.cells #[.int .i64 0,.string ⟨#[]⟩,.string ⟨#[]⟩,.int .i64 0,.slice none 0 0,.int .i64 0] 45))):=DFr.gb eG hBs hP;obtain⟨w1,hw1⟩:=zN (w.alloc (.cells #[.int .i64 0,.string ⟨#[]⟩,.string ⟨#[]⟩,.int .i64 0,.slice none 0 0,.int .i64 0] 45));rw[hw1]at bY pg je hS1;have hP1:P<w1.heap.size:=by omega
 have afL:B<=w1.heap.size:=by omega
 have hD1:=aaZ w1 B P hP1;obtain⟨ii1,er1,pp1,vX⟩:=hS1.dd;obtain⟨-,-,d2,d3,-,-,-,-,dfz⟩:=vX.cells;have tY:Hd (some R≠(Value.slice none 0 0).ownBlock):=by show some R≠none;simp
 have dA:(w1.alloc (.cells #[.int .i64 0,.string ⟨#[]⟩,.string ⟨#[]⟩,.int .i64 0,.slice none 0 0,.int .i64 0] 45)).cell? ⟨R,2,none⟩=some (.slice none 0 0):=(World.grownBy_alloc w1 _ none).cell d2 (by simp);have AU:Hd (Dd w1 R s (.slice none 0 0) (.slice none 0 0) now de ii1 er1 pp1):=vX;have k0:w1.cell? ⟨K,0,none⟩=some (.int .i64 0):=by rw[af bY];rfl
 have k1:w1.cell? ⟨K,1,none⟩=some (.string ⟨#[]⟩):=by rw[af bY];rfl
 have k2:w1.cell? ⟨K,2,none⟩=some (.string ⟨#[]⟩):=by rw[af bY];rfl
 have k3:w1.cell? ⟨K,3,none⟩=some (.int .i64 0):=by rw[af bY];rfl
 have k4:w1.cell? ⟨K,4,none⟩=some (.slice none 0 0):=by rw[af bY];rfl
 have k5:w1.cell? ⟨K,5,none⟩=some (.int .i64 0):=by rw[af bY];rfl
 have HD1:Hd (DtD w1 B P [] 0 [] (.slice none 0 0) (.slice none 0 0) [] (fun _=>.slice none 0 0)):=hD1;have eH:Hd (Ds w1 R s (.slice none 0 0) (.slice none 0 0) now de q):=hS1;have dP:Hd ((w1.drew.alloc (.cells #[.int .i64 0,.string ⟨#[]⟩,.string ⟨#[]⟩,.int .i64 0,.slice none 0 0,.int .i64 0] 45)).heap[K+1]?=some (.cells #[.int .i64 0,.string ⟨#[]⟩,.string ⟨#[]⟩,.int .i64 0,.slice none 0 0,.int .i64 0] 45 (0,0))):=by
  have:=heap_alloc_new w1.drew (.cells #[.int .i64 0,.string ⟨#[]⟩,.string ⟨#[]⟩,.int .i64 0,.slice none 0 0,.int .i64 0] 45);rw[show w1.drew.heap.size=K+1 from pg]at this;exact this
 have aaX:¬(0:Int)<=(-1:Int):=by omega
 clear eG bY hS hS1 hdd vX dfz hD1;go_enter func29,ntmps29;go_upto_region 2 with fail
 go_cut [] from 13 (fun wx=>∃(g cap:Nat) (xs':List Value) (ks':Nat->Value),DtD wx B P [⟨0,[],[],0,[],0⟩] 0 [] (.slice (some ⟨g,0,none⟩) 1 cap) (.slice none 0 0) xs' ks'/\Ds wx R s (.slice (some ⟨g,0,none⟩) 1 cap) (.slice none 0 0) now de q/\DFr B P w1 wx/\¬P=g)
 case first =>
  go_region_law (refine step_append_lies _ (by rfl) _ _ _ (by rfl) B 45 i0 _ 6 80 underlying39 hi0 hz0 hz1 hzb (by rfl) (by decide) (.slice none 0 0) 0 [] (by rfl) (World.ownsRow_nil _ _ _ _) ⟨K+1,0,none⟩ 1 1 [.int .i64 0,.string ⟨#[]⟩,.string ⟨#[]⟩,.int .i64 0,.slice none 0 0,.int .i64 0] (by rfl) (by rfl) (World.news_of_block dP.o) hone (by omega) (by unfold maxLen;omega) (by omega) (by simp;omega) _ rfl ?_;intro g cap w3 hown3 hgrow hat hlt3;have hc3:w3.cell? ⟨R,2,none⟩=some (.slice none 0 0):=mF d2 hgrow tY.o;have oq:w3.frozen? ⟨R,2,none⟩=false:=qF AU.o hgrow tY.o)
  all_goals (
   go_wp2_with fail;go_meet;obtain⟨xs',ks',q1,q2,q3,q4⟩:=Tt (ns:=[]) ⟨0,[],[],0,[],0⟩ rfl HD1.o eH.o jg oH (by show(none:Option Nat)≠_;simp) hown3 hgrow hat;exact⟨g,cap,xs',ks',q1,q2,q3,q4⟩)
 case rest =>
  obtain⟨N1,c1,xs1,ks1,hD2,hS2,hF2,BI⟩:=hcut;obtain⟨ii2,er2,pp2,sF⟩:=hS2.dd;obtain⟨-,-,e2,e3,-,-,-,-,efz⟩:=sF.cells;have vZ:Hd (some R≠(Value.slice none 0 0).ownBlock):=tY.o;have wu:Hd (Dd wc R s (.slice (some ⟨N1,0,none⟩) 1 c1) (.slice none 0 0) now de ii2 er2 pp2):=sF;have HD2:Hd (DtD wc B P [⟨0,[],[],0,[],0⟩] 0 [] (.slice (some ⟨N1,0,none⟩) 1 c1) (.slice none 0 0) xs1 ks1):=hD2;have HS2:Hd (Ds wc R s (.slice (some ⟨N1,0,none⟩) 1 c1) (.slice none 0 0) now de q):=hS2;have HF2:Hd (DFr B P w1 wc):=hF2;have Gp:Hd (¬P=N1):=BI;have hBc:B<=wc.heap.size:=Nat.le_of_lt (Nat.lt_of_le_of_lt jg (aA sF));clear hD2 hS2 hF2 BI sF efz;go_wp2_with (first|(at_builtin;refine wpList_append_lies _ rfl _ _ 72 rfl B 4 b0 _ 1 1 underlying72 hb0 hx0 hx1 hxb rfl (by decide) (.slice none 0 0) 0 [] rfl (World.ownsRow_nil _ _ _ _) ⟨wc.heap.size,0,none⟩ 1 1 [.bool false] rfl rfl (World.news_of_block (heap_alloc_new _ _)) KW (by omega) (by unfold maxLen;omega) (by omega) (by simp;omega) _ rfl ?_;intro g cap w3 hown3 hgrow hat hlt3;have hc3:w3.cell? ⟨R,3,none⟩=some (.slice none 0 0):=hgrow.cell ((World.grownBy_alloc wc _ none).cell e3 (by simp)) vZ.o;have oq:w3.frozen? ⟨R,3,none⟩=false:=Lib.frozen_of_heap ((hgrow.block R (by have:=aA wu.o;simp;omega) vZ.o).trans (((World.grownBy_alloc wc _ none).block R (aA wu.o) (by simp)).trans wu.o)) 3))
  obtain⟨hD4,hS4,BJ,Gq⟩:=Tu HD2.o HS2.o jg oH (by show(none:Option Nat)≠_;simp) (by simp) hown3 hgrow hat;go_ret;exact⟨rfl,⟨jg,oH,N1,c1,g,cap,xs1,ks1,Gp.o,Gq,hD4,hS4⟩,(je.o.two HF2.o).two BJ⟩
end Go.Proofs.YtnnbgjaphfhibaaGreatDoor
