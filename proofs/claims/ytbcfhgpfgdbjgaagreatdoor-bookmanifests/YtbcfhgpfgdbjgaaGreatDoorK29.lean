import Derived.Test.YtbcfhgpfgdbjgaaGreatDoorK12
import Derived.Test.YtbcfhgpfgdbjgaaGreatDoorK25
import Derived.Test.YtbcfhgpfgdbjgaaGreatDoorK21
import Derived.Laws.AppendOwnNone
set_option linter.all false
set_option maxRecDepth 100000
set_option maxHeartbeats 0
open Go.Proofs.Tryz
namespace Go.Proofs.YtbcfhgpfgdbjgaaGreatDoor
open Go.RowKit Go.Maps Go.WideMaps Go.Joins
variable{l:List UInt8}{b i:Nat}{sl:Value}{w w':World}
structure Sn(w:World)(E:Int->TypeId × Value)(b:Int->Addr):Prop where
 ptr:∀k,1<=k->k<=5->E k=(336,.pointer (some (b k)))
 blk:∀k,1<=k->k<=5->∃cs t,w.heap[(b k).block]?=some (.cells cs t (0,0))
 ne:∀k m,1<=k->k<=5->1<=m->m<=5->b k=b m->k=m
 ty:w.cell? ⟨4,0,none⟩=some (.iface 179 (.agg #[.pointer (some ⟨14,75,none⟩)]))
 lo:w.cell? ⟨0,0,none⟩=some (.iface (E 1).1 (E 1).2)
theorem Sn.grow{E:Int->TypeId × Value}{b:Int->Addr}(h:Sn w E b)(hg:w.grownBy w' none):Sn w' E b :=
 ⟨h.ptr,fun k h1 h2=>by
  obtain⟨cs,t,hb⟩:=h.blk k h1 h2;exact⟨cs,t,(hg.block _ (aG hb) (by simp)).trans hb⟩,h.ne,hg.cell h.ty (by simp),hg.cell h.lo (by simp)⟩
theorem ai6(w:World)(E:Int->TypeId × Value)(b:Int->Addr)(h:Sn w E b)(F:Nat)(c k:Int)(h1:1<=c)(h2:c<=5)(h3:1<=k)(h4:k<=5)(hF:w.cell? ⟨F,1,none⟩=some (.iface (E c).1 (E c).2)) :
  Calls prog 52 #[.iface 99 (.pointer (some ⟨F,0,none⟩)),.iface (E k).1 (E k).2] w fun e w'=>e=.returned (.bool (decide (c=k)))/\w'=w:=by
 have ec:=h.ptr c h1 h2;have ek:=h.ptr k h3 h4;rw[ec]at hF;rw[ek]
 by_cases hck:c=k
 ·subst hck;rw[decide_eq_true rfl];exact ads F (b c) w hF
 ·rw[decide_eq_false hck];obtain⟨ca,ta,ha⟩:=h.blk c h1 h2;obtain⟨cb,tb,hb⟩:=h.blk k h3 h4;exact adt F (b k) (b c) ca cb ta tb w hF (fun e=>hck (h.ne c k h1 h2 h3 h4 e)) ha hb
theorem ai7(E:Int->TypeId × Value)(b:Int->Addr)(w:World)(F:Nat)(c:Int)(p:Nat)(G:Gl w w.heap.size E)(S:Sn w E b)(h1:1<=c)(h2:c<=5)(hF:w.heap[F]?=some (.cells #[.int .i64 (p:Nat),.iface (E c).1 (E c).2] 103 (0,0))) :
  Calls prog 32 #[.iface 99 (.pointer (some ⟨F,0,none⟩))] w fun e w'=>e=.returned (.tuple #[.int .i64 c,.int .i64 (p:Nat)])/\w.grownBy w' none:=by
 -- the variable's block
 have xq:w.grownBy (w.alloc (.cells #[.pointer none] 99)) none:=World.grownBy_alloc _ _ none;obtain⟨w1,hw1⟩:=zN (w.alloc (.cells #[.pointer none] 99));have hT:w1.heap[w.heap.size]?=some (.cells #[.pointer none] 99 (0,0)):=by rw[<-hw1];exact heap_alloc_new w _
 rw[hw1]at xq;have S1:=S.grow xq;obtain⟨T,hTe⟩:=zN (w.heap.size);rw[hTe]at hT;have CA:=as_hit ⟨F,0,none⟩ ⟨T,0,none⟩ (.pointer none) w1 S1.ty (by rw[aj hT];rfl) (Lib.frozen_of_heap hT 0)
 -- the world behind errors.As
 have HFT:¬F=T:=fun e=>by have:=aG hF;omega
 have post:∀w2:World,w2=((((w1.alloc (.cells #[.pointer (some ⟨T,0,none⟩)] 101)).alloc (.cells #[.pointer (some ⟨14,101,none⟩),.pointer (some ⟨w1.heap.size,0,none⟩),.int .u64 150] 140)).alloc (.cells #[.pointer (some ⟨14,101,none⟩),.pointer (some ⟨w1.heap.size,0,none⟩),.int .u64 150] 140)).alloc (.cells #[.pointer (some ⟨F,0,none⟩)] 99)).setCell ⟨T,0,none⟩ (.pointer (some ⟨F,0,none⟩))->w.grownBy w2 none/\w2.cell? ⟨T,0,none⟩=some (.pointer (some ⟨F,0,none⟩))/\w2.cell? ⟨F,0,none⟩=some (.int .i64 (p:Nat))/\w2.cell? ⟨F,1,none⟩=some (.iface (E c).1 (E c).2):=fun w2 e=>by
  obtain⟨wx,hwx⟩:=zN ((((w1.alloc (.cells #[.pointer (some ⟨T,0,none⟩)] 101)).alloc (.cells #[.pointer (some ⟨14,101,none⟩),.pointer (some ⟨w1.heap.size,0,none⟩),.int .u64 150] 140)).alloc (.cells #[.pointer (some ⟨14,101,none⟩),.pointer (some ⟨w1.heap.size,0,none⟩),.int .u64 150] 140)).alloc (.cells #[.pointer (some ⟨F,0,none⟩)] 99));have g1:w1.grownBy wx none:=by
   rw[<-hwx];exact ak (ak (ak (World.grownBy_alloc _ _ none) (World.grownBy_alloc _ _ none)) (World.grownBy_alloc _ _ none)) (World.grownBy_alloc _ _ none)
  rw[hwx]at e;have hTx:=(g1.block T (aG hT) (by simp)).trans hT;have hset:=block_setCell (i:=0) hTx (.pointer (some ⟨F,0,none⟩));rw[<-e]at hset;have hF2:w2.heap[F]?=some (.cells #[.int .i64 (p:Nat),.iface (E c).1 (E c).2] 103 (0,0)):=by
   have e1:=(xq.block F (aG hF) (by simp)).trans hF;have e2:=(g1.block F (aG e1) (by simp)).trans e1;rw[e];exact(heap_setCell_other _ _ _ _ HFT).trans e2
  refine⟨?_,by rw[aj hset];rfl,by rw[aj hF2];rfl,by rw[aj hF2];rfl⟩;have g2:=ak xq g1;rw[e];refine⟨g2.os,g2.tape,g2.output,by simpa [World.setCell] using g2.size,fun k hk hn=>?_⟩;rw[heap_setCell_other wx _ k _ (by simp;omega)];exact g2.block k hk hn
 have je:Hd (Calls prog 51 #[.iface 99 (.pointer (some ⟨F,0,none⟩)),.iface 101 (.pointer (some ⟨T,0,none⟩))] w1 fun ev w2=>ev=.returned (.bool true)/\w.grownBy w2 none/\w2.cell? ⟨T,0,none⟩=some (.pointer (some ⟨F,0,none⟩))/\w2.cell? ⟨F,0,none⟩=some (.int .i64 (p:Nat))/\w2.cell? ⟨F,1,none⟩=some (.iface (E c).1 (E c).2)):=by
  refine CA.mono ?_;rintro e w2 ⟨rfl,hw2⟩;exact⟨rfl,post w2 hw2⟩
 have G7:=ae (fun w2 (hg:w.grownBy w2 none) (hc:w2.cell? ⟨F,1,none⟩=some (.iface (E c).1 (E c).2)) k (h3:1<=k) (h4:k<=5)=>ai6 w2 E b (S.grow hg) F c k (by omega) h2 h3 h4 hc);have dU:Hd (∀w2,w.grownBy w2 none->w2.cell? ⟨0,0,none⟩=some (.iface (E 1).1 (E 1).2)/\w2.cell? ⟨1,0,none⟩=some (.iface (E 3).1 (E 3).2)/\w2.cell? ⟨2,0,none⟩=some (.iface (E 4).1 (E 4).2)/\w2.cell? ⟨3,0,none⟩=some (.iface (E 5).1 (E 5).2)):=fun w2 hg=>⟨(S.grow hg).lo,hg.cell G.es.ra (by simp),hg.cell G.es.ma (by simp),hg.cell G.es.tw (by simp)⟩
 have HW1:=ae hw1;obtain⟨t1,ht1⟩:=zN (E 1);obtain⟨t3,ht3⟩:=zN (E 3);obtain⟨t4,qR⟩:=zN (E 4);obtain⟨t5,yz⟩:=zN (E 5);have gK:Hd (∀w2,w.grownBy w2 none->w2.cell? ⟨F,1,none⟩=some (.iface (E c).1 (E c).2)->Calls prog 52 #[.iface 99 (.pointer (some ⟨F,0,none⟩)),.iface t1.1 t1.2] w2 fun e w'=>e=.returned (.bool (decide (c=1)))/\w'=w2):=fun w2 a d=>by
  have:=G7.o w2 a d 1 (by omega) (by omega);rw[ht1]at this;exact this
 have DW:Hd (∀w2,w.grownBy w2 none->w2.cell? ⟨F,1,none⟩=some (.iface (E c).1 (E c).2)->Calls prog 52 #[.iface 99 (.pointer (some ⟨F,0,none⟩)),.iface t3.1 t3.2] w2 fun e w'=>e=.returned (.bool (decide (c=3)))/\w'=w2):=fun w2 a d=>by
  have:=G7.o w2 a d 3 (by omega) (by omega);rw[ht3]at this;exact this
 have G8:Hd (∀w2,w.grownBy w2 none->w2.cell? ⟨F,1,none⟩=some (.iface (E c).1 (E c).2)->Calls prog 52 #[.iface 99 (.pointer (some ⟨F,0,none⟩)),.iface t4.1 t4.2] w2 fun e w'=>e=.returned (.bool (decide (c=4)))/\w'=w2):=fun w2 a d=>by
  have:=G7.o w2 a d 4 (by omega) (by omega);rw[qR]at this;exact this
 have Lr:Hd (∀w2,w.grownBy w2 none->w2.cell? ⟨F,1,none⟩=some (.iface (E c).1 (E c).2)->Calls prog 52 #[.iface 99 (.pointer (some ⟨F,0,none⟩)),.iface t5.1 t5.2] w2 fun e w'=>e=.returned (.bool (decide (c=5)))/\w'=w2):=fun w2 a d=>by
  have:=G7.o w2 a d 5 (by omega) (by omega);rw[yz]at this;exact this
 rw[ht1,ht3,qR,yz]at dU;have mP:=ae hTe;have HC:Hd (1<=c/\c<=5):=⟨h1,h2⟩;obtain⟨v,hv⟩:∃v:Value,Value.iface (E c).1 (E c).2=v:=⟨_,rfl⟩;rw[hv]at gK DW G8 Lr je;clear hw1 xq hT S1 S G hTe CA post G7 ht1 ht3 qR yz hF HFT h1 h2 hv;obtain⟨b1,hb1⟩:=zN (decide (c=1));obtain⟨b3,hb3⟩:=zN (decide (c=3));obtain⟨b4,hb4⟩:=zN (decide (c=4));obtain⟨b5,hb5⟩:=zN (decide (c=5));have HB:Hd (decide (c=1)=b1/\decide (c=3)=b3/\decide (c=4)=b4/\decide (c=5)=b5):=⟨hb1,hb3,hb4,hb5⟩;rw[hb1]at gK;rw[hb3]at DW;rw[hb4]at G8;rw[hb5]at Lr;clear hb1 hb3 hb4 hb5;rw[<-mP.o,<-HW1.o]at je
 cases b1 with
 |true=>
  go_enter func32,ntmps32;go_wp2_with (go_at_call 51;refine je.o.mono ?_);rintro e w2 ⟨rfl,hg2,v1,v2,v3⟩;obtain⟨y1,y3,y4,y5⟩:=dU.o w2 hg2;have HG2:=ae hg2;have iW:=ae v3;clear hg2 v3 mP HW1 je;obtain⟨T2,hT2⟩:=zN w.heap.size;rw[hT2]at v1 ⊢;clear hT2;go_wp2_with (go_at_call 52;refine(gK.o _ HG2.o iW.o).mono ?_)
  first|rintro e w' rfl rfl|rintro e w' ⟨rfl,rfl⟩
  go_wp2;refine bodyPost_ret (results_tmp2 (t:=2) (u:=3) rfl _ _ _) rfl ?_;have e:c=1:=by
   have q1:=HB.o;have q2:=HC.o;simp at q1;omega
  rw[e];exact⟨rfl,HG2.o⟩
 |false=>
  cases b3 with
  |true=>
   go_enter func32,ntmps32;go_wp2_with (go_at_call 51;refine je.o.mono ?_);rintro e w2 ⟨rfl,hg2,v1,v2,v3⟩;obtain⟨y1,y3,y4,y5⟩:=dU.o w2 hg2;have HG2:=ae hg2;have iW:=ae v3;clear hg2 v3 mP HW1 je;obtain⟨T2,hT2⟩:=zN w.heap.size;rw[hT2]at v1 ⊢;clear hT2;go_wp2_with (go_at_call 52;refine(gK.o _ HG2.o iW.o).mono ?_)
   first|rintro e w' rfl rfl|rintro e w' ⟨rfl,rfl⟩
   go_wp2_with (go_at_call 52;refine(DW.o _ HG2.o iW.o).mono ?_)
   first|rintro e w' rfl rfl|rintro e w' ⟨rfl,rfl⟩
   go_wp2;refine bodyPost_ret (results_tmp2 (t:=2) (u:=3) rfl _ _ _) rfl ?_;have e:c=3:=by
    have q1:=HB.o;have q2:=HC.o;simp at q1;omega
   rw[e];exact⟨rfl,HG2.o⟩
  |false=>
   cases b4 with
   |true=>
    go_enter func32,ntmps32;go_wp2_with (go_at_call 51;refine je.o.mono ?_);rintro e w2 ⟨rfl,hg2,v1,v2,v3⟩;obtain⟨y1,y3,y4,y5⟩:=dU.o w2 hg2;have HG2:=ae hg2;have iW:=ae v3;clear hg2 v3 mP HW1 je;obtain⟨T2,hT2⟩:=zN w.heap.size;rw[hT2]at v1 ⊢;clear hT2;go_wp2_with (go_at_call 52;refine(gK.o _ HG2.o iW.o).mono ?_)
    first|rintro e w' rfl rfl|rintro e w' ⟨rfl,rfl⟩
    go_wp2_with (go_at_call 52;refine(DW.o _ HG2.o iW.o).mono ?_)
    first|rintro e w' rfl rfl|rintro e w' ⟨rfl,rfl⟩
    go_wp2_with (go_at_call 52;refine(G8.o _ HG2.o iW.o).mono ?_)
    first|rintro e w' rfl rfl|rintro e w' ⟨rfl,rfl⟩
    go_wp2;refine bodyPost_ret (results_tmp2 (t:=2) (u:=3) rfl _ _ _) rfl ?_;have e:c=4:=by
     have q1:=HB.o;have q2:=HC.o;simp at q1;omega
    rw[e];exact⟨rfl,HG2.o⟩
   |false=>
    cases b5 with
    |true=>
     go_enter func32,ntmps32;go_wp2_with (go_at_call 51;refine je.o.mono ?_);rintro e w2 ⟨rfl,hg2,v1,v2,v3⟩;obtain⟨y1,y3,y4,y5⟩:=dU.o w2 hg2;have HG2:=ae hg2;have iW:=ae v3;clear hg2 v3 mP HW1 je;obtain⟨T2,hT2⟩:=zN w.heap.size;rw[hT2]at v1 ⊢;clear hT2;go_wp2_with (go_at_call 52;refine(gK.o _ HG2.o iW.o).mono ?_)
     first|rintro e w' rfl rfl|rintro e w' ⟨rfl,rfl⟩
     go_wp2_with (go_at_call 52;refine(DW.o _ HG2.o iW.o).mono ?_)
     first|rintro e w' rfl rfl|rintro e w' ⟨rfl,rfl⟩
     go_wp2_with (go_at_call 52;refine(G8.o _ HG2.o iW.o).mono ?_)
     first|rintro e w' rfl rfl|rintro e w' ⟨rfl,rfl⟩
     go_wp2_with (go_at_call 52;refine(Lr.o _ HG2.o iW.o).mono ?_)
     first|rintro e w' rfl rfl|rintro e w' ⟨rfl,rfl⟩
     go_wp2;refine bodyPost_ret (results_tmp2 (t:=2) (u:=3) rfl _ _ _) rfl ?_;have e:c=5:=by
      have q1:=HB.o;have q2:=HC.o;simp at q1;omega
     rw[e];exact⟨rfl,HG2.o⟩
    |false=>
     go_enter func32,ntmps32;go_wp2_with (go_at_call 51;refine je.o.mono ?_);rintro e w2 ⟨rfl,hg2,v1,v2,v3⟩;obtain⟨y1,y3,y4,y5⟩:=dU.o w2 hg2;have HG2:=ae hg2;have iW:=ae v3;clear hg2 v3 mP HW1 je;obtain⟨T2,hT2⟩:=zN w.heap.size;rw[hT2]at v1 ⊢;clear hT2;go_wp2_with (go_at_call 52;refine(gK.o _ HG2.o iW.o).mono ?_)
     first|rintro e w' rfl rfl|rintro e w' ⟨rfl,rfl⟩
     go_wp2_with (go_at_call 52;refine(DW.o _ HG2.o iW.o).mono ?_)
     first|rintro e w' rfl rfl|rintro e w' ⟨rfl,rfl⟩
     go_wp2_with (go_at_call 52;refine(G8.o _ HG2.o iW.o).mono ?_)
     first|rintro e w' rfl rfl|rintro e w' ⟨rfl,rfl⟩
     go_wp2_with (go_at_call 52;refine(Lr.o _ HG2.o iW.o).mono ?_)
     first|rintro e w' rfl rfl|rintro e w' ⟨rfl,rfl⟩
     go_wp2;refine bodyPost_ret (results_tmp2 (t:=2) (u:=3) rfl _ _ _) rfl ?_;have e:c=2:=by
      have q1:=HB.o;have q2:=HC.o;simp at q1;omega
     rw[e];exact⟨rfl,HG2.o⟩
theorem ai8(E:Int->TypeId × Value)(b:Int->Addr)(w:World)(S:Sn w E b) :
  Calls prog 32 #[.iface (E 1).1 (E 1).2] w fun e w'=>e=.returned (.tuple #[.int .i64 1,.int .i64 0])/\w.grownBy w' none:=by
 have xq:w.grownBy (w.alloc (.cells #[.pointer none] 99)) none:=World.grownBy_alloc _ _ none;have hT:=heap_alloc_new w (.cells #[.pointer none] 99);have e1:=S.ptr 1 (by decide) (by decide);have hlo:=S.lo;rw[e1]at hlo ⊢;have CA:Hd (Calls prog 51 #[.iface 336 (.pointer (some (b 1))),.iface 101 (.pointer (some ⟨w.heap.size,0,none⟩))] (w.alloc (.cells #[.pointer none] 99)) fun ev w2=>ev=.returned (.bool false)/\w.grownBy w2 none/\w2.cell? ⟨0,0,none⟩=some (.iface 336 (.pointer (some (b 1))))):=by
  refine(adG (b 1) ⟨w.heap.size,0,none⟩ (.pointer none) _ (S.grow xq).ty (by rw[aj hT];rfl) (Lib.frozen_of_heap hT 0)).mono ?_;rintro e w2 ⟨rfl,hg⟩;have g2:=ak xq hg;exact⟨rfl,g2,g2.cell hlo (by simp)⟩
 have CI:=ae (is_same (b 1));obtain⟨x,hx⟩:=zN (b 1);rw[hx]at CA CI ⊢;clear xq hT e1 S hlo hx;go_enter func32,ntmps32;go_wp2_with (go_at_call 51;refine CA.o.mono ?_);rintro e w2 ⟨rfl,hg2,y1⟩;have HG2:=ae hg2;clear hg2 CA;go_wp2_with (go_at_call 52;refine(CI.o _).mono ?_)
 first|rintro e w' rfl rfl|rintro e w' ⟨rfl,rfl⟩
 go_wp2;refine bodyPost_ret (results_tmp2 (t:=2) (u:=3) rfl _ _ _) rfl ?_;exact⟨rfl,HG2.o⟩
def ai9(r:Rs (List Tn))(w:World)(e:Ending)(w':World):Prop :=
 (∀ns,r=.ok ns->∃N c M T xs ks now n f,e=.returned (.tuple #[.slice (some ⟨N,0,none⟩) ns.length c,.int .i64 0,.int .i64 0])/\TrD w' w.heap.size T ns now N c M xs ks n f) ∧
 (∀c p,r=.error (c,p)->e=.returned (.tuple #[.slice none 0 0,.int .i64 c,.int .i64 (p:Nat)]))/\w.grownBy w' none
theorem aja(s:ByteArray)(E:Int->TypeId × Value)(b:Int->Addr)(w:World)(G:Gl w w.heap.size E)(S:Sn w E b)(hmx:s.size<2 ^ 62) :
  Calls prog 16 #[.string s] w (ai9 (lJ s.data.toList) w):=by
 have CR:=ae (ah4 s E w G S.lo hmx);have iO:Hd (∀c p,lJ s.data.toList=.error (c,p)->(c=1/\p=0)\/(2<=c/\c<=5)):=Q4 _;have GZ:=ae (fun w' (hg:w.grownBy w' none)=>ai8 E b w' (S.grow hg));have Rx:Hd (∀w' F (c:Int) p,w.grownBy w' none->1<=c->c<=5->w'.heap[F]?=some (.cells #[.int .i64 (p:Nat),.iface (E c).1 (E c).2] 103 (0,0))->Calls prog 32 #[.iface 99 (.pointer (some ⟨F,0,none⟩))] w' fun e w''=>e=.returned (.tuple #[.int .i64 c,.int .i64 (p:Nat)])/\w'.grownBy w'' none):=fun w' F c p hg h1 h2 hF=>by
  have G1:=G.bel (y8 hg);have hsz:=hg.size;exact ai7 E b w' F c p ⟨G1.es,⟨Nat.lt_of_lt_of_le G1.lo.te hsz,Nat.lt_of_lt_of_le G1.lo.ra hsz,Nat.lt_of_lt_of_le G1.lo.ma hsz,Nat.lt_of_lt_of_le G1.lo.tw hsz⟩,G1.tabs,Nat.lt_of_lt_of_le G1.t3 hsz,Nat.lt_of_lt_of_le G1.t4 hsz⟩ (S.grow hg) h1 h2 hF
 have lK:=ae (S.ptr 1 (by decide) (by decide));obtain⟨X,hX⟩:=zN (lJ s.data.toList);rw[hX]at CR iO ⊢;clear G S hX;go_enter func16,ntmps16;go_wp2_with (go_at_call 31;refine CR.o.mono ?_);rintro e w2 ⟨h1,h2,hg2⟩;have HG2:=ae hg2;clear hg2
 match X,h1,h2,iO with
 | .ok ns,h1,_,_ =>
  obtain⟨N,c,M,T,xs,ks,now,n,f,rfl,hD⟩:=h1 ns rfl;have HD:=ae hD;clear h1 h2 hD;go_wp2;refine bodyPost_ret (results_tmp3 (t:=2) (u:=3) (v:=4) rfl _ _ _) rfl ?_;exact⟨fun ns' hh=>(by injection hh with hh;subst hh;exact⟨N,c,M,T,xs,ks,now,n,f,rfl,HD.o⟩),fun c p hh=>(by cases hh),HG2.o⟩
 | .error (c,p),_,h2,iO =>
  obtain⟨v,rfl,hor⟩:=h2 c p rfl;have hrg:=iO.o c p rfl
  rcases hor with⟨hc1,hv⟩|⟨F,hv,hF⟩
  ·obtain⟨-,hp0⟩:c=1/\p=0:=by rcases hrg with h|h;exact h;omega
   subst hc1 hp0;have CT:Hd (Calls prog 32 #[.iface 336 (.pointer (some (b 1)))] w2 fun e w''=>e=.returned (.tuple #[.int .i64 1,.int .i64 0])/\w2.grownBy w'' none):=by
    have:=GZ.o w2 HG2.o;rw[lK.o]at this;exact this
   rw[lK.o]at hv;obtain rfl:=hv;clear h1 h2 hrg Rx GZ;go_wp2_with (go_at_call 32;refine CT.o.mono ?_;rintro e w3 ⟨rfl,hg3⟩);refine bodyPost_ret (results_tmp3 (t:=2) (u:=3) (v:=4) rfl _ _ _) rfl ?_;exact⟨fun ns' hh=>(by cases hh),fun c p hh=>(by cases hh;rfl),ak HG2.o hg3⟩
  ·have CT:=ae (Rx.o w2 F c p HG2.o (by omega) (by omega) hF);obtain rfl:=hv;clear h1 h2 hrg Rx GZ hF;go_wp2_with (go_at_call 32;refine CT.o.mono ?_;rintro e w3 ⟨rfl,hg3⟩);refine bodyPost_ret (results_tmp3 (t:=2) (u:=3) (v:=4) rfl _ _ _) rfl ?_;exact⟨fun ns' hh=>(by cases hh),fun c' p' hh=>(by injection hh with hh;injection hh with e1 e2;subst e1 e2;rfl),ak HG2.o hg3⟩
def OS(w:World)(base:Nat)(sl:Value)(L:List Sp):Prop:=w.ownsRow base 221 11 sl L.length (L.flatMap fM)
theorem OS.sps{base:Nat}{L:List Sp}(h:OS w base sl L):SpS w sl L:=WP h
theorem OS.grow{base:Nat}{L:List Sp}(h:OS w base sl L)(hg:w.grownBy w' none):OS w' base sl L:=sF h hg
theorem OS.growb{base:Nat}{L:List Sp}(h:OS w base sl L)(hg:w.grownBy w' (some b))(hb:b<base):OS w' base sl L:=by
 refine⟨h.1,?_⟩
 rcases h.2 with hn|⟨g,cap,cur,hv,hbg,hc,rest⟩
 ·exact Or.inl hn
 ·refine Or.inr ⟨g,cap,cur,hv,hbg,?_,rest⟩;rw[hg.block g ((bJ hc)) (by simp;omega)];exact hc
theorem OS.base{base base':Nat}{L:List Sp}(h:OS w base sl L)(hb:base'<=base):OS w base' sl L:=by
 refine⟨h.1,?_⟩
 rcases h.2 with hn|⟨g,cap,cur,hv,hbg,rest⟩
 ·exact Or.inl hn
 ·exact Or.inr ⟨g,cap,cur,hv,Nat.le_trans hb hbg,rest⟩
theorem OS.emp(w:World)(base:Nat):OS w base (.slice none 0 0) []:=World.ownsRow_nil _ _ _ _
theorem OS.slice{base:Nat}{L:List Sp}(h:OS w base sl L):∃o n c,sl=.slice o n c:=Ce h.sps
theorem OS.one{base g:Nat}{s:Sp}(hb:base<=g)(h:w.heap[g]?=some (.cells #[.int .i64 s.f1,.int .i64 s.f2,.int .i64 s.f3,.string s.f4,.string s.f5,.int .i64 s.t1,.int .i64 s.t2,.int .i64 s.t3,.string s.t4,.string s.t5,.bool s.o] 221 (0,0))):OS w base (.slice (some ⟨g,0,none⟩) 1 1) [s]:=by
 refine⟨rfl,Or.inr ⟨g,1,_,rfl,hb,h,Nat.le_refl _,by decide,rfl,rfl⟩⟩
theorem ajb(ch:Int->Bool)(Ls:List (List Sp))(E:List Er)(hE:E.Perm (eP 0 Ls))(hs:rW (E.map aO)) :
  (fK (fun b=>ch (having Ls.length b)) (fun _=>0) false (E.map aO)).length<=(eP 0 Ls).length:=by
 have e1:=Np (fun b=>ch (having Ls.length b)) (E.map aO) (fun x=>ch (having Ls.length (fun j=>nT (E.map aO) j x))) (fun x=>rfl) hs (E.map aO) [] false rfl;have e2:(fun j=>tot [] j)=(fun _=>(0:Int)):=rfl;rw[e2]at e1;have hsub:=J7 (fun x=>ch (having Ls.length (fun j=>nT (E.map aO) j x))) (kE (E.map aO)) false;rw[<-e1]at hsub;have h1:(kE (E.map aO)).length<=(E.map aO).length:=by
  have:∀l:List Ed,(kE l).length<=l.length:=by
   intro l
   induction l with
   |nil=>simp[kE]
   |cons e r ih=>
    rw[kE];split
    ·rw[List.length_cons];omega
    ·rw[List.length_cons,List.length_cons];omega
  exact this _
 have h2:=hsub.length_le;have h4:=hE.length_eq;rw[List.length_map]at h1;omega
def Ry(k:Nat)(w:World)(e:Ending)(w':World):Prop:=w.grownBy w' none/\∃(o:Option Addr) (n c:Nat) (L:List Sp),e=.returned (.tuple #[.slice o n c,.int .i64 0])/\OS w' w.heap.size (.slice o n c) L/\LOk L k
theorem aab{ch:Int->Bool}{Ls:List (List Sp)}{e:Ending}(k:Nat)(hl2:Ls.length<=2)(hk:(eP 0 Ls).length<=2*k)(hsz:∀l∈Ls,l.length<=1048576/\∀s∈l,lN s)(hsd:Ls.all (·.all iF)=true)(h:SweepPost ch Ls w e w'):Ry k w e w':=by
 refine⟨h.1,?_⟩
 rcases h.2 with⟨h1,h2⟩|⟨h1,E,vs,h2,h3,h4,h5,h6⟩
 ·exact absurd hsd h1
 ·obtain⟨o,n,c,rfl⟩:=Ce h5;have hT:=agu ch Ls hsz h1 E h2 h3;have hn:=ajb ch Ls E h2 h3;refine⟨o,n,c,_,h4,h6,hT.sound,(hT.nf hl2).small,?_⟩;have:=agv (fK (fun b=>ch (having Ls.length b)) (fun _=>0) false (E.map aO));omega
theorem ajc(sl:Value)(L:List Sp)(k:Nat)(w:World)(h:SpS w sl L)(hL:LOk L k)(hk:k<=1048576):Calls prog 80 #[sl] w (Ry k w):=by
 have h1:=Nat.le_trans hL.ln hk;refine(aeY sl L w h h1 hL.sm).mono ?_;intro e w' hp;refine aab k (by simp) ?_ (by intro l hl;simp at hl;subst hl;exact⟨h1,hL.sm⟩) (by simp[hL.sd]) hp;have h3:=BQ 0 L;have h4:=hL.ln;show(L.flatMap (dZ 0)++[]).length<=_;rw[List.append_nil];omega
theorem ajd(sl sm:Value)(L M:List Sp)(j k:Nat)(w:World)(h:SpS w sl L)(h':SpS w sm M)(hL:LOk L j)(hM:LOk M k)(hj:j<=1048576)(hk:k<=1048576):Calls prog 134 #[sl,sm] w (Ry (j+k) w):=by
 have h1:=Nat.le_trans hL.ln hj;have h2:=Nat.le_trans hM.ln hk;refine(aeZ sl sm L M w h h' h1 hL.sm h2 hM.sm).mono ?_;intro e w' hp;refine aab (j+k) (by simp) ?_ (by intro l hl;simp at hl;rcases hl with rfl|rfl<;>first|exact⟨h1,hL.sm⟩|exact⟨h2,hM.sm⟩) (by simp[hL.sd,hM.sd]) hp;have h3:=BQ 0 L;have h5:=BQ 1 M;have h4:=hL.ln;have h6:=hM.ln;show(L.flatMap (dZ 0)++(M.flatMap (dZ 1)++[])).length<=_;rw[List.append_nil,List.length_append];omega
def Rz(b:Nat)(s:ByteArray)(E:Int)(J:Nat)(g:Sg)(w:World)(e:Ending)(w':World):Prop :=
 ∃(o:Option Addr) (n c:Nat),e=.returned (.tuple #[.slice o n c,.int .i64 E])/\RS b s J w'/\w.grownBy w' (some b)/\(E=0->OS w' w.heap.size (.slice o n c) [ql g])
def DX(l:List UInt8)(i:Nat):Int:=if ag l i=i then 2 else(ah l (ag l i)).1
def DY(l:List UInt8)(i:Nat):Nat:=if ag l i=i then i else(ah l (ag l i)).2.1
theorem aje(b:Nat)(s:ByteArray)(i:Nat)(p:Pa)(y1 y2 y3:Int)(Q:ByteArray)(m:Int)(hp:wV y1 y2 y3 Q m=lV p)(w:World)(hi:i<=s.size)(h:RS b s i w)(hs:s.size<=200) :
  Calls prog 133 #[.pointer (some ⟨b,0,none⟩),.agg #[.int .i64 y1,.int .i64 y2,.int .i64 y3,.string Q,.string ⟨#[]⟩,.int .i64 m]] w (Rz b s (DX s.data.toList i) (DY s.data.toList i) (Dx p (ah s.data.toList (ag s.data.toList i)).2.2) w):=by
 have CB:=ae (fun w (h:RS b s i w)=>Qg b s i w hi h (by omega));have hsk:ag s.data.toList i<=s.size:=by have:=rq s.data.toList i (by simpa using hi);simp at this;exact this
 have hge:=sW s.data.toList i;have CP:=ae (fun w (h:RS b s (ag s.data.toList i) w)=>YN b s _ w hsk h (by omega));have hpl:=Qj s.data.toList (ag s.data.toList i);have CW:=ae (fun(h0:(ah s.data.toList (ag s.data.toList i)).1=0)=>agz p _ (J9 s.data.toList _ (by simpa using hsk) h0) (by simp at hpl;omega));have uX:Hd (b<w.heap.size):=by obtain⟨t,h⟩:=h;exact(bJ h)
 unfold DX DY;obtain⟨K,hK⟩:=zN (ag s.data.toList i);rw[hK]at CB CP CW hge ⊢;obtain⟨E,J,q,hR⟩:∃E J q,ah s.data.toList K=(E,J,q):=⟨_,_,_,rfl⟩;rw[hR]at CP CW ⊢;simp only[]at CW ⊢;have HI:=ae h;have HPp:=ae hp;clear hK hR h hi hs hsk hpl hp
 by_cases hz:K=i
 ·rw[if_pos hz,if_pos hz];rw[hz,decide_eq_false (Nat.lt_irrefl i)]at CB;clear hz hge CP CW;go_enter func133,ntmps133;go_wp2_with (go_at_call 108;refine(CB.o _ (HI.o.grow (aH (ax w none) _))).mono ?_);rintro e w1 ⟨rfl,hr,hg⟩;have HF:Hd (RS b s i w1/\w.grownBy w1 (some b)):=⟨hr,ak (iy (aH (ax w none) _) _) hg⟩;clear hr hg;go_wp2;exact bodyPost_ret (results_tmp2 (t:=4) (u:=5) rfl _ _ _) rfl ⟨_,_,_,rfl,HF.o.1,HF.o.2,fun h=>absurd h (by decide)⟩
 ·rw[if_neg hz,if_neg hz];rw[decide_eq_true (show i<K by omega)]at CB;clear hz hge;go_enter func133,ntmps133;go_wp2_with (go_at_call 108;refine(CB.o _ (HI.o.grow (aH (ax w none) _))).mono ?_);rintro e w1 ⟨rfl,hr,hg⟩;obtain⟨A,hA⟩:=zN (w.heap.size);have G9:Hd (PB A y1 y2 y3 Q m w1):=by
   refine PB.growb (w:=w.alloc (.cells #[.int .i64 y1,.int .i64 y2,.int .i64 y3,.string Q,.string ⟨#[]⟩,.int .i64 m] 226)) ?_ hg (by have:=uX.o;omega);unfold PB;rw[<-hA];exact heap_alloc_new w _
  have HG:=ae (ak (iy (aH (ax w none) _) _) hg);have zM:Hd (w.heap.size<=A/\A≠b):=⟨Nat.le_of_eq hA,by have:=uX.o;omega⟩;have HR1:=ae hr
  try rw[hA]
  clear hr hg hA;go_wp2_with (go_at_call 160;refine(CP.o _ HR1.o).mono ?_);rintro e w2 ⟨x1,x2,x3,P,n,rfl,hr,hg,hok⟩;replace HR1:Hd (RS b s J w2):=hr;replace HG:=ae (ak HG.o hg);replace G9:=ae (G9.o.growb hg zM.o.2);have jD:Hd (E=0->wV x1 x2 x3 P n=lV q):=hok;clear hr hg hok
  cases hz:(E==0) with
  |false=>
   have oh:Hd (E≠0):=by show E≠0;simpa using hz
   go_wp2;exact bodyPost_ret (results_tmp2 (t:=4) (u:=5) rfl _ _ _) rfl ⟨_,_,_,rfl,HR1.o.grow (aH (ax w2 none) _),ak HG.o (iy (aH (ax w2 none) _) _),fun h=>absurd h oh.o⟩
  |true=>
   have hE:E=0:=by simpa using hz
   subst hE;have hc:=CW.o rfl;rw[<-jD.o rfl,<-HPp.o]at hc;obtain⟨s1,hs1⟩:=zN (ql (Dx p q));have CX:Hd (∀w,Calls prog 161 #[.agg #[.int .i64 y1,.int .i64 y2,.int .i64 y3,.string Q,.string ⟨#[]⟩,.int .i64 m],.agg #[.int .i64 x1,.int .i64 x2,.int .i64 x3,.string P,.string ⟨#[]⟩,.int .i64 n]] w fun e w'=>e=.returned (.agg #[.int .i64 s1.f1,.int .i64 s1.f2,.int .i64 s1.f3,.string s1.f4,.string s1.f5,.int .i64 s1.t1,.int .i64 s1.t2,.int .i64 s1.t3,.string s1.t4,.string s1.t5,.bool s1.o])/\w.grownBy w' none):=fun w=>by rw[<-hs1];exact hc w
   have dP:=ae hs1;clear hc hs1 CW jD HPp CB CP hz;obtain⟨C,hC⟩:=zN (w2.heap.size);obtain⟨W,hW⟩:=zN (w2.alloc (.cells #[.int .i64 x1,.int .i64 x2,.int .i64 x3,.string P,.string ⟨#[]⟩,.int .i64 n] 226));have hgW:w2.grownBy W none:=by rw[<-hW];exact aH (ax w2 none) _
   have Kq:Hd (PB C x1 x2 x3 P n W):=by
    show PB C x1 x2 x3 P n W;unfold PB;rw[<-hW,<-hC];exact heap_alloc_new w2 _
   replace G9:=ae (G9.o.grow hgW);replace HG:=ae (ak HG.o (iy hgW _));replace HR1:=ae (HR1.o.grow hgW);obtain⟨a0,a1,a2,a3,a4,a5⟩:=G9.o.cells;obtain⟨c0,c1,c2,c3,c4,c5⟩:=Kq.o.cells;clear hgW;go_wp2_with (first|(go_at_call 161;refine(CX.o _).mono ?_));rintro e w3 ⟨rfl,hg⟩;have aU:=ae (ak HG.o (iy hg _));have HR3:=ae (HR1.o.grow hg);clear hW hC a0 a1 a2 a3 a4 a5 c0 c1 c2 c3 c4 c5;clear hg;go_wp2;refine bodyPost_ret (results_tmp2 (t:=4) (u:=5) rfl _ _ _) rfl ⟨_,_,_,rfl,HR3.o.grow (aH (ax w3 none) _),ak aU.o (iy (aH (ax w3 none) _) _),fun _=>?_⟩;rw[dP.o];exact OS.one aU.o.size (heap_alloc_new w3 _)
theorem aac{f:Nat}{acc:List Te}(h:l.length<=i\/l[i]?=some 124):aQ l (f+1) i acc=(0,i,acc):=by unfold aQ;rw[if_pos h]
theorem ajf{f:Nat}{acc:List Te}(h:¬(l.length<=i\/l[i]?=some 124))(hr:¬(ah l (ai l i).2).1=0):aQ l (f+1) i acc=((ah l (ai l i).2).1,(ah l (ai l i).2).2.1,acc):=by
 unfold aQ;rw[if_neg h,if_neg hr]
theorem ajg{f:Nat}{acc:List Te}(h:¬(l.length<=i\/l[i]?=some 124))(hr:(ah l (ai l i).2).1=0)
  (hb:((ai l i).1<0/\acc=[])/\(ah l (ai l i).2).2.1<ag l (ah l (ai l i).2).2.1/\l[ag l (ah l (ai l i).2).2.1]?=some 45) :
  (aQ l (f+1) i acc).1=DX l (ag l (ah l (ai l i).2).2.1+1)/\(aQ l (f+1) i acc).2.1=DY l (ag l (ah l (ai l i).2).2.1+1)/\((aQ l (f+1) i acc).1=0->(aQ l (f+1) i acc).2.2=[⟨7,(ah l (ai l i).2).2.2⟩,⟨2,(ah l (ag l (ag l (ah l (ai l i).2).2.1+1))).2.2⟩]/\(ah l (ag l (ag l (ah l (ai l i).2).2.1+1))).1=0):=by
 unfold aQ DX DY;rw[if_neg h,if_pos hr,if_pos hb]
 by_cases hm:ag l (ag l (ah l (ai l i).2).2.1+1)=ag l (ah l (ai l i).2).2.1+1
 ·rw[if_pos hm,if_pos hm,if_pos hm];exact⟨rfl,rfl,fun h=>by cases h⟩
 ·rw[if_neg hm,if_neg hm,if_neg hm]
  by_cases hq:(ah l (ag l (ag l (ah l (ai l i).2).2.1+1))).1=0
  ·rw[if_pos hq];exact⟨hq.symm,rfl,fun _=>⟨rfl,hq⟩⟩
  ·rw[if_neg hq];exact⟨rfl,rfl,fun h=>absurd h hq⟩
theorem ajh{f:Nat}{acc:List Te}(h:¬(l.length<=i\/l[i]?=some 124))(hr:(ah l (ai l i).2).1=0)(hg:¬(ah l (ai l i).2).2.1<ag l (ah l (ai l i).2).2.1) :
  aQ l (f+1) i acc=(0,ag l (ah l (ai l i).2).2.1,acc++[⟨jC (ai l i).1,(ah l (ai l i).2).2.2⟩]):=by
 unfold aQ;rw[if_neg h,if_pos hr,if_neg (fun hb=>hg hb.2.1),if_pos hg]
theorem aji{f:Nat}{acc:List Te}(h:¬(l.length<=i\/l[i]?=some 124))(hr:(ah l (ai l i).2).1=0)(hg:(ah l (ai l i).2).2.1<ag l (ah l (ai l i).2).2.1)
  (hb:¬(((ai l i).1<0/\acc=[])/\l[ag l (ah l (ai l i).2).2.1]?=some 45)) :
  aQ l (f+1) i acc=aQ l f (ag l (ah l (ai l i).2).2.1) (acc++[⟨jC (ai l i).1,(ah l (ai l i).2).2.2⟩]):=by
 rw[aQ,if_neg h,if_pos hr,if_neg (fun hb'=>hb ⟨hb'.1,hb'.2.2⟩),if_neg (not_not_intro hg)]
theorem RD{A:Nat}{W:World}(h:w.grownBy W none)(hA:w.heap.size<=A)(T F:Value)(y1 y2 y3:Int)(x4:ByteArray)(n:Int):w.grownBy (DD W A T F y1 y2 y3 x4 n) none:=kD (kD (kD (kD (kD (kD (kD (kD h hA _ _) hA _ _) hA _ _) hA _ _) hA _ _) hA _ _) hA _ _) hA _ _
theorem ajj(sg:Int)(hs:-1<=sg/\sg<=6):∀(args:Array Value) (w:World),(callFunc (zZ sg) args).run prog w=.ok (.enter (zZ sg) args) w:=by
 intro args w;have hss:sg=-1\/sg=0\/sg=1\/sg=2\/sg=3\/sg=4\/sg=5\/sg=6:=by omega
 rcases hss with rfl|rfl|rfl|rfl|rfl|rfl|rfl|rfl
 ·exact Tryz.call183 args w
 ·exact Tryz.call183 args w
 ·exact Tryz.call179 args w
 ·exact Tryz.call180 args w
 ·exact Tryz.call181 args w
 ·exact Tryz.call182 args w
 ·exact Tryz.call184 args w
 ·exact Tryz.call187 args w
def RF(b:Nat)(s:ByteArray)(R:Int × Nat × List Te)(w:World)(e:Ending)(w':World):Prop :=
 ∃(o:Option Addr) (n c:Nat),e=.returned (.tuple #[.slice o n c,.int .i64 R.1])/\RS b s R.2.1 w'/\w.grownBy w' (some b)/\(R.1=0->∃L,OS w' w.heap.size (.slice o n c) L/\LOk L 300)
theorem ajk:LOk [ql ⟨qZ,yJ,true⟩] 1:=LOk.one (g:=⟨qZ,yJ,true⟩) (n:=1) ⟨YT 1 (Nat.le_refl _),fun h=>(by cases h),Nat.zero_le _⟩ (by decide)
theorem set_any(b:Nat)(s:ByteArray)(i:Nat)(w:World)(hi:i<=s.size)(h:RS b s i w)(hs:s.size<=200) :
  Calls prog 107 #[.pointer (some ⟨b,0,none⟩)] w (RF b s (aQ s.data.toList (s.data.toList.length+1) (ag s.data.toList i) []) w):=by
 obtain⟨l,hl⟩:=zN (s.data.toList);have hll:l.length=s.size:=by rw[<-hl];simp
 have dG:Hd (l.length=s.size/\s.size<=200):=⟨hll,hs⟩;have CL:=ae Cj;have CB:Hd (∀i w,i<=s.size->RS b s i w->Calls prog 108 #[.pointer (some ⟨b,0,none⟩)] w fun e w'=>e=.returned (.bool (decide (i<ag l i)))/\RS b s (ag l i) w'/\w.grownBy w' (some b)):=fun i w hi h=>by rw[<-hl];exact Qg b s i w hi h (by omega)
 have CE:=ae (IL b s);have CX:Hd (∀i w,i<=s.size->RS b s i w->Calls prog 131 #[.pointer (some ⟨b,0,none⟩),.string ⟨#[124]⟩] w fun e w'=>e=.returned (.bool (decide (l[i]?=some 124)))/\∃n,w'=w.drewN n):=fun i w hi h=>by
  have:=next_any b s ⟨#[124]⟩ i w hi h;rw[show(ByteArray.mk #[124]).data.toList=[124] from rfl,qJ,hl]at this;exact this
 have CT:Hd (∀i w,i<=s.size->RS b s i w->Calls prog 132 #[.pointer (some ⟨b,0,none⟩)] w (YW b s (ai l i).1 (ah l (ai l i).2) w)):=fun i w hi h=>by rw[<-hl];exact ag8 b s i w hi h (by omega)
 have TY:=ae (fun i w (hc:l[i]?=some 45) (h:RS b s i w)=>uj b s i 45 w (by rw[hl];exact hc) h (by omega));have TN:Hd (∀i w,i<=s.size->¬l[i]?=some 45->RS b s i w->Calls prog 109 #[.pointer (some ⟨b,0,none⟩),.string ⟨#[45]⟩] w fun e w'=>e=.returned (.bool false)/\RS b s i w'/\w.grownBy w' (some b)):=fun i w hi hc h=>pJ b s i 45 w hi (by rw[hl];exact hc) h (by omega)
 have CBT:Hd (∀(i:Nat) (p:Pa) (y1 y2 y3:Int) (Q:ByteArray) (m:Int) (w:World),wV y1 y2 y3 Q m=lV p->i<=s.size->RS b s i w->Calls prog 133 #[.pointer (some ⟨b,0,none⟩),.agg #[.int .i64 y1,.int .i64 y2,.int .i64 y3,.string Q,.string ⟨#[]⟩,.int .i64 m]] w (Rz b s (DX l i) (DY l i) (Dx p (ah l (ag l i)).2.2) w)):=fun i p y1 y2 y3 Q m w hp hi h=>by rw[<-hl];exact aje b s i p y1 y2 y3 Q m hp w hi h hs
 have rE:Hd (∀i,i<=s.size->i<=ag l i/\ag l i<=s.size):=fun i hi=>⟨sW l i,by have:=rq l i (by rw[hll];exact hi);rw[hll]at this;exact this⟩
 have Lt:Hd (∀i,i<=s.size->(ah l (ai l i).2).1=0->i<(ah l (ai l i).2).2.1/\(ah l (ai l i).2).2.1<=s.size/\iZ (ah l (ai l i).2).2.2):=fun i hi h0=>by
  have sp:=Gp l i (by rw[hll];exact hi);have pp:=Gn l _ sp.2 h0;exact⟨by omega,by rw[<-hll];exact pp.2,J9 l _ sp.2 h0⟩
 have gX:Hd (∀i,(ah l i).2.2.pre.length<=200):=fun i=>by have:=Qj l i;omega
 have HI:=ae h;have sG:=ae hi;have uX:Hd (b<w.heap.size):=by obtain⟨t,h⟩:=h;exact(bJ h)
 rw[hl];obtain⟨E0,J0,ts0,hR⟩:∃E0 J0 ts0,aQ l (l.length+1) (ag l i) []=(E0,J0,ts0):=⟨_,_,_,rfl⟩;have HR0:=ae hR;rw[hR];obtain⟨B,hB⟩:=zN (w.heap.size);have HB:Hd (w.heap.size=B/\b<B):=⟨hB,by rw[<-hB];exact uX.o⟩;clear hl hll hR h hs hi hB;go_enter func107,ntmps107;go_wp2_with (go_at_call 130;refine(CL.o _).mono ?_);rintro e w1 ⟨rfl,hg⟩;have HG:=ae hg;clear hg;go_wp2_with (go_at_call 108;refine(CB.o i _ sG.o ((HI.o.grow HG.o).grow (aH (ax w1 none) _))).mono ?_);rintro e w2 ⟨rfl,hr,hg⟩;have fU:Hd (OS w2 B (.slice (some ⟨w1.heap.size,0,none⟩) 1 1) [ql ⟨qZ,yJ,true⟩]):=by
  refine OS.growb (b:=b) (w:=w1.alloc (.cells #[.int .i64 0,.int .i64 0,.int .i64 0,.string ⟨#[48]⟩,.string ⟨#[]⟩,.int .i64 0,.int .i64 0,.int .i64 0,.string ⟨#[]⟩,.string ⟨#[]⟩,.bool true] 221)) ?_ hg HB.o.2;exact OS.one (s:=ql ⟨qZ,yJ,true⟩) (by rw[<-HB.o.1];exact HG.o.size) (heap_alloc_new w1 _)
 have HG2:=ae (ak (iy (ak HG.o (aH (ax w1 none) _)) _) hg);have HR2:=ae hr;obtain⟨a0,ha0⟩:=zN (w1.heap.size);rw[ha0]at fU
 try rw[ha0]
 clear hr hg ha0 HG;go_wp2;go_loopw [4,5] (fun va vf wr=>∃(f j:Nat) (acc:List Te) (L:List Sp),vf=.bool acc.isEmpty/\j<=s.size/\l.length<f+j/\acc.length<=j/\aQ l f j acc=(E0,J0,ts0)/\RS b s j wr/\OS wr B va L/\LOk L (acc.length+1)/\w.grownBy wr (some b)) (fun _ _ wr=>s.size-placeOf b wr)
 case atStart=>exact⟨l.length+1,ag l i,[],_,rfl,(rE.o i sG.o).2,by omega,Nat.zero_le _,HR0.o,HR2.o,fU.o,ajk,HG2.o⟩
 case round=>
  obtain⟨f,j,acc,L,rfl,hj,hf,ha,hps,hrs,hos,Ha,hg⟩:=hrel;clear fU HR2 HG2 HR0;obtain⟨o,n0,c0,rfl⟩:=hos.slice;obtain⟨f,rfl⟩:∃f',f=f'+1:=by
   cases f with
   |zero=>have:=dG.o.1;omega
   |succ f=>exact⟨f,rfl⟩
  have HJ:=ae hj;have HF:=ae hf;have HA:=ae ha;have o8:=ae hps;have aN:=ae hrs;have fU:=ae hos;have Ak:=ae Ha;have HG:=ae hg;clear hj hf ha hps hrs hos Ha hg;have RG:=ae aN.o.place;have He:=ae (CE.o j);have Lu:=ae (fun w (h:RS b s j w)=>CX.o j w HJ.o h);have FIN:Hd (∀(W:World),RS b s J0 W->w.grownBy W (some b)->(∃L,OS W B (.slice o n0 c0) L/\LOk L 300)->E0=0->RF b s (E0,J0,ts0) w (.returned (.tuple #[.slice o n0 c0,.int .i64 0])) W):=by
   intro W h1 h2 ⟨L,h3,h4⟩ h6;subst h6;exact⟨o,n0,c0,rfl,h1,h2,fun _=>⟨L,by rw[HB.o.1];exact h3,h4⟩⟩
  by_cases hend:j=s.size
  ·have HST:Hd (l.length<=j\/l[j]?=some 124):=Or.inl (by have:=dG.o.1;omega);rw[decide_eq_true hend]at He;clear hend;go_wp2_with (go_at_call 83;refine(He.o _ aN.o).mono ?_);rintro e u1 ⟨rfl,n,hn⟩;replace aN:Hd (RS b s j u1):=by show RS b s j u1;rw[hn];exact aN.o.drew n
   replace fU:Hd (OS u1 B (.slice o n0 c0) L):=by show OS u1 B _ L;rw[hn];exact fU.o
   replace HG:Hd (w.grownBy u1 (some b)):=by show w.grownBy u1 (some b);rw[hn];exact az HG.o n
   clear hn;go_wp2;obtain⟨rfl,rfl,rfl⟩:E0=0/\J0=j/\ts0=acc:=by have:=o8.o.symm.trans (aac HST.o);simpa using this
   have hfin:=FIN.o _ aN.o HG.o ⟨L,fU.o,Ak.o.mono (by have:=HA.o;have:=HJ.o;have:=dG.o.2;omega)⟩ rfl;exact bodyPost_ret (results_tmp2 (t:=2) (u:=3) rfl _ _ _) rfl hfin
  ·rw[decide_eq_false hend]at He;have nP:Hd (¬l.length<=j):=by show ¬_;have:=dG.o.1;have:=HJ.o;omega
   clear hend
   by_cases hbar:l[j]?=some 124
   ·have HST:Hd (l.length<=j\/l[j]?=some 124):=Or.inr hbar;rw[decide_eq_true hbar]at Lu;clear hbar;go_wp2_with (go_at_call 83;refine(He.o _ aN.o).mono ?_);rintro e u1 ⟨rfl,n,hn⟩;replace aN:Hd (RS b s j u1):=by show RS b s j u1;rw[hn];exact aN.o.drew n
    replace fU:Hd (OS u1 B (.slice o n0 c0) L):=by show OS u1 B _ L;rw[hn];exact fU.o
    replace HG:Hd (w.grownBy u1 (some b)):=by show w.grownBy u1 (some b);rw[hn];exact az HG.o n
    clear hn;go_wp2_with (go_at_call 131;refine(Lu.o _ aN.o).mono ?_);rintro e u2 ⟨rfl,n,hn⟩;replace aN:Hd (RS b s j u2):=by show RS b s j u2;rw[hn];exact aN.o.drew n
    replace fU:Hd (OS u2 B (.slice o n0 c0) L):=by show OS u2 B _ L;rw[hn];exact fU.o
    replace HG:Hd (w.grownBy u2 (some b)):=by show w.grownBy u2 (some b);rw[hn];exact az HG.o n
    clear hn;go_wp2;obtain⟨rfl,rfl,rfl⟩:E0=0/\J0=j/\ts0=acc:=by have:=o8.o.symm.trans (aac HST.o);simpa using this
    have hfin:=FIN.o _ aN.o HG.o ⟨L,fU.o,Ak.o.mono (by have:=HA.o;have:=HJ.o;have:=dG.o.2;omega)⟩ rfl;exact bodyPost_ret (results_tmp2 (t:=2) (u:=3) rfl _ _ _) rfl hfin
   ·have HST:Hd (¬(l.length<=j\/l[j]?=some 124)):=fun h=>h.elim nP.o hbar
    rw[decide_eq_false hbar]at Lu;clear hbar nP;have Aa:=ae (fun w (h:RS b s j w)=>CT.o j w HJ.o h);have lg:=ae (YS l j);have xu:=ae (Lt.o j HJ.o);have Ar:Hd ((ah l (ai l j).2).2.2.pre.length<=200):=gX.o _;have BAD:Hd (¬(ah l (ai l j).2).1=0->aQ l (f+1) j acc=((ah l (ai l j).2).1,(ah l (ai l j).2).2.1,acc)):=fun h=>ajf HST.o h
    have LAST:Hd ((ah l (ai l j).2).1=0->¬(ah l (ai l j).2).2.1<ag l (ah l (ai l j).2).2.1->aQ l (f+1) j acc=(0,ag l (ah l (ai l j).2).2.1,acc++[⟨jC (ai l j).1,(ah l (ai l j).2).2.2⟩])):=fun h1 h2=>ajh HST.o h1 h2
    have MORE:Hd ((ah l (ai l j).2).1=0->(ah l (ai l j).2).2.1<ag l (ah l (ai l j).2).2.1->¬(((ai l j).1<0/\acc=[])/\l[ag l (ah l (ai l j).2).2.1]?=some 45)->aQ l (f+1) j acc=aQ l f (ag l (ah l (ai l j).2).2.1) (acc++[⟨jC (ai l j).1,(ah l (ai l j).2).2.2⟩])):=fun h1 h2 h3=>aji HST.o h1 h2 h3
    have BTW:Hd ((ah l (ai l j).2).1=0->((ai l j).1<0/\acc=[])/\(ah l (ai l j).2).2.1<ag l (ah l (ai l j).2).2.1/\l[ag l (ah l (ai l j).2).2.1]?=some 45->(aQ l (f+1) j acc).1=DX l (ag l (ah l (ai l j).2).2.1+1)/\(aQ l (f+1) j acc).2.1=DY l (ag l (ah l (ai l j).2).2.1+1)/\((aQ l (f+1) j acc).1=0->(aQ l (f+1) j acc).2.2=[⟨7,(ah l (ai l j).2).2.2⟩,⟨2,(ah l (ag l (ag l (ah l (ai l j).2).2.1+1))).2.2⟩]/\(ah l (ag l (ag l (ah l (ai l j).2).2.1+1))).1=0)):=fun h1 h2=>ajg HST.o h1 h2
    obtain⟨sg,j1,hsg⟩:∃sg j1,ai l j=(sg,j1):=⟨_,_,rfl⟩;rw[hsg]at Aa lg xu Ar BAD LAST MORE BTW;simp only[]at Aa lg xu Ar BAD LAST MORE BTW;obtain⟨E,J,p,hR⟩:∃E J p,ah l j1=(E,J,p):=⟨_,_,_,rfl⟩;rw[hR]at Aa xu Ar BAD LAST MORE BTW;simp only[]at xu Ar BAD LAST MORE BTW;rw[o8.o]at BAD LAST MORE BTW;simp only[]at BTW;clear hsg hR HST;go_wp2_with (go_at_call 83;refine(He.o _ aN.o).mono ?_);rintro e u1 ⟨rfl,n,hn⟩;replace aN:Hd (RS b s j u1):=by show RS b s j u1;rw[hn];exact aN.o.drew n
    replace fU:Hd (OS u1 B (.slice o n0 c0) L):=by show OS u1 B _ L;rw[hn];exact fU.o
    replace HG:Hd (w.grownBy u1 (some b)):=by show w.grownBy u1 (some b);rw[hn];exact az HG.o n
    clear hn;go_wp2_with (go_at_call 131;refine(Lu.o _ aN.o).mono ?_);rintro e u2 ⟨rfl,n,hn⟩;replace aN:Hd (RS b s j u2):=by show RS b s j u2;rw[hn];exact aN.o.drew n
    replace fU:Hd (OS u2 B (.slice o n0 c0) L):=by show OS u2 B _ L;rw[hn];exact fU.o
    replace HG:Hd (w.grownBy u2 (some b)):=by show w.grownBy u2 (some b);rw[hn];exact az HG.o n
    clear hn;go_wp2_with (first|(go_at_call 132;refine(Aa.o _ aN.o).mono ?_));rintro e u3 ⟨T,x1,x2,x3,P,n,rfl,hT,hr,hg,hok⟩;replace aN:Hd (RS b s J u3):=hr;have jD:Hd (E=0->wV x1 x2 x3 P n=lV p):=hok;replace fU:=ae (fU.o.growb hg HB.o.2);replace HG:=ae (ak HG.o hg);have HT:=ae hT;obtain⟨F,hF⟩:=zN (zZ sg);have jk:=ae hF;rw[hF];obtain⟨D,hD⟩:=zN (u3.heap.size);obtain⟨W0,hW0⟩:=zN (u3.alloc (.cells #[.string ⟨#[]⟩,.nilFunc,.int .i64 0,.int .i64 0,.int .i64 0,.string ⟨#[]⟩,.string ⟨#[]⟩,.int .i64 0] 228));have HD0:Hd (TB D (.string ⟨#[]⟩) .nilFunc 0 0 0 ⟨#[]⟩ 0 W0):=by
     show TB D _ _ 0 0 0 _ 0 W0;unfold TB;rw[<-hW0,<-hD];exact heap_alloc_new u3 _
    have hgW:u3.grownBy W0 none:=by rw[<-hW0];exact aH (ax u3 none) _
    have bg:Hd (B<=D/\b≠D):=by have h1:=HG.o.size;have h2:=HB.o;rw[h2.1,hD]at h1;exact⟨h1,by omega⟩
    have dR:Hd (u3.grownBy W0 none/\u3.heap.size<=D):=⟨hgW,Nat.le_of_eq hD⟩;obtain⟨k0,k1,k2,k3,k4,k5,k6,k7⟩:=HD0.o.cells;have kf:=HD0.o.f;have stf:∀(a:Addr) (m:Mode) (w:World),(store a (.func (.func F) #[] #[]) m).run prog w=stored prog w a (.func (.func F) #[] #[]) m:=fun a m w=>run_store prog w a _ m rfl
    clear hr hg hok hT hF hgW
    cases hz:(E==0) with
    |false=>
     have hE0:¬E=0:=by simpa using hz
     have HB2:=ae (BAD.o hE0);have oh:=ae hE0;clear hE0;go_wp2;refine bodyPost_ret (results_tmp2 (t:=2) (u:=3) rfl _ _ _) rfl ?_;rw[HB2.o];exact⟨_,_,_,rfl,Ql (aN.o.grow dR.o.1) bg.o.2 _ _ _ _ _ _ _,ak HG.o (iy (RD dR.o.1 dR.o.2 _ _ _ _ _ _ _) _),fun h=>absurd h oh.o⟩
    |true=>
     have hE0:E=0:=by simpa using hz
     subst hE0;obtain⟨hp1,hp2,hp3⟩:=xu.o rfl;have HP:Hd (j<J/\J<=s.size/\iZ p):=⟨hp1,hp2,hp3⟩;have DZ:=ae (fun w (h:RS b s J w)=>CB.o J w HP.o.2.1 h);have yN:=ae (jD.o rfl);have HKK:=ae (rE.o J HP.o.2.1);obtain⟨K,hK⟩:=zN (ag l J);rw[hK]at DZ HKK LAST MORE BTW;have hcs:=agy sg lg.o p HP.o.2.2 (by have:=Ar.o;omega);rw[jk.o,<-yN.o]at hcs;obtain⟨s1,hs1⟩:=zN (ql (Gm (jC sg) p));have CF:Hd (∀w,Calls prog F #[.agg #[.int .i64 x1,.int .i64 x2,.int .i64 x3,.string P,.string ⟨#[]⟩,.int .i64 n]] w fun e w'=>e=.returned (.agg #[.int .i64 s1.f1,.int .i64 s1.f2,.int .i64 s1.f3,.string s1.f4,.string s1.f5,.int .i64 s1.t1,.int .i64 s1.t2,.int .i64 s1.t3,.string s1.t4,.string s1.t5,.bool s1.o])/\w.grownBy w' none):=fun w=>by rw[<-hs1];exact hcs w
     have hent:∀(args:Array Value) (w:World),(callFunc F args).run prog w=.ok (.enter F args) w:=by rw[<-jk.o];exact ajj sg lg.o
     have dP:=ae hs1;have aC:Hd (GOk (Gm (jC sg) p) 1000):=agZ _ p HP.o.2.2 1000 (by omega) (by have:=Ar.o;omega);have BL:Hd (LOk [s1] 1):=by show LOk [s1] 1;rw[<-hs1];exact LOk.one aC.o (by omega)
     have CM:=ae (fun w sl sm (h1:SpS w sl L) (h2:SpS w sm [s1])=>ajd sl sm L [s1] (acc.length+1) 1 w h1 h2 Ak.o BL.o (by have:=HA.o;have:=HJ.o;have:=dG.o.2;omega) (by omega));clear hp1 hp2 hp3 hK hcs hs1 hz;obtain⟨ap,hap⟩:=zN (decide (J<K));rw[hap]at DZ;have vH:=ae hap;clear hap;go_wp2_with (first|(go_at_call 108;refine(DZ.o _ (Ql (aN.o.grow dR.o.1) bg.o.2 _ _ _ _ _ _ _)).mono ?_));rintro e u4 ⟨rfl,hr,hg⟩;replace aN:=ae hr;have uO:=ae ((YV (T:=.string T) (F:=.func (.func F) #[] #[]) HD0.o x1 x2 x3 P n).growb hg (Ne.symm bg.o.2));replace fU:=ae ((fU.o.grow (RD dR.o.1 dR.o.2 _ _ _ _ _ _ _)).growb hg HB.o.2);replace HG:=ae (ak (ak HG.o (iy (RD dR.o.1 dR.o.2 _ _ _ _ _ _ _) _)) hg);clear hr hg k0 k1 k2 k3 k4 k5 k6 k7 kf stf hW0 hD HD0 dR;obtain⟨k0,k1,k2,k3,k4,k5,k6,k7⟩:=uO.o.cells
     by_cases hbt:acc.isEmpty=true/\decide (sg<0)=true/\ap=true/\l[K]?=some 45
     ·obtain⟨hfb,htb,rfl,sN⟩:=hbt;have hte:=HT.o;rw[htb]at hte;have FT:=ae ((of_decide_eq_true htb:sg<0));have HEM:Hd (acc=[]):=by show acc=[];simpa using hfb
      clear htb;have D5:=ae sN;clear sN;have TYK:=ae (fun w (h:RS b s K w)=>TY.o K w D5.o h);have jf:Hd (K+1<=s.size):=by have:=lF D5.o;rw[dG.o.1]at this;exact this
      go_wp2_with (first|(go_at_call 109;refine(TYK.o _ aN.o).mono ?_));rintro e u7 ⟨rfl,hr,hg⟩;replace aN:=ae hr;replace uO:=ae (uO.o.growb hg (Ne.symm bg.o.2));replace HG:=ae (ak HG.o hg);clear hr hg k0 k1 k2 k3 k4 k5 k6 k7;obtain⟨k0,k1,k2,k3,k4,k5,k6,k7⟩:=uO.o.cells;obtain⟨hb1,hb2,hb3⟩:=BTW.o (by first|trivial|rfl) ⟨⟨FT.o,HEM.o⟩,of_decide_eq_true vH.o,D5.o⟩;have CBK:Hd (∀w,RS b s (K+1) w->Calls prog 133 #[.pointer (some ⟨b,0,none⟩),.agg #[.int .i64 x1,.int .i64 x2,.int .i64 x3,.string P,.string ⟨#[]⟩,.int .i64 n]] w (Rz b s E0 J0 (Dx p (ah l (ag l (K+1))).2.2) w)):=fun w h=>by rw[hb1,hb2];exact CBT.o (K+1) p x1 x2 x3 P n w yN.o jf.o h
      have ajl:=ae hb3;have HQP:=ae (J9 l _ (by rw[dG.o.1];exact(rE.o (K+1) jf.o).2));clear hb1 hb2 hb3;go_wp2_with (first|(go_at_call 133;refine(CBK.o _ aN.o).mono ?_));rintro e u8 ⟨o',n',c',rfl,hr,hg,hok⟩;have sD:=ae hr;have BP:=ae (ak HG.o hg);have HO8:=ae (fun(h:E0=0)=>(hok h).base (by have:=HG.o.size;rw[HB.o.1]at this;exact this));clear hr hg hok;go_wp2;refine bodyPost_ret (results_tmp2 (t:=2) (u:=3) rfl _ _ _) rfl ⟨_,_,_,rfl,sD.o,BP.o,fun h=>?_⟩;obtain⟨q1,q2⟩:=ajl.o h;exact⟨_,by rw[HB.o.1];exact HO8.o h,(LOk.one (ag0 p _ HP.o.2.2 (HQP.o q2) 1000 (by omega) (by have:=Ar.o;omega) (by have:=gX.o (ag l (K+1));omega)) (by omega)).mono (by omega)⟩
     ·have ways:acc.isEmpty=false\/(acc.isEmpty=true/\decide (sg<0)=false)\/(acc.isEmpty=true/\decide (sg<0)=true/\ap=false)\/(acc.isEmpty=true/\decide (sg<0)=true/\ap=true/\¬l[K]?=some 45):=by
       cases h1:acc.isEmpty with
       |false=>exact Or.inl rfl
       |true=>
        cases h2:decide (sg<0) with
        |false=>exact Or.inr (Or.inl ⟨rfl,rfl⟩)
        |true=>
         cases h3:ap with
         |false=>exact Or.inr (Or.inr (Or.inl ⟨rfl,rfl,rfl⟩))
         |true=>exact Or.inr (Or.inr (Or.inr ⟨rfl,rfl,rfl,fun h=>hbt ⟨h1,h2,h3,h⟩⟩))
      have NBT:=ae hbt;clear hbt
      rcases ways with hfb|⟨hfb,htb⟩|⟨hfb,htb,rfl⟩|⟨hfb,htb,rfl,sN⟩
      all_goals (try(have hte:=HT.o;rw[htb]at hte;clear htb))
      all_goals (try(cases ap))
      all_goals (
       first
        | (have Gg:=ae sN
           clear sN;have TNK:=ae (fun w (h:RS b s K w)=>TN.o K w HKK.o.2 Gg.o h);go_wp2_with (first|(go_at_call 109;refine(TNK.o _ aN.o).mono ?_));rintro e u7 ⟨rfl,hr,hg⟩;replace aN:=ae hr;replace uO:=ae (uO.o.growb hg (Ne.symm bg.o.2));replace fU:=ae (fU.o.growb hg HB.o.2);replace HG:=ae (ak HG.o hg);clear hr hg k0 k1 k2 k3 k4 k5 k6 k7;obtain⟨k0,k1,k2,k3,k4,k5,k6,k7⟩:=uO.o.cells)
        | skip
       go_wp2_with (first|(refine(CF.o _).mono ?_));rintro e u5 ⟨rfl,hg⟩;replace aN:=ae (aN.o.grow hg);replace fU:=ae (fU.o.grow hg);replace HG:=ae (ak HG.o (iy hg _));clear hg k0 k1 k2 k3 k4 k5 k6 k7;go_wp2_with (first|(go_at_call 134;refine(CM.o _ _ _ (fU.o.grow (aH (ax u5 none) _)).sps (OS.one (base:=0) (s:=s1) (Nat.zero_le _) (heap_alloc_new u5 _)).sps).mono ?_));rintro e u6 ⟨hg,o',n',c',T',rfl,hos,hlk⟩;have hg':=ak (aH (ax u5 none) _) hg;replace aN:=ae (aN.o.grow hg');have xQ:=ae (ak HG.o (iy hg' _));have kR:Hd (OS u6 B (.slice o' n' c') T'):=hos.base (by have h1:=HG.o.size;rw[HB.o.1]at h1;simp;omega);have jv:=ae hlk;clear hg hg' hos hlk
       first
        | (have hx:=of_decide_eq_false vH.o
           obtain⟨rfl,rfl,rfl⟩:E0=0/\J0=K/\ts0=acc++[⟨jC sg,p⟩]:=by have:=LAST.o (by first|trivial|rfl) hx;simpa using this
           clear hx;go_wp2;exact bodyPost_ret (results_tmp2 (t:=2) (u:=3) rfl _ _ _) rfl ⟨_,_,_,rfl,aN.o,xQ.o,fun _=>⟨T',by rw[HB.o.1];exact kR.o,jv.o.mono (by have:=HA.o;have:=HJ.o;have:=dG.o.2;omega)⟩⟩)
        | (have ed:=ae (MORE.o (by first|trivial|rfl) (of_decide_eq_true vH.o) (fun h=>NBT.o ⟨by rw[h.1.2];rfl,by simpa using h.1.1,(by first|trivial|rfl),h.2⟩))
           go_wp2;go_roundw
           case rel=>exact⟨f,K,acc++[⟨jC sg,p⟩],T',by simp,HKK.o.2,by have h1:=HF.o;have h2:=HP.o.1;have h3:=of_decide_eq_true vH.o;omega,by rw[List.length_append];have h1:=HA.o;have h2:=HP.o.1;have h3:=HKK.o.1;simp;omega,ed.o.symm,aN.o,kR.o,by rw[List.length_append];exact jv.o,xQ.o⟩
           case measure=>have e1:=RG.o;have e2:=aN.o.place;rw[e1];exact Nat.lt_of_le_of_lt (Nat.le_of_eq (congrArg (s.size - ·) e2)) (by have h1:=HP.o.1;have h2:=HKK.o;have h3:=HP.o.2.1;omega)))
theorem ajm{f:Nat}{acc:List (List Te)}(h:¬(aQ l (l.length+1) (ag l i) []).1=0):iP l (f+1) i acc=((aQ l (l.length+1) (ag l i) []).1,(aQ l (l.length+1) (ag l i) []).2.1,acc):=by
 have e:kN l i=aQ l (l.length+1) (ag l i) []:=by unfold kN after;rw[if_neg h]
 rw[iP,e,if_neg h]
theorem RH(h:(aQ l (l.length+1) (ag l i) []).1=0):kN l i=if dL l (ag l (aQ l (l.length+1) (ag l i) []).2.1)=true then(0,ag l (aQ l (l.length+1) (ag l i) []).2.1,(aQ l (l.length+1) (ag l i) []).2.2) else(2,ag l (aQ l (l.length+1) (ag l i) []).2.1,(aQ l (l.length+1) (ag l i) []).2.2):=by
 unfold kN after;rw[if_pos h]
theorem ajn{f:Nat}{acc:List (List Te)}(h:(aQ l (l.length+1) (ag l i) []).1=0)(hl:l.length<=ag l (aQ l (l.length+1) (ag l i) []).2.1) :
  iP l (f+1) i acc=(0,ag l (aQ l (l.length+1) (ag l i) []).2.1,acc++[(aQ l (l.length+1) (ag l i) []).2.2]):=by
 have he:dL l (ag l (aQ l (l.length+1) (ag l i) []).2.1)=true:=by unfold dL;rw[decide_eq_true hl];rfl
 have e:=RH h;rw[if_pos he]at e;rw[iP,e,if_pos rfl];simp only[];rw[if_pos hl]
theorem ajo{f:Nat}{acc:List (List Te)}(h:(aQ l (l.length+1) (ag l i) []).1=0)(hl:¬l.length<=ag l (aQ l (l.length+1) (ag l i) []).2.1)(hb:¬lD l (ag l (aQ l (l.length+1) (ag l i) []).2.1)=true) :
  iP l (f+1) i acc=(2,ag l (aQ l (l.length+1) (ag l i) []).2.1,acc):=by
 have he:¬dL l (ag l (aQ l (l.length+1) (ag l i) []).2.1)=true:=by
  unfold dL;rw[decide_eq_false hl];simpa using hb
 have e:=RH h;rw[if_neg he]at e;rw[iP,e,if_neg (by simp)]
theorem ajp{f:Nat}{acc:List (List Te)}(h:(aQ l (l.length+1) (ag l i) []).1=0)(hl:¬l.length<=ag l (aQ l (l.length+1) (ag l i) []).2.1)(hb:lD l (ag l (aQ l (l.length+1) (ag l i) []).2.1)=true) :
  iP l (f+1) i acc=iP l f (ag l (aQ l (l.length+1) (ag l i) []).2.1+2) (acc++[(aQ l (l.length+1) (ag l i) []).2.2]):=by
 have he:dL l (ag l (aQ l (l.length+1) (ag l i) []).2.1)=true:=by unfold dL;rw[hb];simp
 have e:=RH h;rw[if_pos he]at e;rw[iP,e,if_pos rfl];simp only[];rw[if_neg hl]
theorem ajq(L:List Sp):∀u∈L.flatMap fM,u.oneCell'=true:=by
 intro u hu;obtain⟨s,_,hs⟩:=List.mem_flatMap.1 hu;exact WO s u hs
theorem RS.growr{s:ByteArray}{row:Option Nat}(h:RS b s i w)(hg:w.grownBy w' row)(hn:some b≠row):RS b s i w':=by
 obtain⟨t,h⟩:=h;exact⟨t,by rw[hg.block b ((bJ h)) hn];exact h⟩
theorem OS.far{base:Nat}{L:List Sp}(h:OS w base sl L):∀q,sl.ownBlock=some q->base<=q:=by
 intro q hq
 rcases h.2 with⟨h1,_⟩|⟨g,cap,cur,hv,hb,_⟩
 ·rw[h1]at hq;cases hq
 ·rw[hv]at hq;simp only[Value.ownBlock,Option.some.injEq]at hq;omega
def ajr(b:Nat)(s:ByteArray)(R:Int × Nat × List (List Te))(w:World)(e:Ending)(w':World):Prop :=
 ∃(o:Option Addr) (n c:Nat),e=.returned (.tuple #[.slice o n c,.int .i64 R.1])/\RS b s R.2.1 w'/\w.grownBy w' (some b)/\(R.1=0->∃L,OS w' w.heap.size (.slice o n c) L/\LOk L 70000)
theorem ajs(b:Nat)(s:ByteArray)(w:World)(h:RS b s 0 w)(hs:s.size<=200) :
  Calls prog 79 #[.pointer (some ⟨b,0,none⟩)] w (ajr b s (iP s.data.toList (s.data.toList.length+1) 0 []) w):=by
 obtain⟨l,hl⟩:=zN (s.data.toList);have hll:l.length=s.size:=by rw[<-hl];simp
 have dG:Hd (l.length=s.size/\s.size<=200):=⟨hll,hs⟩;have CS:Hd (∀i w,i<=s.size->RS b s i w->Calls prog 107 #[.pointer (some ⟨b,0,none⟩)] w (RF b s (aQ l (l.length+1) (ag l i) []) w)):=fun i w hi h=>by rw[<-hl];exact set_any b s i w hi h hs
 have CB:Hd (∀i w,i<=s.size->RS b s i w->Calls prog 108 #[.pointer (some ⟨b,0,none⟩)] w fun e w'=>e=.returned (.bool (decide (i<ag l i)))/\RS b s (ag l i) w'/\w.grownBy w' (some b)):=fun i w hi h=>by rw[<-hl];exact Qg b s i w hi h (by omega)
 have CE:=ae (IL b s);have CT:Hd (∀i w,i<=s.size->RS b s i w->Calls prog 109 #[.pointer (some ⟨b,0,none⟩),.string ⟨#[124,124]⟩] w fun e w'=>e=.returned (.bool (lD l i))/\RS b s (if lD l i=true then i+2 else i) w'/\w.grownBy w' (some b)):=fun i w hi h=>by
  have:=take_any b s ⟨#[124,124]⟩ i w hi h (by omega) (by show 2 < _;decide);rw[show(ByteArray.mk #[124,124]).data.toList=[124,124] from rfl,Ku,hl]at this;exact this
 have rE:Hd (∀i,i<=s.size->i<=ag l i/\ag l i<=s.size):=fun i hi=>⟨sW l i,by have:=rq l i (by rw[hll];exact hi);rw[hll]at this;exact this⟩
 have gQ:Hd (∀i,i<=s.size->(aQ l (l.length+1) (ag l i) []).1=0->i<=(aQ l (l.length+1) (ag l i) []).2.1/\(aQ l (l.length+1) (ag l i) []).2.1<=s.size):=fun i hi h0=>by
  have h1:=rE.o i hi;have h2:=Qi l (l.length+1) (ag l i) [] (by rw[hll];exact h1.2) h0;exact⟨by omega,by rw[<-hll];exact h2.2⟩
 have HI:=ae h;have uX:Hd (b<w.heap.size):=by obtain⟨t,h⟩:=h;exact(bJ h)
 rw[hl];obtain⟨E0,J0,S0,hR⟩:∃E0 J0 S0,iP l (l.length+1) 0 []=(E0,J0,S0):=⟨_,_,_,rfl⟩;have HR0:=ae hR;rw[hR];obtain⟨B,hB⟩:=zN (w.heap.size);have HB:Hd (w.heap.size=B/\b<B):=⟨hB,by rw[<-hB];exact uX.o⟩;clear hl hll hR h hs hB;go_enter func79,ntmps79;go_wp2;go_loopw [4] (fun va wr=>∃(f j:Nat) (acc:List (List Te)) (L:List Sp),j<=s.size/\l.length<f+j/\acc.length<=j/\iP l f j acc=(E0,J0,S0)/\RS b s j wr/\OS wr B va L/\LOk L (300*acc.length)/\w.grownBy wr (some b)) (fun _ wr=>s.size-placeOf b wr)
 case atStart=>exact⟨l.length+1,0,[],[],Nat.zero_le _,by omega,Nat.le_refl _,HR0.o,HI.o,OS.emp _ _,⟨rfl,fun s hs=>(by cases hs),Nat.le_refl _⟩,ax _ _⟩
 case round=>
  obtain⟨f,j,acc,L,hj,hf,ha,hps,hrs,hos,Ha,hg⟩:=hrel;clear HI HR0;obtain⟨o,n0,c0,rfl⟩:=hos.slice;obtain⟨f,rfl⟩:∃f',f=f'+1:=by
   cases f with
   |zero=>have:=dG.o.1;omega
   |succ f=>exact⟨f,rfl⟩
  have HJ:=ae hj;have HF:=ae hf;have HA:=ae ha;have o8:=ae hps;have aN:=ae hrs;have RG:=ae hrs.place;have fU:=ae hos;have Ak:=ae Ha;have HG:=ae hg;clear hj hf ha hps hrs hos Ha hg;have CSJ:=ae (fun w (h:RS b s j w)=>CS.o j w HJ.o h);have xu:=ae (gQ.o j HJ.o);have BAD:Hd (¬(aQ l (l.length+1) (ag l j) []).1=0->iP l (f+1) j acc=((aQ l (l.length+1) (ag l j) []).1,(aQ l (l.length+1) (ag l j) []).2.1,acc)):=fun h=>ajm h
  have LAST:Hd ((aQ l (l.length+1) (ag l j) []).1=0->l.length<=ag l (aQ l (l.length+1) (ag l j) []).2.1->iP l (f+1) j acc=(0,ag l (aQ l (l.length+1) (ag l j) []).2.1,acc++[(aQ l (l.length+1) (ag l j) []).2.2])):=fun h h1=>ajn h h1
  have TXT:Hd ((aQ l (l.length+1) (ag l j) []).1=0->¬l.length<=ag l (aQ l (l.length+1) (ag l j) []).2.1->¬lD l (ag l (aQ l (l.length+1) (ag l j) []).2.1)=true->iP l (f+1) j acc=(2,ag l (aQ l (l.length+1) (ag l j) []).2.1,acc)):=fun h h1 h2=>ajo h h1 h2
  have MORE:Hd ((aQ l (l.length+1) (ag l j) []).1=0->¬l.length<=ag l (aQ l (l.length+1) (ag l j) []).2.1->lD l (ag l (aQ l (l.length+1) (ag l j) []).2.1)=true->iP l (f+1) j acc=iP l f (ag l (aQ l (l.length+1) (ag l j) []).2.1+2) (acc++[(aQ l (l.length+1) (ag l j) []).2.2])):=fun h h1 h2=>ajp h h1 h2
  obtain⟨E,J,ts,hR⟩:∃E J ts,aQ l (l.length+1) (ag l j) []=(E,J,ts):=⟨_,_,_,rfl⟩;rw[hR]at CSJ xu BAD LAST TXT MORE;simp only[]at xu BAD LAST TXT MORE;rw[o8.o]at BAD LAST TXT MORE;clear hR;go_wp2_with (go_at_call 107;refine(CSJ.o _ aN.o).mono ?_);rintro e u1 ⟨o1,n1,c1,rfl,hr,hg,hok⟩;replace aN:Hd (RS b s J u1):=hr;replace fU:=ae (fU.o.growb hg HB.o.2);have x9:Hd (B<=wr.heap.size):=by have:=HG.o.size;rw[HB.o.1]at this;exact this
  replace HG:=ae (ak HG.o hg);have jD:Hd (E=0->∃L,OS u1 B (.slice o1 n1 c1) L/\LOk L 300):=fun h0=>by
   obtain⟨L1,h1,h2⟩:=hok h0;exact⟨L1,h1.base x9.o,h2⟩
  clear hr hg hok
  cases hz:(E==0) with
  |false=>
   have hE0:¬E=0:=by simpa using hz
   have HB2:=ae (BAD.o hE0);have oh:=ae hE0;clear hE0;go_wp2;refine bodyPost_ret (results_tmp2 (t:=2) (u:=3) rfl _ _ _) rfl ?_;rw[HB2.o];exact⟨_,_,_,rfl,aN.o,HG.o,fun h=>absurd h oh.o⟩
  |true=>
   have hE0:E=0:=by simpa using hz
   subst hE0;obtain⟨hp1,hp2⟩:=xu.o rfl;have HP:Hd (j<=J/\J<=s.size):=⟨hp1,hp2⟩;obtain⟨L1,ho1,hl1⟩:=jD.o rfl;have lT:=ae ho1;have nX:Hd (n1=L1.length/\n0=L.length):=by
    constructor
    ·rcases ho1.2 with⟨h1,h2⟩|⟨g,cap,cur,hv,_⟩
     ·cases h1;exact h2.symm
     ·cases hv;rfl
    ·rcases fU.o.2 with⟨h1,h2⟩|⟨g,cap,cur,hv,_⟩
     ·cases h1;exact h2.symm
     ·cases hv;rfl
   have jv:Hd (LOk (L++L1) (300*(acc++[ts]).length)):=by
    have:=Ak.o.app hl1;refine this.mono ?_;rw[List.length_append];simp;omega
   have DZ:=ae (fun w (h:RS b s J w)=>CB.o J w HP.o.2 h);have HKK:=ae (rE.o J HP.o.2);obtain⟨K,hK⟩:=zN (ag l J);rw[hK]at DZ HKK LAST TXT MORE;clear hp1 hp2 hK hz ho1 hl1 jD;have hinfo:=WN;obtain⟨i1,hj0,hjj⟩:=Option.map_eq_some_iff.1 hinfo;have hy0:i1.zero=some (.agg #[.int .i64 0,.int .i64 0,.int .i64 0,.string ⟨#[]⟩,.string ⟨#[]⟩,.int .i64 0,.int .i64 0,.int .i64 0,.string ⟨#[]⟩,.string ⟨#[]⟩,.bool false]):=congrArg (·.1) hjj;have hy1:i1.size=11:=congrArg (·.2.1) hjj;have hyb:i1.bytes=120:=congrArg (·.2.2) hjj;clear hjj hinfo;have aad:Hd (L.length+L1.length<=70000):=by
    have h1:=jv.o.ln;have h2:=HA.o;have h3:=HJ.o;have h4:=dG.o.2;rw[List.length_append,List.length_append]at h1;show _<=_;simp at h1;omega
   have hfm:=lT.o.2
   rcases hfm with⟨h1,h2⟩|⟨g,cap,cur,hv,_⟩
   case' inl=>
    simp only[Value.slice.injEq]at h1;obtain⟨rfl,rfl,rfl⟩:=h1;have hL1:=List.length_eq_zero_iff.1 h2;have kR:Hd (OS u1 B (.slice o n0 c0) (L++L1)):=by show OS u1 B _ _;rw[hL1,List.append_nil];exact fU.o
    clear h2 hL1;go_wp2_with (first|(at_builtin;refine wpList_append_own_none rfl _ _ 105 rfl B 221 i1 11 underlying105 hj0 _ _ _ rfl fU.o rfl ?_));clear hj0 hy0 hy1 hyb
   case' inr=>
    simp only[Value.slice.injEq]at hv;obtain⟨rfl,hn1,rfl⟩:=hv;subst hn1;go_wp2_with (first|(at_builtin;refine wpList_append_own _ rfl _ _ 105 rfl B 221 i1 _ 11 120 underlying105 hj0 hy0 hy1 hyb rfl (by decide) _ _ _ rfl fU.o _ _ _ (L1.flatMap fM) rfl lT.o.1 (ag9 lT.o) (ajq L1) (by unfold maxLen;have:=aad.o;omega) (by have:=aad.o;omega) (by have h1:=HG.o.size;rw[HB.o.1]at h1;exact h1) ?_;intro v' u2 hown hgrow _));have kR:Hd (OS u2 B v' (L++L1)):=by show OS u2 B v' _;unfold OS;rw[List.length_append,List.flatMap_append];exact hown
    have yX:=fU.o.far;replace aN:=ae (aN.o.growr hgrow (fun e=>by have:=yX b e.symm;have:=HB.o.2;omega));replace HG:=ae (YY HG.o hgrow (fun q hq=>by rw[HB.o.1];exact yX q hq));clear hown hgrow yX hj0 hy0 hy1 hyb
   all_goals (
    obtain⟨o2,n2,c2,hva⟩:=kR.o.slice;rw[hva]at kR
    try rw[hva]
    clear hva;go_wp2_with (go_at_call 108;refine(DZ.o _ aN.o).mono ?_);rintro e u3 ⟨rfl,hr,hg⟩;replace aN:=ae hr;replace kR:=ae (kR.o.growb hg HB.o.2);replace HG:=ae (ak HG.o hg);clear hr hg;have LC:=ae (CE.o K);have D6:=ae (fun w (h:RS b s K w)=>CT.o K w HKK.o.2 h)
    cases hend:decide (K=s.size) with
    |true=>
     rw[hend]at LC;have hke:=of_decide_eq_true hend;obtain⟨rfl,rfl,rfl⟩:E0=0/\J0=K/\S0=acc++[ts]:=by have:=LAST.o (by first|trivial|rfl) (by have:=dG.o.1;omega);simpa using this
     clear hend hke;go_wp2_with (go_at_call 83;refine(LC.o _ aN.o).mono ?_);rintro e u4 ⟨rfl,n,hn⟩;replace aN:Hd (RS b s J0 u4):=by show RS b s J0 u4;rw[hn];exact aN.o.drew n
     replace kR:Hd (OS u4 B (.slice o2 n2 c2) (L++L1)):=by show OS u4 B _ _;rw[hn];exact kR.o
     replace HG:Hd (w.grownBy u4 (some b)):=by show w.grownBy u4 (some b);rw[hn];exact az HG.o n
     clear hn;go_wp2;exact bodyPost_ret (results_tmp2 (t:=2) (u:=3) rfl _ _ _) rfl ⟨_,_,_,rfl,aN.o,HG.o,fun _=>⟨L++L1,by rw[HB.o.1];exact kR.o,jv.o.mono (by rw[List.length_append];have h2:=HA.o;have h3:=HJ.o;have h4:=dG.o.2;simp;omega)⟩⟩
    |false=>
     rw[hend]at LC;have nP:Hd (¬l.length<=K):=by show ¬_;have:=of_decide_eq_false hend;have:=dG.o.1;have:=HKK.o.2;omega
     clear hend;go_wp2_with (go_at_call 83;refine(LC.o _ aN.o).mono ?_);rintro e u4 ⟨rfl,n,hn⟩;replace aN:Hd (RS b s K u4):=by show RS b s K u4;rw[hn];exact aN.o.drew n
     replace kR:Hd (OS u4 B (.slice o2 n2 c2) (L++L1)):=by show OS u4 B _ _;rw[hn];exact kR.o
     replace HG:Hd (w.grownBy u4 (some b)):=by show w.grownBy u4 (some b);rw[hn];exact az HG.o n
     clear hn
     cases hbar:lD l K with
     |true=>
      rw[hbar]at D6;have CTY:Hd (∀w,RS b s K w->Calls prog 109 #[.pointer (some ⟨b,0,none⟩),.string ⟨#[124,124]⟩] w fun e w'=>e=.returned (.bool true)/\RS b s (K+2) w'/\w.grownBy w' (some b)):=D6.o;have ed:=ae (MORE.o (by first|trivial|rfl) nP.o hbar);have fD:Hd (K+2<=s.size):=by have:=Qh l K hbar;rw[dG.o.1]at this;exact this
      clear hbar D6;go_wp2_with (go_at_call 109;refine(CTY.o _ aN.o).mono ?_);rintro e u5 ⟨rfl,hr,hg⟩;replace aN:=ae hr;replace kR:=ae (kR.o.growb hg HB.o.2);replace HG:=ae (ak HG.o hg);clear hr hg;go_wp2;go_roundw
      case rel=>exact⟨f,K+2,acc++[ts],L++L1,fD.o,by have h1:=HF.o;have h2:=HP.o.1;have h3:=HKK.o.1;omega,by rw[List.length_append];have h1:=HA.o;have h2:=HP.o.1;have h3:=HKK.o.1;simp;omega,ed.o.symm,aN.o,kR.o,jv.o,HG.o⟩
      case measure=>
       have e1:=RG.o;have e2:=aN.o.place;rw[e1];exact Nat.lt_of_le_of_lt (Nat.le_of_eq (congrArg (s.size - ·) e2)) (by have h1:=HP.o;have h2:=HKK.o;have h3:=fD.o;omega)
     |false=>
      rw[hbar]at D6;have CTN:Hd (∀w,RS b s K w->Calls prog 109 #[.pointer (some ⟨b,0,none⟩),.string ⟨#[124,124]⟩] w fun e w'=>e=.returned (.bool false)/\RS b s K w'/\w.grownBy w' (some b)):=D6.o;have ed:=ae (TXT.o (by first|trivial|rfl) nP.o (by rw[hbar];decide));clear hbar D6;go_wp2_with (go_at_call 109;refine(CTN.o _ aN.o).mono ?_);rintro e u5 ⟨rfl,hr,hg⟩;replace aN:=ae hr;replace HG:=ae (ak HG.o hg);clear hr hg;go_wp2;refine bodyPost_ret (results_tmp2 (t:=2) (u:=3) rfl _ _ _) rfl ?_;rw[ed.o];exact⟨_,_,_,rfl,aN.o,HG.o,fun h=>absurd h (by simp)⟩)
def ajt(R:Int × Nat × List (List Te))(w:World)(e:Ending)(w':World):Prop :=
 ∃(o:Option Addr) (n c:Nat),e=.returned (.tuple #[.slice o n c,.int .i64 R.1,.int .i64 (R.2.1:Int)])/\w.grownBy w' none
theorem aju(l:List UInt8)(h:¬200<l.length):((iP l (l.length+1) 0 []).1=0->jM l=(0,0,(iP l (l.length+1) 0 []).2.2))/\(¬(iP l (l.length+1) 0 []).1=0->jM l=((iP l (l.length+1) 0 []).1,(iP l (l.length+1) 0 []).2.1,[])):=by
 obtain⟨h1,h2,h3⟩:=YR l (l.length+1) 0 [] (Nat.zero_le _);unfold jM;rw[if_neg h];constructor
 ·intro h0;rw[if_pos (h1.symm.trans h0),h3 h0]
 ·intro h0;rw[if_neg (fun e=>h0 (h1.trans e)),h1,h2]
theorem ajv(s:ByteArray)(w:World)(hs:s.size<2 ^ 62) :
  Calls prog 53 #[.string s] w (ajt (jM s.data.toList) w):=by
 by_cases h200:200<s.size
 ·have hR:jM s.data.toList=(1,0,[]):=by unfold jM;rw[if_pos (by simpa using h200)]
  rw[hR];clear hR;go_enter func53,ntmps53;go_wp2;exact bodyPost_ret (results_tmp3 (t:=2) (u:=3) (v:=4) rfl _ _ _) rfl ⟨_,_,_,rfl,ax _ _⟩
 ·have hR:=aju s.data.toList (by simpa using h200);have CS:=ae (fun b w (h:RS b s 0 w)=>ajs b s w h (by omega));have CN:=ae (fun(sl:Value) (L:List Sp) (w:World) (h1:SpS w sl L) (h2:LOk L 70000)=>ajc sl L 70000 w h1 h2 (by omega));obtain⟨E,J,S,hP⟩:∃E J S,iP s.data.toList (s.data.toList.length+1) 0 []=(E,J,S):=⟨_,_,_,rfl⟩;rw[hP]at CS hR;have HR:Hd ((E=0->jM s.data.toList=(0,0,S))/\(¬E=0->jM s.data.toList=(E,J,[]))):=hR;obtain⟨R,hRR⟩:=zN (jM s.data.toList);rw[hRR]at HR ⊢;clear hR hP hRR hs;go_enter func53,ntmps53;go_wp2_with (go_at_call 79;refine(CS.o _ _ ⟨_,heap_alloc_new w _⟩).mono ?_);rintro e w1 ⟨o,n,c,rfl,hr,hg,hok⟩;obtain⟨A,hA⟩:=zN (w.heap.size);have HG:=ae (Vd hg);have hsz:w.heap.size<=(w.alloc (.cells #[.string s,.int .i64 0] 152)).heap.size:=by simp
  have jD:Hd (E=0->∃L,OS w1 w.heap.size (.slice o n c) L/\LOk L 70000):=fun h=>by
   obtain⟨L,h1,h2⟩:=hok h;exact⟨L,h1.base hsz,h2⟩
  rw[hA]at hr;have HR1:Hd (RS A s J w1):=hr;have HA:=ae hA
  try rw[hA]
  clear hA hr hg hok hsz
  cases hz:(E==0) with
  |false=>
   have hE0:¬E=0:=by simpa using hz
   have oh:=ae hE0;have e1:=HR1.o.c1;clear hE0;go_wp2;go_quiet (fail);go_wp2;refine bodyPost_ret (results_tmp3 (t:=2) (u:=3) (v:=4) rfl _ _ _) rfl ?_;rw[HR.o.2 oh.o];exact⟨_,_,_,rfl,az HG.o _⟩
  |true=>
   have hE0:E=0:=by simpa using hz
   subst hE0;obtain⟨L,ho,hl⟩:=jD.o rfl;have CNL:=ae (CN.o _ L w1 ho.sps hl);have HRR:=ae (HR.o.1 rfl);clear ho hl hz jD HR;go_wp2_with (go_at_call 80;refine CNL.o.mono ?_);rintro e w2 ⟨hg,o',n',c',T,rfl,hos,hlk⟩;have HF:=ae (ak HG.o hg);clear hg hos hlk;go_wp2;refine bodyPost_ret (results_tmp3 (t:=2) (u:=3) (v:=4) rfl _ _ _) rfl ?_;rw[HRR.o];exact⟨_,_,_,rfl,HF.o⟩
end Go.Proofs.YtbcfhgpfgdbjgaaGreatDoor
