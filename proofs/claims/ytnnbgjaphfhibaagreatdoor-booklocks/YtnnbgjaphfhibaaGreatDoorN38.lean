import Derived.Test.YtnnbgjaphfhibaaGreatDoorN20
import Derived.Test.YtnnbgjaphfhibaaGreatDoorN33
set_option linter.unusedVariables false
set_option linter.unusedSimpArgs false
set_option maxRecDepth 100000
set_option maxHeartbeats 6400000
open Go.Proofs.Tryz
namespace Go.Proofs.YtnnbgjaphfhibaaGreatDoor
open Go.RowKit Go.Maps Go.WideMaps Go.Joins
structure Sn(w:World)(E:Int->TypeId × Value)(b:Int->Addr):Prop where
 ptr:∀k,1<=k->k<=5->E k=(317,.pointer (some (b k)))
 blk:∀k,1<=k->k<=5->∃cs t,w.heap[(b k).block]?=some (.cells cs t (0,0))
 ne:∀k m,1<=k->k<=5->1<=m->m<=5->b k=b m->k=m
 ty:w.cell? ⟨4,0,none⟩=some (.iface 219 (.agg #[.pointer (some ⟨14,94,none⟩)]))
 lo:w.cell? ⟨0,0,none⟩=some (.iface (E 1).1 (E 1).2)
theorem Sn.grow{w w':World}{E:Int->TypeId × Value}{b:Int->Addr}(h:Sn w E b)(hg:w.grownBy w' none):Sn w' E b :=
 ⟨h.ptr,fun k h1 h2=>by
  obtain⟨cs,t,hb⟩:=h.blk k h1 h2;exact⟨cs,t,(hg.block _ (aA hb) (by simp)).trans hb⟩,h.ne,hg.cell h.ty (by simp),hg.cell h.lo (by simp)⟩
theorem adz(w:World)(E:Int->TypeId × Value)(b:Int->Addr)(h:Sn w E b)(F:Nat)(c k:Int)(h1:1<=c)(h2:c<=5)(h3:1<=k)(h4:k<=5)(hF:w.cell? ⟨F,1,none⟩=some (.iface (E c).1 (E c).2)) :
  Calls prog 74 #[.iface 130 (.pointer (some ⟨F,0,none⟩)),.iface (E k).1 (E k).2] w fun e w'=>e=.returned (.bool (decide (c=k)))/\w'=w:=by
 have ec:=h.ptr c h1 h2;have ek:=h.ptr k h3 h4;rw[ec]at hF;rw[ek]
 by_cases hck:c=k
 ·subst hck;rw[decide_eq_true rfl];exact Zb F (b c) w hF
 ·rw[decide_eq_false hck];obtain⟨ca,ta,ha⟩:=h.blk c h1 h2;obtain⟨cb,tb,hb⟩:=h.blk k h3 h4;exact Zc F (b k) (b c) ca cb ta tb w hF (fun e=>hck (h.ne c k h1 h2 h3 h4 e)) ha hb
theorem adA(E:Int->TypeId × Value)(b:Int->Addr)(w:World)(F:Nat)(c:Int)(p:Nat)(G:Gl w w.heap.size E)(S:Sn w E b)(h1:1<=c)(h2:c<=5)(hF:w.heap[F]?=some (.cells #[.int .i64 (p:Nat),.iface (E c).1 (E c).2] 134 (0,0))) :
  Calls prog 48 #[.iface 130 (.pointer (some ⟨F,0,none⟩))] w fun e w'=>e=.returned (.tuple #[.int .i64 c,.int .i64 (p:Nat)])/\w.grownBy w' none:=by
 -- the variable's block
 have uH:w.grownBy (w.alloc (.cells #[.pointer none] 130)) none:=World.grownBy_alloc _ _ none;obtain⟨w1,hw1⟩:∃W,w.alloc (.cells #[.pointer none] 130)=W:=⟨_,rfl⟩;have hT:w1.heap[w.heap.size]?=some (.cells #[.pointer none] 130 (0,0)):=by rw[<-hw1];exact heap_alloc_new w _
 rw[hw1]at uH;have S1:=S.grow uH;obtain⟨T,hTe⟩:=zN (w.heap.size);rw[hTe]at hT;have CA:=as_hit ⟨F,0,none⟩ ⟨T,0,none⟩ (.pointer none) w1 S1.ty (by rw[af hT];rfl) (Lib.frozen_of_heap hT 0)
 -- the world behind errors.As
 have nP:¬F=T:=fun e=>by have:=aA hF;omega
 have post:∀w2:World,w2=((((w1.alloc (.cells #[.pointer (some ⟨T,0,none⟩)] 132)).alloc (.cells #[.pointer (some ⟨14,132,none⟩),.pointer (some ⟨w1.heap.size,0,none⟩),.int .u64 150] 169)).alloc (.cells #[.pointer (some ⟨14,132,none⟩),.pointer (some ⟨w1.heap.size,0,none⟩),.int .u64 150] 169)).alloc (.cells #[.pointer (some ⟨F,0,none⟩)] 130)).setCell ⟨T,0,none⟩ (.pointer (some ⟨F,0,none⟩))->w.grownBy w2 none/\w2.cell? ⟨T,0,none⟩=some (.pointer (some ⟨F,0,none⟩))/\w2.cell? ⟨F,0,none⟩=some (.int .i64 (p:Nat))/\w2.cell? ⟨F,1,none⟩=some (.iface (E c).1 (E c).2):=fun w2 e=>by
  obtain⟨wx,hwx⟩:∃W,(((w1.alloc (.cells #[.pointer (some ⟨T,0,none⟩)] 132)).alloc (.cells #[.pointer (some ⟨14,132,none⟩),.pointer (some ⟨w1.heap.size,0,none⟩),.int .u64 150] 169)).alloc (.cells #[.pointer (some ⟨14,132,none⟩),.pointer (some ⟨w1.heap.size,0,none⟩),.int .u64 150] 169)).alloc (.cells #[.pointer (some ⟨F,0,none⟩)] 130)=W:=⟨_,rfl⟩;have g1:w1.grownBy wx none:=by
   rw[<-hwx];exact ai (ai (ai (World.grownBy_alloc _ _ none) (World.grownBy_alloc _ _ none)) (World.grownBy_alloc _ _ none)) (World.grownBy_alloc _ _ none)
  rw[hwx]at e;have hTx:wx.heap[T]?=some (.cells #[.pointer none] 130 (0,0)):=(g1.block T (aA hT) (by simp)).trans hT;have hset:=block_setCell (i:=0) hTx (.pointer (some ⟨F,0,none⟩));rw[<-e]at hset;have hF2:w2.heap[F]?=some (.cells #[.int .i64 (p:Nat),.iface (E c).1 (E c).2] 134 (0,0)):=by
   have e1:=(uH.block F (aA hF) (by simp)).trans hF;have e2:=(g1.block F (aA e1) (by simp)).trans e1;rw[e];exact(heap_setCell_other _ _ _ _ nP).trans e2
  refine⟨?_,by rw[af hset];rfl,by rw[af hF2];rfl,by rw[af hF2];rfl⟩;have g2:w.grownBy wx none:=ai uH g1;rw[e];refine⟨g2.os,g2.tape,g2.output,by simpa [World.setCell] using g2.size,fun k hk hn=>?_⟩;rw[heap_setCell_other wx _ k _ (by simp;omega)];exact g2.block k hk hn
 have kP:Hd (Calls prog 73 #[.iface 130 (.pointer (some ⟨F,0,none⟩)),.iface 132 (.pointer (some ⟨T,0,none⟩))] w1 fun ev w2=>ev=.returned (.bool true)/\w.grownBy w2 none/\w2.cell? ⟨T,0,none⟩=some (.pointer (some ⟨F,0,none⟩))/\w2.cell? ⟨F,0,none⟩=some (.int .i64 (p:Nat))/\w2.cell? ⟨F,1,none⟩=some (.iface (E c).1 (E c).2)):=by
  refine CA.mono ?_;rintro e w2 ⟨rfl,hw2⟩;exact⟨rfl,post w2 hw2⟩
 have DF:Hd (∀w2,w.grownBy w2 none->w2.cell? ⟨F,1,none⟩=some (.iface (E c).1 (E c).2)->∀k,1<=k->k<=5->Calls prog 74 #[.iface 130 (.pointer (some ⟨F,0,none⟩)),.iface (E k).1 (E k).2] w2 fun e w'=>e=.returned (.bool (decide (c=k)))/\w'=w2):=fun w2 hg hc k h3 h4=>adz w2 E b (S.grow hg) F c k (by omega) h2 h3 h4 hc
 have bC:Hd (∀w2,w.grownBy w2 none->w2.cell? ⟨0,0,none⟩=some (.iface (E 1).1 (E 1).2)/\w2.cell? ⟨1,0,none⟩=some (.iface (E 3).1 (E 3).2)/\w2.cell? ⟨2,0,none⟩=some (.iface (E 4).1 (E 4).2)/\w2.cell? ⟨3,0,none⟩=some (.iface (E 5).1 (E 5).2)):=fun w2 hg=>⟨(S.grow hg).lo,hg.cell G.es.ra (by simp),hg.cell G.es.ma (by simp),hg.cell G.es.tw (by simp)⟩
 have HW1:Hd (w.alloc (.cells #[.pointer none] 130)=w1):=hw1;obtain⟨t1,ht1⟩:∃x,E 1=x:=⟨_,rfl⟩;obtain⟨t3,ht3⟩:∃x,E 3=x:=⟨_,rfl⟩;obtain⟨t4,pJ⟩:∃x,E 4=x:=⟨_,rfl⟩;obtain⟨t5,wF⟩:∃x,E 5=x:=⟨_,rfl⟩;have jk:Hd (∀w2,w.grownBy w2 none->w2.cell? ⟨F,1,none⟩=some (.iface (E c).1 (E c).2)->Calls prog 74 #[.iface 130 (.pointer (some ⟨F,0,none⟩)),.iface t1.1 t1.2] w2 fun e w'=>e=.returned (.bool (decide (c=1)))/\w'=w2):=fun w2 a d=>by
  have:=DF.o w2 a d 1 (by omega) (by omega);rw[ht1]at this;exact this
 have zF:Hd (∀w2,w.grownBy w2 none->w2.cell? ⟨F,1,none⟩=some (.iface (E c).1 (E c).2)->Calls prog 74 #[.iface 130 (.pointer (some ⟨F,0,none⟩)),.iface t3.1 t3.2] w2 fun e w'=>e=.returned (.bool (decide (c=3)))/\w'=w2):=fun w2 a d=>by
  have:=DF.o w2 a d 3 (by omega) (by omega);rw[ht3]at this;exact this
 have DI:Hd (∀w2,w.grownBy w2 none->w2.cell? ⟨F,1,none⟩=some (.iface (E c).1 (E c).2)->Calls prog 74 #[.iface 130 (.pointer (some ⟨F,0,none⟩)),.iface t4.1 t4.2] w2 fun e w'=>e=.returned (.bool (decide (c=4)))/\w'=w2):=fun w2 a d=>by
  have:=DF.o w2 a d 4 (by omega) (by omega);rw[pJ]at this;exact this
 have H8:Hd (∀w2,w.grownBy w2 none->w2.cell? ⟨F,1,none⟩=some (.iface (E c).1 (E c).2)->Calls prog 74 #[.iface 130 (.pointer (some ⟨F,0,none⟩)),.iface t5.1 t5.2] w2 fun e w'=>e=.returned (.bool (decide (c=5)))/\w'=w2):=fun w2 a d=>by
  have:=DF.o w2 a d 5 (by omega) (by omega);rw[wF]at this;exact this
 rw[ht1,ht3,pJ,wF]at bC;have lH:Hd (w.heap.size=T):=hTe;have HC:Hd (1<=c/\c<=5):=⟨h1,h2⟩;obtain⟨v,hv⟩:∃v:Value,Value.iface (E c).1 (E c).2=v:=⟨_,rfl⟩;rw[hv]at jk zF DI H8 kP;clear hw1 uH hT S1 S G hTe CA post DF ht1 ht3 pJ wF hF nP h1 h2 hv;obtain⟨b1,hb1⟩:∃x,decide (c=1)=x:=⟨_,rfl⟩;obtain⟨b3,hb3⟩:∃x,decide (c=3)=x:=⟨_,rfl⟩;obtain⟨b4,hb4⟩:∃x,decide (c=4)=x:=⟨_,rfl⟩;obtain⟨b5,hb5⟩:∃x,decide (c=5)=x:=⟨_,rfl⟩;have HB:Hd (decide (c=1)=b1/\decide (c=3)=b3/\decide (c=4)=b4/\decide (c=5)=b5):=⟨hb1,hb3,hb4,hb5⟩;rw[hb1]at jk;rw[hb3]at zF;rw[hb4]at DI;rw[hb5]at H8;clear hb1 hb3 hb4 hb5;rw[<-lH.o,<-HW1.o]at kP
 cases b1 with
 | true =>
  go_enter func48,ntmps48;go_wp2_with (go_at_call 73;refine kP.o.mono ?_);rintro e w2 ⟨rfl,hg2,v1,v2,v3⟩;obtain⟨y1,y3,y4,y5⟩:=bC.o w2 hg2;have HG2:Hd (w.grownBy w2 none):=hg2;have iT:Hd (w2.cell? ⟨F,1,none⟩=some v):=v3;clear hg2 v3 lH HW1 kP;obtain⟨T2,hT2⟩:∃x,w.heap.size=x:=⟨_,rfl⟩;rw[hT2]at v1 ⊢;clear hT2;go_wp2_with (go_at_call 74;refine(jk.o _ HG2.o iT.o).mono ?_)
  first|rintro e w' rfl rfl|rintro e w' ⟨rfl,rfl⟩
  go_wp2;refine bodyPost_ret (results_tmp2 (t:=2) (u:=3) rfl _ _ _) rfl ?_;have e:c=1:=by
   have q1:=HB.o;have q2:=HC.o;simp at q1;omega
  rw[e];exact⟨rfl,HG2.o⟩
 | false =>
  cases b3 with
  | true =>
   go_enter func48,ntmps48;go_wp2_with (go_at_call 73;refine kP.o.mono ?_);rintro e w2 ⟨rfl,hg2,v1,v2,v3⟩;obtain⟨y1,y3,y4,y5⟩:=bC.o w2 hg2;have HG2:Hd (w.grownBy w2 none):=hg2;have iT:Hd (w2.cell? ⟨F,1,none⟩=some v):=v3;clear hg2 v3 lH HW1 kP;obtain⟨T2,hT2⟩:∃x,w.heap.size=x:=⟨_,rfl⟩;rw[hT2]at v1 ⊢;clear hT2;go_wp2_with (go_at_call 74;refine(jk.o _ HG2.o iT.o).mono ?_)
   first|rintro e w' rfl rfl|rintro e w' ⟨rfl,rfl⟩
   go_wp2_with (go_at_call 74;refine(zF.o _ HG2.o iT.o).mono ?_)
   first|rintro e w' rfl rfl|rintro e w' ⟨rfl,rfl⟩
   go_wp2;refine bodyPost_ret (results_tmp2 (t:=2) (u:=3) rfl _ _ _) rfl ?_;have e:c=3:=by
    have q1:=HB.o;have q2:=HC.o;simp at q1;omega
   rw[e];exact⟨rfl,HG2.o⟩
  | false =>
   cases b4 with
   | true =>
    go_enter func48,ntmps48;go_wp2_with (go_at_call 73;refine kP.o.mono ?_);rintro e w2 ⟨rfl,hg2,v1,v2,v3⟩;obtain⟨y1,y3,y4,y5⟩:=bC.o w2 hg2;have HG2:Hd (w.grownBy w2 none):=hg2;have iT:Hd (w2.cell? ⟨F,1,none⟩=some v):=v3;clear hg2 v3 lH HW1 kP;obtain⟨T2,hT2⟩:∃x,w.heap.size=x:=⟨_,rfl⟩;rw[hT2]at v1 ⊢;clear hT2;go_wp2_with (go_at_call 74;refine(jk.o _ HG2.o iT.o).mono ?_)
    first|rintro e w' rfl rfl|rintro e w' ⟨rfl,rfl⟩
    go_wp2_with (go_at_call 74;refine(zF.o _ HG2.o iT.o).mono ?_)
    first|rintro e w' rfl rfl|rintro e w' ⟨rfl,rfl⟩
    go_wp2_with (go_at_call 74;refine(DI.o _ HG2.o iT.o).mono ?_)
    first|rintro e w' rfl rfl|rintro e w' ⟨rfl,rfl⟩
    go_wp2;refine bodyPost_ret (results_tmp2 (t:=2) (u:=3) rfl _ _ _) rfl ?_;have e:c=4:=by
     have q1:=HB.o;have q2:=HC.o;simp at q1;omega
    rw[e];exact⟨rfl,HG2.o⟩
   | false =>
    cases b5 with
    | true =>
     go_enter func48,ntmps48;go_wp2_with (go_at_call 73;refine kP.o.mono ?_);rintro e w2 ⟨rfl,hg2,v1,v2,v3⟩;obtain⟨y1,y3,y4,y5⟩:=bC.o w2 hg2;have HG2:Hd (w.grownBy w2 none):=hg2;have iT:Hd (w2.cell? ⟨F,1,none⟩=some v):=v3;clear hg2 v3 lH HW1 kP;obtain⟨T2,hT2⟩:∃x,w.heap.size=x:=⟨_,rfl⟩;rw[hT2]at v1 ⊢;clear hT2;go_wp2_with (go_at_call 74;refine(jk.o _ HG2.o iT.o).mono ?_)
     first|rintro e w' rfl rfl|rintro e w' ⟨rfl,rfl⟩
     go_wp2_with (go_at_call 74;refine(zF.o _ HG2.o iT.o).mono ?_)
     first|rintro e w' rfl rfl|rintro e w' ⟨rfl,rfl⟩
     go_wp2_with (go_at_call 74;refine(DI.o _ HG2.o iT.o).mono ?_)
     first|rintro e w' rfl rfl|rintro e w' ⟨rfl,rfl⟩
     go_wp2_with (go_at_call 74;refine(H8.o _ HG2.o iT.o).mono ?_)
     first|rintro e w' rfl rfl|rintro e w' ⟨rfl,rfl⟩
     go_wp2;refine bodyPost_ret (results_tmp2 (t:=2) (u:=3) rfl _ _ _) rfl ?_;have e:c=5:=by
      have q1:=HB.o;have q2:=HC.o;simp at q1;omega
     rw[e];exact⟨rfl,HG2.o⟩
    | false =>
     go_enter func48,ntmps48;go_wp2_with (go_at_call 73;refine kP.o.mono ?_);rintro e w2 ⟨rfl,hg2,v1,v2,v3⟩;obtain⟨y1,y3,y4,y5⟩:=bC.o w2 hg2;have HG2:Hd (w.grownBy w2 none):=hg2;have iT:Hd (w2.cell? ⟨F,1,none⟩=some v):=v3;clear hg2 v3 lH HW1 kP;obtain⟨T2,hT2⟩:∃x,w.heap.size=x:=⟨_,rfl⟩;rw[hT2]at v1 ⊢;clear hT2;go_wp2_with (go_at_call 74;refine(jk.o _ HG2.o iT.o).mono ?_)
     first|rintro e w' rfl rfl|rintro e w' ⟨rfl,rfl⟩
     go_wp2_with (go_at_call 74;refine(zF.o _ HG2.o iT.o).mono ?_)
     first|rintro e w' rfl rfl|rintro e w' ⟨rfl,rfl⟩
     go_wp2_with (go_at_call 74;refine(DI.o _ HG2.o iT.o).mono ?_)
     first|rintro e w' rfl rfl|rintro e w' ⟨rfl,rfl⟩
     go_wp2_with (go_at_call 74;refine(H8.o _ HG2.o iT.o).mono ?_)
     first|rintro e w' rfl rfl|rintro e w' ⟨rfl,rfl⟩
     go_wp2;refine bodyPost_ret (results_tmp2 (t:=2) (u:=3) rfl _ _ _) rfl ?_;have e:c=2:=by
      have q1:=HB.o;have q2:=HC.o;simp at q1;omega
     rw[e];exact⟨rfl,HG2.o⟩
end Go.Proofs.YtnnbgjaphfhibaaGreatDoor
