import Derived.Test.YtbgnflcebafjjaaGreatDoorP41
import Derived.Test.YtbgnflcebafjjaaGreatDoorP20
import Derived.Test.YtbgnflcebafjjaaGreatDoorP19
import Derived.Test.YtbgnflcebafjjaaGreatDoorP15
import Derived.Test.YtbgnflcebafjjaaGreatDoorP36
namespace Go.Proofs.YtbgnflcebafjjaaGreatDoor
open Go.RowKit Go.Maps Go.WideMaps Go.Joins
set_option linter.unusedVariables false
structure Sn (w:World) (E:Int->TypeId × Value) (b:Int->Addr):Prop where
 ptr:∀k,1<=k->k<=5->E k=(235,.pointer (some (b k)))
 blk:∀k,1<=k->k<=5->∃cs t,w.heap[(b k).block]?=some (.cells cs t (0,0))
 ne:∀k m,1<=k->k<=5->1<=m->m<=5->b k=b m->k=m
 ty:w.cell? ⟨4,0,none⟩=some (.iface 139 (.agg #[.pointer (some ⟨14,43,none⟩)]))
 lo:w.cell? ⟨0,0,none⟩=some (.iface (E 1).1 (E 1).2)
theorem Sn.grow {w w':World} {E:Int->TypeId × Value} {b:Int->Addr} (h:Sn w E b) (hg:w.grownBy w' none):Sn w' E b :=
 ⟨h.ptr,fun k h1 h2=>by
  obtain ⟨cs,t,hb⟩:=h.blk k h1 h2
  exact ⟨cs,t,(hg.block _ (blk_lt hb) (by simp)).trans hb⟩,h.ne,hg.cell h.ty (by simp),hg.cell h.lo (by simp)⟩
theorem is_fault (w:World) (E:Int->TypeId × Value) (b:Int->Addr) (h:Sn w E b) (F:Nat) (c k:Int) (h1:1<=c) (h2:c<=5) (h3:1<=k) (h4:k<=5) (hF:w.cell? ⟨F,1,none⟩=some (.iface (E c).1 (E c).2)) :
  Calls Tryz.prog 25 #[.iface 65 (.pointer (some ⟨F,0,none⟩)),.iface (E k).1 (E k).2] w fun e w'=>e=.returned (.bool (decide (c=k)))/\w'=w:=by
 have ec:=h.ptr c h1 h2
 have ek:=h.ptr k h3 h4
 rw [ec] at hF
 rw [ek]
 by_cases hck:c=k
 ·subst hck
  rw [decide_eq_true rfl]
  exact is_fault_same F (b c) w hF
 ·rw [decide_eq_false hck]
  obtain ⟨ca,ta,ha⟩:=h.blk c h1 h2
  obtain ⟨cb,tb,hb⟩:=h.blk k h3 h4
  exact is_fault_other F (b k) (b c) ca cb ta tb w hF (fun e=>hck (h.ne c k h1 h2 h3 h4 e)) ha hb
set_option maxRecDepth 100000 in
set_option maxHeartbeats 3200000 in
theorem tTold_fault (E:Int->TypeId × Value) (b:Int->Addr) (w:World) (F:Nat) (c:Int) (p:Nat) (G:Gl w w.heap.size E) (S:Sn w E b) (h1:1<=c) (h2:c<=5) (hF:w.heap[F]?=some (.cells #[.int .i64 (p:Nat),.iface (E c).1 (E c).2] 69 (0,0))) :
  Calls Tryz.prog 16 #[.iface 65 (.pointer (some ⟨F,0,none⟩))] w fun e w'=>e=.returned (.tuple #[.int .i64 c,.int .i64 (p:Nat)])/\w.grownBy w' none:=by
 -- the variable's block
 have hgT:w.grownBy (w.alloc (.cells #[.pointer none] 65)) none:=World.grownBy_alloc _ _ none
 obtain ⟨w1,hw1⟩:∃W,w.alloc (.cells #[.pointer none] 65)=W:=⟨_,rfl⟩
 have hT:w1.heap[w.heap.size]?=some (.cells #[.pointer none] 65 (0,0)):=by rw [<-hw1];exact heap_alloc_new w _
 rw [hw1] at hgT
 have S1:=S.grow hgT
 obtain ⟨T,hTe⟩:∃T,w.heap.size=T:=⟨_,rfl⟩
 rw [hTe] at hT
 have CA:=as_hit ⟨F,0,none⟩ ⟨T,0,none⟩ (.pointer none) w1 S1.ty (by rw [Lib.cell_of_heap hT];rfl) (Lib.frozen_of_heap hT 0)
 -- the world behind errors.As
 have HFT:¬ F=T:=fun e=>by have:=blk_lt hF;omega
 have post:∀w2:World,w2=((((w1.alloc (.cells #[.pointer (some ⟨T,0,none⟩)] 67)).alloc (.cells #[.pointer (some ⟨14,67,none⟩),.pointer (some ⟨w1.heap.size,0,none⟩),.int .u64 150] 96)).alloc (.cells #[.pointer (some ⟨14,67,none⟩),.pointer (some ⟨w1.heap.size,0,none⟩),.int .u64 150] 96)).alloc (.cells #[.pointer (some ⟨F,0,none⟩)] 65)).setCell ⟨T,0,none⟩ (.pointer (some ⟨F,0,none⟩))->w.grownBy w2 none/\w2.cell? ⟨T,0,none⟩=some (.pointer (some ⟨F,0,none⟩))/\w2.cell? ⟨F,0,none⟩=some (.int .i64 (p:Nat))/\w2.cell? ⟨F,1,none⟩=some (.iface (E c).1 (E c).2):=fun w2 e=>by
  obtain ⟨wx,hwx⟩:∃W,(((w1.alloc (.cells #[.pointer (some ⟨T,0,none⟩)] 67)).alloc (.cells #[.pointer (some ⟨14,67,none⟩),.pointer (some ⟨w1.heap.size,0,none⟩),.int .u64 150] 96)).alloc (.cells #[.pointer (some ⟨14,67,none⟩),.pointer (some ⟨w1.heap.size,0,none⟩),.int .u64 150] 96)).alloc (.cells #[.pointer (some ⟨F,0,none⟩)] 65)=W:=⟨_,rfl⟩
  have g1:w1.grownBy wx none:=by
   rw [<-hwx]
   exact gb_trans (gb_trans (gb_trans (World.grownBy_alloc _ _ none) (World.grownBy_alloc _ _ none)) (World.grownBy_alloc _ _ none)) (World.grownBy_alloc _ _ none)
  rw [hwx] at e
  have hTx:wx.heap[T]?=some (.cells #[.pointer none] 65 (0,0)):=(g1.block T (blk_lt hT) (by simp)).trans hT
  have hset:=block_setCell (i:=0) hTx (.pointer (some ⟨F,0,none⟩))
  rw [<-e] at hset
  have hF2:w2.heap[F]?=some (.cells #[.int .i64 (p:Nat),.iface (E c).1 (E c).2] 69 (0,0)):=by
   have e1:=(hgT.block F (blk_lt hF) (by simp)).trans hF
   have e2:=(g1.block F (blk_lt e1) (by simp)).trans e1
   rw [e]
   exact (heap_setCell_other _ _ _ _ HFT).trans e2
  refine ⟨?_,by rw [Lib.cell_of_heap hset];rfl,by rw [Lib.cell_of_heap hF2];rfl,by rw [Lib.cell_of_heap hF2];rfl⟩
  have g2:w.grownBy wx none:=gb_trans hgT g1
  rw [e]
  refine ⟨g2.os,g2.tape,g2.output,by simpa [World.setCell] using g2.size,fun k hk hn=>?_⟩
  rw [heap_setCell_other wx _ k _ (by simp;omega)]
  exact g2.block k hk hn
 have HCA:Hid (Calls Tryz.prog 24 #[.iface 65 (.pointer (some ⟨F,0,none⟩)),.iface 67 (.pointer (some ⟨T,0,none⟩))] w1 fun ev w2=>ev=.returned (.bool true)/\w.grownBy w2 none/\w2.cell? ⟨T,0,none⟩=some (.pointer (some ⟨F,0,none⟩))/\w2.cell? ⟨F,0,none⟩=some (.int .i64 (p:Nat))/\w2.cell? ⟨F,1,none⟩=some (.iface (E c).1 (E c).2)):=by
  refine CA.mono ?_
  rintro e w2 ⟨rfl,hw2⟩
  exact ⟨rfl,post w2 hw2⟩
 have CIs:Hid (∀w2,w.grownBy w2 none->w2.cell? ⟨F,1,none⟩=some (.iface (E c).1 (E c).2)->∀k,1<=k->k<=5->Calls Tryz.prog 25 #[.iface 65 (.pointer (some ⟨F,0,none⟩)),.iface (E k).1 (E k).2] w2 fun e w'=>e=.returned (.bool (decide (c=k)))/\w'=w2):=fun w2 hg hc k h3 h4=>is_fault w2 E b (S.grow hg) F c k (by omega) h2 h3 h4 hc
 have HGC:Hid (∀w2,w.grownBy w2 none->w2.cell? ⟨0,0,none⟩=some (.iface (E 1).1 (E 1).2)/\w2.cell? ⟨1,0,none⟩=some (.iface (E 3).1 (E 3).2)/\w2.cell? ⟨2,0,none⟩=some (.iface (E 4).1 (E 4).2)/\w2.cell? ⟨3,0,none⟩=some (.iface (E 5).1 (E 5).2)):=fun w2 hg=>⟨(S.grow hg).lo,hg.cell G.es.ra (by simp),hg.cell G.es.ma (by simp),hg.cell G.es.tw (by simp)⟩
 have HW1:Hid (w.alloc (.cells #[.pointer none] 65)=w1):=hw1
 obtain ⟨t1,ht1⟩:∃x,E 1=x:=⟨_,rfl⟩
 obtain ⟨t3,ht3⟩:∃x,E 3=x:=⟨_,rfl⟩
 obtain ⟨t4,ht4⟩:∃x,E 4=x:=⟨_,rfl⟩
 obtain ⟨t5,ht5⟩:∃x,E 5=x:=⟨_,rfl⟩
 have CI1:Hid (∀w2,w.grownBy w2 none->w2.cell? ⟨F,1,none⟩=some (.iface (E c).1 (E c).2)->Calls Tryz.prog 25 #[.iface 65 (.pointer (some ⟨F,0,none⟩)),.iface t1.1 t1.2] w2 fun e w'=>e=.returned (.bool (decide (c=1)))/\w'=w2):=fun w2 a d=>by
  have:=CIs.out w2 a d 1 (by omega) (by omega)
  rw [ht1] at this
  exact this
 have CI3:Hid (∀w2,w.grownBy w2 none->w2.cell? ⟨F,1,none⟩=some (.iface (E c).1 (E c).2)->Calls Tryz.prog 25 #[.iface 65 (.pointer (some ⟨F,0,none⟩)),.iface t3.1 t3.2] w2 fun e w'=>e=.returned (.bool (decide (c=3)))/\w'=w2):=fun w2 a d=>by
  have:=CIs.out w2 a d 3 (by omega) (by omega)
  rw [ht3] at this
  exact this
 have CI4:Hid (∀w2,w.grownBy w2 none->w2.cell? ⟨F,1,none⟩=some (.iface (E c).1 (E c).2)->Calls Tryz.prog 25 #[.iface 65 (.pointer (some ⟨F,0,none⟩)),.iface t4.1 t4.2] w2 fun e w'=>e=.returned (.bool (decide (c=4)))/\w'=w2):=fun w2 a d=>by
  have:=CIs.out w2 a d 4 (by omega) (by omega)
  rw [ht4] at this
  exact this
 have CI5:Hid (∀w2,w.grownBy w2 none->w2.cell? ⟨F,1,none⟩=some (.iface (E c).1 (E c).2)->Calls Tryz.prog 25 #[.iface 65 (.pointer (some ⟨F,0,none⟩)),.iface t5.1 t5.2] w2 fun e w'=>e=.returned (.bool (decide (c=5)))/\w'=w2):=fun w2 a d=>by
  have:=CIs.out w2 a d 5 (by omega) (by omega)
  rw [ht5] at this
  exact this
 rw [ht1,ht3,ht4,ht5] at HGC
 have HTE:Hid (w.heap.size=T):=hTe
 have HC:Hid (1<=c/\c<=5):=⟨h1,h2⟩
 obtain ⟨v,hv⟩:∃v:Value,Value.iface (E c).1 (E c).2=v:=⟨_,rfl⟩
 rw [hv] at CI1 CI3 CI4 CI5 HCA
 clear hw1 hgT hT S1 S G hTe CA post CIs ht1 ht3 ht4 ht5 hF HFT h1 h2 hv
 obtain ⟨b1,hb1⟩:∃x,decide (c=1)=x:=⟨_,rfl⟩
 obtain ⟨b3,hb3⟩:∃x,decide (c=3)=x:=⟨_,rfl⟩
 obtain ⟨b4,hb4⟩:∃x,decide (c=4)=x:=⟨_,rfl⟩
 obtain ⟨b5,hb5⟩:∃x,decide (c=5)=x:=⟨_,rfl⟩
 have HB:Hid (decide (c=1)=b1/\decide (c=3)=b3/\decide (c=4)=b4/\decide (c=5)=b5):=⟨hb1,hb3,hb4,hb5⟩
 rw [hb1] at CI1
 rw [hb3] at CI3
 rw [hb4] at CI4
 rw [hb5] at CI5
 clear hb1 hb3 hb4 hb5
 rw [<-HTE.out,<-HW1.out] at HCA
 cases b1 with
 | true =>
  go_enter Tryz.func16,Tryz.ntmps16
  go_wp2_with (first | (go_at_call 24;refine HCA.out.mono ?_))
  rintro e w2 ⟨rfl,hg2,v1,v2,v3⟩
  obtain ⟨y1,y3,y4,y5⟩:=HGC.out w2 hg2
  have HG2:Hid (w.grownBy w2 none):=hg2
  have HV3:Hid (w2.cell? ⟨F,1,none⟩=some v):=v3
  clear hg2 v3 HTE HW1 HCA
  obtain ⟨T2,hT2⟩:∃x,w.heap.size=x:=⟨_,rfl⟩
  rw [hT2] at v1 ⊢
  clear hT2
  go_wp2_with (first | (go_at_call 25;refine (CI1.out _ HG2.out HV3.out).mono ?_))
  first | rintro e w' rfl rfl | rintro e w' ⟨rfl,rfl⟩
  go_wp2
  refine bodyPost_ret (results_tmp2 (t:=2) (u:=3) rfl _ _ _) rfl ?_
  have e:c=1:=by
   have q1:=HB.out
   have q2:=HC.out
   simp at q1
   omega
  rw [e]
  exact ⟨rfl,HG2.out⟩
 | false =>
  cases b3 with
  | true =>
   go_enter Tryz.func16,Tryz.ntmps16
   go_wp2_with (first | (go_at_call 24;refine HCA.out.mono ?_))
   rintro e w2 ⟨rfl,hg2,v1,v2,v3⟩
   obtain ⟨y1,y3,y4,y5⟩:=HGC.out w2 hg2
   have HG2:Hid (w.grownBy w2 none):=hg2
   have HV3:Hid (w2.cell? ⟨F,1,none⟩=some v):=v3
   clear hg2 v3 HTE HW1 HCA
   obtain ⟨T2,hT2⟩:∃x,w.heap.size=x:=⟨_,rfl⟩
   rw [hT2] at v1 ⊢
   clear hT2
   go_wp2_with (first | (go_at_call 25;refine (CI1.out _ HG2.out HV3.out).mono ?_))
   first | rintro e w' rfl rfl | rintro e w' ⟨rfl,rfl⟩
   go_wp2_with (first | (go_at_call 25;refine (CI3.out _ HG2.out HV3.out).mono ?_))
   first | rintro e w' rfl rfl | rintro e w' ⟨rfl,rfl⟩
   go_wp2
   refine bodyPost_ret (results_tmp2 (t:=2) (u:=3) rfl _ _ _) rfl ?_
   have e:c=3:=by
    have q1:=HB.out
    have q2:=HC.out
    simp at q1
    omega
   rw [e]
   exact ⟨rfl,HG2.out⟩
  | false =>
   cases b4 with
   | true =>
    go_enter Tryz.func16,Tryz.ntmps16
    go_wp2_with (first | (go_at_call 24;refine HCA.out.mono ?_))
    rintro e w2 ⟨rfl,hg2,v1,v2,v3⟩
    obtain ⟨y1,y3,y4,y5⟩:=HGC.out w2 hg2
    have HG2:Hid (w.grownBy w2 none):=hg2
    have HV3:Hid (w2.cell? ⟨F,1,none⟩=some v):=v3
    clear hg2 v3 HTE HW1 HCA
    obtain ⟨T2,hT2⟩:∃x,w.heap.size=x:=⟨_,rfl⟩
    rw [hT2] at v1 ⊢
    clear hT2
    go_wp2_with (first | (go_at_call 25;refine (CI1.out _ HG2.out HV3.out).mono ?_))
    first | rintro e w' rfl rfl | rintro e w' ⟨rfl,rfl⟩
    go_wp2_with (first | (go_at_call 25;refine (CI3.out _ HG2.out HV3.out).mono ?_))
    first | rintro e w' rfl rfl | rintro e w' ⟨rfl,rfl⟩
    go_wp2_with (first | (go_at_call 25;refine (CI4.out _ HG2.out HV3.out).mono ?_))
    first | rintro e w' rfl rfl | rintro e w' ⟨rfl,rfl⟩
    go_wp2
    refine bodyPost_ret (results_tmp2 (t:=2) (u:=3) rfl _ _ _) rfl ?_
    have e:c=4:=by
     have q1:=HB.out
     have q2:=HC.out
     simp at q1
     omega
    rw [e]
    exact ⟨rfl,HG2.out⟩
   | false =>
    cases b5 with
    | true =>
     go_enter Tryz.func16,Tryz.ntmps16
     go_wp2_with (first | (go_at_call 24;refine HCA.out.mono ?_))
     rintro e w2 ⟨rfl,hg2,v1,v2,v3⟩
     obtain ⟨y1,y3,y4,y5⟩:=HGC.out w2 hg2
     have HG2:Hid (w.grownBy w2 none):=hg2
     have HV3:Hid (w2.cell? ⟨F,1,none⟩=some v):=v3
     clear hg2 v3 HTE HW1 HCA
     obtain ⟨T2,hT2⟩:∃x,w.heap.size=x:=⟨_,rfl⟩
     rw [hT2] at v1 ⊢
     clear hT2
     go_wp2_with (first | (go_at_call 25;refine (CI1.out _ HG2.out HV3.out).mono ?_))
     first | rintro e w' rfl rfl | rintro e w' ⟨rfl,rfl⟩
     go_wp2_with (first | (go_at_call 25;refine (CI3.out _ HG2.out HV3.out).mono ?_))
     first | rintro e w' rfl rfl | rintro e w' ⟨rfl,rfl⟩
     go_wp2_with (first | (go_at_call 25;refine (CI4.out _ HG2.out HV3.out).mono ?_))
     first | rintro e w' rfl rfl | rintro e w' ⟨rfl,rfl⟩
     go_wp2_with (first | (go_at_call 25;refine (CI5.out _ HG2.out HV3.out).mono ?_))
     first | rintro e w' rfl rfl | rintro e w' ⟨rfl,rfl⟩
     go_wp2
     refine bodyPost_ret (results_tmp2 (t:=2) (u:=3) rfl _ _ _) rfl ?_
     have e:c=5:=by
      have q1:=HB.out
      have q2:=HC.out
      simp at q1
      omega
     rw [e]
     exact ⟨rfl,HG2.out⟩
    | false =>
     go_enter Tryz.func16,Tryz.ntmps16
     go_wp2_with (first | (go_at_call 24;refine HCA.out.mono ?_))
     rintro e w2 ⟨rfl,hg2,v1,v2,v3⟩
     obtain ⟨y1,y3,y4,y5⟩:=HGC.out w2 hg2
     have HG2:Hid (w.grownBy w2 none):=hg2
     have HV3:Hid (w2.cell? ⟨F,1,none⟩=some v):=v3
     clear hg2 v3 HTE HW1 HCA
     obtain ⟨T2,hT2⟩:∃x,w.heap.size=x:=⟨_,rfl⟩
     rw [hT2] at v1 ⊢
     clear hT2
     go_wp2_with (first | (go_at_call 25;refine (CI1.out _ HG2.out HV3.out).mono ?_))
     first | rintro e w' rfl rfl | rintro e w' ⟨rfl,rfl⟩
     go_wp2_with (first | (go_at_call 25;refine (CI3.out _ HG2.out HV3.out).mono ?_))
     first | rintro e w' rfl rfl | rintro e w' ⟨rfl,rfl⟩
     go_wp2_with (first | (go_at_call 25;refine (CI4.out _ HG2.out HV3.out).mono ?_))
     first | rintro e w' rfl rfl | rintro e w' ⟨rfl,rfl⟩
     go_wp2_with (first | (go_at_call 25;refine (CI5.out _ HG2.out HV3.out).mono ?_))
     first | rintro e w' rfl rfl | rintro e w' ⟨rfl,rfl⟩
     go_wp2
     refine bodyPost_ret (results_tmp2 (t:=2) (u:=3) rfl _ _ _) rfl ?_
     have e:c=2:=by
      have q1:=HB.out
      have q2:=HC.out
      simp at q1
      omega
     rw [e]
     exact ⟨rfl,HG2.out⟩
set_option linter.unusedVariables false
def ErN (c:Int × Nat):Prop:=2<=c.1/\c.1<=5
def ErR {α:Type} (r:Rs α):Prop:=∀c,r=.error c->ErN c
theorem er_ok {α:Type} (a:α):ErR (.ok a:Rs α):=fun c h=>by cases h
theorem er_2 {α:Type} (p:Nat):ErR (.error (2,p):Rs α):=fun c h=>by cases h;exact ⟨(by decide:(2:Int)<=2),(by decide:(2:Int)<=5)⟩
theorem er_3 {α:Type} (p:Nat):ErR (.error (3,p):Rs α):=fun c h=>by cases h;exact ⟨(by decide:(2:Int)<=3),(by decide:(3:Int)<=5)⟩
theorem er_4 {α:Type} (p:Nat):ErR (.error (4,p):Rs α):=fun c h=>by cases h;exact ⟨(by decide:(2:Int)<=4),(by decide:(4:Int)<=5)⟩
theorem er_5 {α:Type} (p:Nat):ErR (.error (5,p):Rs α):=fun c h=>by cases h;exact ⟨(by decide:(2:Int)<=5),(by decide:(5:Int)<=5)⟩
theorem er_of {α β:Type} {r:Rs α} (h:ErR r) {c:Int × Nat} (hc:r=.error c):ErR (.error c:Rs β):=fun c' h'=>by cases h';exact h c hc
theorem er_four (l:List UInt8):∀(k i n:Nat),ErR (four l k i n)
 | 0,i,n=>er_ok _
 | k+1,i,n=>by
  rw [four_step]
  split
  ·exact er_2 _
  ·exact er_four l k _ _
theorem er_esc (l:List UInt8) (i:Nat):ErR (esc l i):=by
 unfold esc
 split
 ·cases h:four l 4 (i+2) 0 with
  | error e=>exact er_of (er_four l 4 (i+2) 0) h
  | ok q =>
   obtain ⟨n,j⟩:=q
   simp only []
   split
   ·exact er_2 _
   ·exact er_ok _
 ·repeat' split
  all_goals first | exact er_ok _ | exact er_2 _
theorem er_str (l:List UInt8):∀(f i:Nat) (acc:List UInt8),ErR (str l f i acc)
 | 0,i,acc=>er_2 _
 | f+1,i,acc=>by
  rw [str_step]
  split
  ·exact er_ok _
  ·split
   ·cases h:esc l i with
    | error e=>exact er_of (er_esc l i) h
    | ok q =>
     obtain ⟨b,j⟩:=q
     exact er_str l f j _
   ·split
    ·exact er_2 _
    ·split
     ·exact er_2 _
     ·exact er_str l f _ _
theorem er_key (l:List UInt8) (i:Nat):ErR (rdKey l i):=by
 unfold rdKey
 split
 ·exact er_str _ _ _ _
 ·split
  ·exact er_2 _
  ·exact er_ok _
theorem er_int (l:List UInt8) (i:Nat):ErR (rdInt l i):=by
 unfold rdInt
 simp only []
 generalize (if isDg (nx l i)=true then i else i+1)=a
 split
 ·exact er_2 _
 ·split
  ·exact er_3 _
  ·exact er_ok _
theorem er_tru (l:List UInt8) (i:Nat):ErR (rdTru l i):=by
 unfold rdTru
 simp only []
 split
 ·exact er_ok _
 ·split
  ·exact er_ok _
  ·exact er_2 _
theorem er_gap (l:List UInt8):∀(f i:Nat),ErR (gap l f i)
 | 0,i=>er_2 _
 | f+1,i=>by
  rw [gap_step]
  split
  ·exact er_2 _
  ·split
   ·exact er_gap l f _
   ·exact er_ok _
theorem er_must (l:List UInt8) (i:Nat) (c:Int):ErR (must l i c):=by
 unfold must
 split
 ·exact er_ok _
 ·exact er_2 _
theorem er_vl (l:List UInt8):∀f:Nat,(∀i up k p d ns,ErR (val l f i up k p d ns))/\(∀i up d ns,ErR (lst l f i up d ns)):=by
 intro f
 induction f with
 | zero =>
  refine ⟨fun i up k p d ns=>?_,fun i up d ns=>?_⟩
  ·rw [val];exact er_2 _
  ·rw [lst];exact er_2 _
 | succ f ih =>
  refine ⟨fun i up k p d ns=>?_,fun i up d ns=>?_⟩
  ·rw [val_step]
   split
   ·cases h:str l (l.length+1) (i+1) [] with
    | error e=>exact er_of (er_str _ _ _ _) h
    | ok q=>exact er_ok _
   ·split
    ·cases h:rdInt l i with
     | error e=>exact er_of (er_int _ _) h
     | ok q=>exact er_ok _
    ·split
     ·cases h:rdTru l i with
      | error e=>exact er_of (er_tru _ _) h
      | ok q=>exact er_ok _
     ·split
      ·split
       ·exact er_4 _
       ·exact ih.2 _ _ _ _
      ·exact er_2 _
  ·rw [lst_step]
   cases h:gap l (l.length+1) i with
   | error e=>exact er_of (er_gap _ _ _) h
   | ok j =>
    simp only []
    split
    ·exact er_ok _
    ·cases h2:val l f j up [] j d ns with
     | error e=>exact er_of (ih.1 _ _ _ _ _ _) h2
     | ok q =>
      obtain ⟨j1,ns1⟩:=q
      simp only []
      cases h3:gap l (l.length+1) j1 with
      | error e=>exact er_of (er_gap _ _ _) h3
      | ok j2 =>
       simp only []
       split
       ·exact ih.2 _ _ _ _
       ·split
        ·exact er_ok _
        ·exact er_2 _
theorem er_stp (ns:List Tn) (t:Nat) (k:List UInt8) (p:Nat):ErR (stp ns t k p):=by
 unfold stp
 cases kidO ns t k with
 | none=>exact er_ok _
 | some q =>
  simp only []
  split
  ·exact er_ok _
  ·split
   ·cases ns[q]? with
    | none=>exact er_5 _
    | some u=>exact er_ok _
   ·exact er_5 _
theorem er_endT (ns:List Tn) (own:List Nat) (t:Nat) (k:List UInt8) (p:Nat):ErR (endT ns own t k p):=by
 unfold endT
 cases kidO ns t k with
 | none=>exact er_ok _
 | some q =>
  simp only []
  split
  ·exact er_ok _
  ·exact er_5 _
theorem er_endL (ns:List Tn) (t:Nat) (k:List UInt8) (p:Nat):ErR (endL ns t k p):=by
 unfold endL
 cases kidO ns t k with
 | none=>exact er_ok _
 | some q =>
  simp only []
  split
  ·exact er_ok _
  ·exact er_5 _
theorem er_way (many:Bool) (own:List Nat):∀(ks:List (List UInt8 × Nat)) (t:Nat) (ns:List Tn),ErR (way many own ks t ns)
 | [],t,ns=>er_ok _
 | [(k,p)],t,ns=>by
  show ErR (if many=true then endL ns t k p else endT ns own t k p)
  split
  ·exact er_endL _ _ _ _
  ·exact er_endT _ _ _ _ _
 | (k,p) :: x :: r,t,ns=>by
  show ErR (match stp ns t k p with | .error e=>.error e | .ok (t1,ns1)=>way many own (x :: r) t1 ns1)
  cases h:stp ns t k p with
  | error e=>exact er_of (er_stp _ _ _ _) h
  | ok q =>
   obtain ⟨t1,ns1⟩:=q
   exact er_way many own (x :: r) t1 ns1
theorem er_hdK (l:List UInt8):∀(f i:Nat) (acc:List (List UInt8 × Nat)),ErR (hdK l f i acc)
 | 0,i,acc=>er_2 _
 | f+1,i,acc=>by
  show ErR (match rdKey l (bl l i) with | .error e=>.error e | .ok (k,j)=>if nx l (bl l j)=46 then hdK l f (bl l j+1) (acc++[(k,bl l i)]) else .ok (acc++[(k,bl l i)],bl l j))
  cases h:rdKey l (bl l i) with
  | error e=>exact er_of (er_key _ _) h
  | ok q =>
   obtain ⟨k,j⟩:=q
   simp only []
   split
   ·exact er_hdK l f _ _
   ·exact er_ok _
theorem er_head (l:List UInt8) (d:Sd):ErR (rdHead l d):=by
 unfold rdHead
 simp only []
 generalize (if decide (nx l (d.i+1)=91)=true then d.i+2 else d.i+1)=a
 cases h:hdK l (l.length+1) a [] with
 | error e=>exact er_of (er_hdK _ _ _ _) h
 | ok q =>
  obtain ⟨ks,j⟩:=q
  simp only []
  cases h2:must l j 93 with
  | error e=>exact er_of (er_must _ _ _) h2
  | ok j1 =>
   simp only []
   have h3':ErR (if decide (nx l (d.i+1)=91)=true then must l j1 93 else .ok j1):=by
    split
    ·exact er_must _ _ _
    ·exact er_ok _
   cases h3:(if decide (nx l (d.i+1)=91)=true then must l j1 93 else .ok j1) with
   | error e=>exact er_of h3' h3
   | ok j2 =>
    simp only []
    cases h4:way (decide (nx l (d.i+1)=91)) d.own ks 0 d.ns with
    | error e=>exact er_of (er_way _ _ _ _ _) h4
    | ok q=>exact er_ok _
theorem er_pair (l:List UInt8) (d:Sd):ErR (rdPair l d):=by
 unfold rdPair
 cases h:rdKey l d.i with
 | error e=>exact er_of (er_key _ _) h
 | ok q =>
  obtain ⟨k,j⟩:=q
  simp only []
  cases h2:must l (bl l j) 61 with
  | error e=>exact er_of (er_must _ _ _) h2
  | ok j1 =>
   simp only []
   cases kidO d.ns d.now k with
   | some q=>exact er_5 _
   | none =>
    simp only []
    cases h4:val l (2 * l.length+2) (bl l j1) d.now k d.i 0 d.ns with
    | error e=>exact er_of ((er_vl l _).1 _ _ _ _ _ _) h4
    | ok q=>exact er_ok _
theorem er_line (l:List UInt8) (d:Sd):ErR (rdLine l d):=by
 unfold rdLine
 simp only []
 have hX:ErR (if nx l (bl l d.i)=91 then rdHead l ⟨bl l d.i,d.ns,d.own,d.now⟩ else if nx l (bl l d.i)=34\/isBa (nx l (bl l d.i))=true then rdPair l ⟨bl l d.i,d.ns,d.own,d.now⟩ else .ok ⟨bl l d.i,d.ns,d.own,d.now⟩):=by
  split
  ·exact er_head _ _
  ·split
   ·exact er_pair _ _
   ·exact er_ok _
 generalize (if nx l (bl l d.i)=91 then rdHead l ⟨bl l d.i,d.ns,d.own,d.now⟩ else if nx l (bl l d.i)=34\/isBa (nx l (bl l d.i))=true then rdPair l ⟨bl l d.i,d.ns,d.own,d.now⟩ else .ok ⟨bl l d.i,d.ns,d.own,d.now⟩:Rs Sd)=X at hX ⊢
 cases X with
 | error e=>exact er_of hX rfl
 | ok d1 =>
  simp only []
  split
  ·exact er_2 _
  ·split
   ·exact er_ok _
   ·cases h:must l (cmt l (bl l d1.i)).2 10 with
    | error e=>exact er_of (er_must _ _ _) h
    | ok j=>exact er_ok _
theorem er_all (l:List UInt8):∀(f:Nat) (d:Sd),ErR (rdAll l f d)
 | 0,d=>er_ok _
 | f+1,d=>by
  show ErR (if l.length<=d.i then .ok d else match rdLine l d with | .error e=>.error e | .ok s1=>rdAll l f s1)
  split
  ·exact er_ok _
  ·cases h:rdLine l d with
   | error e=>exact er_of (er_line _ _) h
   | ok d1=>exact er_all l f d1
theorem er_toml (l:List UInt8) (c:Int) (p:Nat) (h:rdToml l=.error (c,p)):(c=1/\p=0)\/(2<=c/\c<=5):=by
 unfold rdToml at h
 split at h
 ·cases h;exact Or.inl ⟨rfl,rfl⟩
 ·right
  cases hr:rdAll l (l.length+1) ⟨0,[⟨0,[],[],0,[],0⟩],[],0⟩ with
  | error e =>
   rw [hr] at h
   cases h
   exact er_all l _ _ _ hr
  | ok d=>rw [hr] at h;cases h
end Go.Proofs.YtbgnflcebafjjaaGreatDoor
namespace Go.Proofs.YtbgnflcebafjjaaGreatDoor
open Go.RowKit Go.Maps Go.WideMaps Go.Joins
set_option linter.unusedVariables false
set_option maxRecDepth 100000 in
set_option maxHeartbeats 3200000 in
theorem tTold_long (E:Int->TypeId × Value) (b:Int->Addr) (w:World) (S:Sn w E b) :
  Calls Tryz.prog 16 #[.iface (E 1).1 (E 1).2] w fun e w'=>e=.returned (.tuple #[.int .i64 1,.int .i64 0])/\w.grownBy w' none:=by
 have hgT:w.grownBy (w.alloc (.cells #[.pointer none] 65)) none:=World.grownBy_alloc _ _ none
 have hT:=heap_alloc_new w (.cells #[.pointer none] 65)
 have e1:=S.ptr 1 (by decide) (by decide)
 have hlo:=S.lo
 rw [e1] at hlo ⊢
 have CA:Hid (Calls Tryz.prog 24 #[.iface 235 (.pointer (some (b 1))),.iface 67 (.pointer (some ⟨w.heap.size,0,none⟩))] (w.alloc (.cells #[.pointer none] 65)) fun ev w2=>ev=.returned (.bool false)/\w.grownBy w2 none/\w2.cell? ⟨0,0,none⟩=some (.iface 235 (.pointer (some (b 1))))):=by
  refine (as_miss (b 1) ⟨w.heap.size,0,none⟩ (.pointer none) _ (S.grow hgT).ty (by rw [Lib.cell_of_heap hT];rfl) (Lib.frozen_of_heap hT 0)).mono ?_
  rintro e w2 ⟨rfl,hg⟩
  have g2:=gb_trans hgT hg
  exact ⟨rfl,g2,g2.cell hlo (by simp)⟩
 have CI:Hid (∀w,Calls Tryz.prog 25 #[.iface 235 (.pointer (some (b 1))),.iface 235 (.pointer (some (b 1)))] w fun e w'=>e=.returned (.bool true)/\w'=w):=is_same (b 1)
 obtain ⟨x,hx⟩:∃x,b 1=x:=⟨_,rfl⟩
 rw [hx] at CA CI ⊢
 clear hgT hT e1 S hlo hx
 go_enter Tryz.func16,Tryz.ntmps16
 go_wp2_with (first | (go_at_call 24;refine CA.out.mono ?_))
 rintro e w2 ⟨rfl,hg2,y1⟩
 have HG2:Hid (w.grownBy w2 none):=hg2
 clear hg2 CA
 go_wp2_with (first | (go_at_call 25;refine (CI.out _).mono ?_))
 first | rintro e w' rfl rfl | rintro e w' ⟨rfl,rfl⟩
 go_wp2
 refine bodyPost_ret (results_tmp2 (t:=2) (u:=3) rfl _ _ _) rfl ?_
 exact ⟨rfl,HG2.out⟩
end Go.Proofs.YtbgnflcebafjjaaGreatDoor
namespace Go.Proofs.YtbgnflcebafjjaaGreatDoor
open Go.RowKit Go.Maps Go.WideMaps Go.Joins
set_option linter.unusedVariables false
theorem NoS.grow {w w':World} {v:Value} {ns:List Tn} (h:NoS w v ns) (hg:w.grownBy w' none):NoS w' v ns:=by
 obtain ⟨o,c,hv,hc⟩:=h
 refine ⟨o,c,hv,fun i hi=>?_⟩
 obtain ⟨g,k,e,h0,h1,h2,h3,h4,h5,h6⟩:=hc i hi
 exact ⟨g,k,e,hg.cell h0 (by simp),hg.cell h1 (by simp),hg.cell h2 (by simp),hg.cell h3 (by simp),hg.cell h4 (by simp),hg.cell h5 (by simp),h6.grow hg⟩
structure SpF (b0 b1:Nat) (w w':World):Prop where
 os:w'.os=w.os
 tape:w'.tape=w.tape
 output:w'.output=w.output
 size:w.heap.size<=w'.heap.size
 block:∀b,(b < b0\/b1<=b)->w'.heap[b]?=w.heap[b]?
theorem SpF.refl (b0 b1:Nat) (w:World):SpF b0 b1 w w:=⟨rfl,rfl,rfl,Nat.le_refl _,fun _ _=>rfl⟩
theorem SpF.set {b0 b1:Nat} {w w':World} (h:SpF b0 b1 w w') {g:Nat} (h0:b0<=g) (h1:g < b1) (o:Nat) (v:Value):SpF b0 b1 w (w'.setCell ⟨g,o,none⟩ v) :=
 ⟨h.os,h.tape,h.output,by have:=h.size;simpa [World.setCell] using this,fun b hb=>(heap_setCell_other w' _ b v (by simp only [];omega)).trans (h.block b hb)⟩
theorem SpF.below {b0 b1:Nat} {w w':World} (h:SpF b0 b1 w w'):Below b0 w w':=⟨h.os,h.tape,h.output,h.size,fun k hk=>h.block k (Or.inl hk)⟩
structure SpL (w:World) (b0 b1 N n i:Nat) (ks:Nat->Value) (ls:Nat->Nat):Prop where
 lo:b0<=N
 hi:N < b1
 row:∃cur,w.heap[N]?=some (.cells cur 33 (0,0))/\n * 6<=cur.size/\∀j,i<=j->j < n->cur[j * 6+4]?=some (ks j)
 kid:∀j,j < n->∃o c,ks j=.slice o (ls j) c/\ls j<=1000000/\(0 < ls j->∃g cur,o=some ⟨g,0,none⟩/\b0<=g/\g < b1/\w.heap[g]?=some (.cells cur 3 (0,0))/\ls j<=cur.size)
section
variable {w:World} {b0 b1 N n i:Nat} {ks:Nat->Value} {ls:Nat->Nat}
theorem SpL.cell (h:SpL w b0 b1 N n i ks ls) (o:Nat) (ho:o < i * 6) (v:Value):SpL (w.setCell ⟨N,o,none⟩ v) b0 b1 N n i ks ls:=by
 obtain ⟨cur,h1,h2,h3⟩:=h.row
 refine ⟨h.lo,h.hi,⟨cur.setIfInBounds o v,block_setCell h1 v,by simpa using h2,fun j hj hn=>?_⟩,fun j hj=>?_⟩
 ·rw [Array.getElem?_setIfInBounds_ne (by omega)]
  exact h3 j hj hn
 ·obtain ⟨oo,c,e,hm,hh⟩:=h.kid j hj
  refine ⟨oo,c,e,hm,fun hp=>?_⟩
  obtain ⟨g,cu,e1,e2,e3,e4,e5⟩:=hh hp
  exact ⟨g,cu,e1,e2,e3,(heap_setCell_other _ _ _ _ (ne_typ e4 h1 (by decide))).trans e4,e5⟩
theorem SpL.at (h:SpL w b0 b1 N n i ks ls) (j:Nat) (hj:i<=j) (hn:j < n):w.cell? ⟨N,j * 6+4,none⟩=some (ks j)/\∀k,w.frozen? ⟨N,k,none⟩=false:=by
 obtain ⟨cur,h1,h2,h3⟩:=h.row
 exact ⟨by rw [Lib.cell_of_heap h1];exact h3 j hj hn,fun k=>Lib.frozen_of_heap h1 k⟩
theorem SpL.any (h:SpL w b0 b1 N n i ks ls) (o:Nat) (ho:o < n * 6):∃v,w.cell? ⟨N,o,none⟩=some v:=by
 obtain ⟨cur,h1,h2,h3⟩:=h.row
 exact ⟨cur[o]'(by omega),by rw [Lib.cell_of_heap h1];exact Array.getElem?_eq_getElem (by omega)⟩
end
end Go.Proofs.YtbgnflcebafjjaaGreatDoor
namespace Go.Proofs.YtbgnflcebafjjaaGreatDoor
open Go.RowKit Go.Maps Go.WideMaps Go.Joins
set_option linter.unusedVariables false
theorem rdAll_li (l:List UInt8):∀(f:Nat) (d d':Sd),Li l d->rdAll l f d=.ok d'->Li l d'
 | 0,d,d',L,h=>by cases h;exact L
 | f+1,d,d',L,h=>by
  rw [rdAll_step] at h
  split at h
  ·cases h;exact L
  ·cases hr:rdLine l d with
   | error e=>rw [hr] at h;cases h
   | ok d1 =>
    rw [hr] at h
    exact rdAll_li l f d1 d' (line_ok l d d1 L (by omega) hr).1 h
theorem toml_ok (l:List UInt8) (ns:List Tn) (h:rdToml l=.ok ns):∃own now,Jt ns own now/\kdAt ns 0=0/\ns.length<=200001/\l.length<=100000:=by
 rw [rdToml_eq] at h
 split at h
 ·cases h
 ·cases ha:rdAll l (l.length+1) ⟨0,[⟨0,[],[],0,[],0⟩],[],0⟩ with
  | error e=>rw [ha] at h;cases h
  | ok d =>
   rw [ha] at h
   have L:=rdAll_li l _ _ _ (li_start l) ha
   cases h
   have h1:=L.nn
   have h2:=L.le
   exact ⟨d.own,d.now,L.jt,L.rt,by omega,by omega⟩
theorem Gl.up {w:World} {B B':Nat} {E:Int->TypeId × Value} (h:Gl w B E) (hB:B<=B'):Gl w B' E :=
 ⟨h.es,⟨Nat.lt_of_lt_of_le h.lo.te hB,Nat.lt_of_lt_of_le h.lo.ra hB,Nat.lt_of_lt_of_le h.lo.ma hB,Nat.lt_of_lt_of_le h.lo.tw hB⟩,h.tabs,Nat.lt_of_lt_of_le h.t3 hB,Nat.lt_of_lt_of_le h.t4 hB⟩
theorem lNum_any (w:World) (n:Int):Calls Tryz.prog 10 #[.int .i64 n] w fun e w'=>e=.returned (.int .i64 n)/\w'=w:=by
 go_enter Tryz.func10,Tryz.ntmps10
 go_wp2
 go_ret
 exact ⟨rfl,rfl⟩
end Go.Proofs.YtbgnflcebafjjaaGreatDoor
