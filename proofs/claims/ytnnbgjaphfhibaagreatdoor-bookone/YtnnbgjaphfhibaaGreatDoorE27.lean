import Derived.Test.YtnnbgjaphfhibaaGreatDoorE22
set_option linter.all false
set_option maxRecDepth 100000
set_option maxHeartbeats 0
open Go.Proofs.Tryz
namespace Go.Proofs.YtnnbgjaphfhibaaGreatDoor
open Go.RowKit Go.Maps Go.WideMaps Go.Joins
theorem afk(w:World)(B P:Nat)(hP:P<w.heap.size):DtD w B P [] 0 [] (.slice none 0 0) (.slice none 0 0) [] (fun _=>.slice none 0 0) :=
 ⟨World.ownsRow_nil _ _ _ _,fun i hi=>absurd hi (by simp),fun i hi=>absurd hi (by simp),fun i j g hi=>absurd hi (by simp),World.ownsRow_nil _ _ _ _,fun i hi=>absurd hi (by simp),hP⟩
theorem afl(B P R:Nat)(s:ByteArray)(now de:Nat)(q:Rs Nat)(w:World)(hS:Ds w R s (.slice none 0 0) (.slice none 0 0) now de q)(jH:B<=R)(pI:¬P=R)(hP:P<w.heap.size) :
  Calls prog 29 #[.pointer (some ⟨R,0,none⟩),.int .i64 (-1),.agg #[.int .i64 0,.string ⟨#[]⟩,.string ⟨#[]⟩,.int .i64 0,.slice none 0 0,.int .i64 0]] w fun e w'=>e=.returned (.int .i64 0)/\Dt w' B P R s now de q [⟨0,[],[],0,[],0⟩] []/\DFr B P w w':=by
 obtain⟨i0,hi0,hii⟩:=Option.map_eq_some_iff.1 Ws;simp only[Prod.mk.injEq]at hii;obtain⟨hz0,hz1,hzb⟩:=hii;obtain⟨b0,hb0,hbb⟩:=Option.map_eq_some_iff.1 Wu;simp only[Prod.mk.injEq]at hbb;obtain⟨hx0,hx1,hxb⟩:=hbb;have hone:=WB ⟨0,[],[],0,[],0⟩;have AY:Hd (IG ⟨0,[],[],0,[],0⟩=[.int .i64 0,.string ⟨#[]⟩,.string ⟨#[]⟩,.int .i64 0,.slice none 0 0,.int .i64 0]):=rfl;rw[AY.o]at hone;have Oa:=Wv;obtain⟨K,jd⟩:=zN (w.heap.size);have fA:w.grownBy (w.alloc (.cells #[.int .i64 0,.string ⟨#[]⟩,.string ⟨#[]⟩,.int .i64 0,.slice none 0 0,.int .i64 0] 45)) none:=World.grownBy_alloc w _ none;have bV:=heap_alloc_new w (.cells #[.int .i64 0,.string ⟨#[]⟩,.string ⟨#[]⟩,.int .i64 0,.slice none 0 0,.int .i64 0] 45);have qw:(w.alloc (.cells #[.int .i64 0,.string ⟨#[]⟩,.string ⟨#[]⟩,.int .i64 0,.slice none 0 0,.int .i64 0] 45)).heap.size=K+1:=by rw[World.size_alloc,jd]
 rw[jd]at bV;have hS1:=hS.grow fA;obtain⟨ii,er,pp,hdd⟩:=hS.dd;have hBs:=Nat.le_of_lt (Nat.lt_of_le_of_lt jH (aB hdd));have jF:=ae (DFr.gb fA hBs hP);obtain⟨w1,hw1⟩:=zN (w.alloc (.cells #[.int .i64 0,.string ⟨#[]⟩,.string ⟨#[]⟩,.int .i64 0,.slice none 0 0,.int .i64 0] 45));rw[hw1]at bV qw jF hS1;have hP1:P<w1.heap.size:=by omega
 have ajC:B<=w1.heap.size:=by omega
 have hD1:=afk w1 B P hP1;obtain⟨ii1,er1,pp1,xM⟩:=hS1.dd;obtain⟨-,-,d2,d3,-,-,-,-,dfz⟩:=xM.cells;have vg:Hd (some R≠(Value.slice none 0 0).ownBlock):=by show some R≠none;simp
 have dA:(w1.alloc (.cells #[.int .i64 0,.string ⟨#[]⟩,.string ⟨#[]⟩,.int .i64 0,.slice none 0 0,.int .i64 0] 45)).cell? ⟨R,2,none⟩=some (.slice none 0 0):=(World.grownBy_alloc w1 _ none).cell d2 (by simp);have DD:=ae xM;have k0:w1.cell? ⟨K,0,none⟩=some (.int .i64 0):=by rw[ag bV];rfl
 have k1:w1.cell? ⟨K,1,none⟩=some (.string ⟨#[]⟩):=by rw[ag bV];rfl
 have k2:w1.cell? ⟨K,2,none⟩=some (.string ⟨#[]⟩):=by rw[ag bV];rfl
 have k3:w1.cell? ⟨K,3,none⟩=some (.int .i64 0):=by rw[ag bV];rfl
 have k4:w1.cell? ⟨K,4,none⟩=some (.slice none 0 0):=by rw[ag bV];rfl
 have k5:w1.cell? ⟨K,5,none⟩=some (.int .i64 0):=by rw[ag bV];rfl
 have HD1:=ae hD1;have fC:=ae hS1;have dY:Hd ((w1.drew.alloc (.cells #[.int .i64 0,.string ⟨#[]⟩,.string ⟨#[]⟩,.int .i64 0,.slice none 0 0,.int .i64 0] 45)).heap[K+1]?=some (.cells #[.int .i64 0,.string ⟨#[]⟩,.string ⟨#[]⟩,.int .i64 0,.slice none 0 0,.int .i64 0] 45 (0,0))):=by
  have:=heap_alloc_new w1.drew (.cells #[.int .i64 0,.string ⟨#[]⟩,.string ⟨#[]⟩,.int .i64 0,.slice none 0 0,.int .i64 0] 45);rw[show w1.drew.heap.size=K+1 from qw]at this;exact this
 have aee:¬(0:Int)<=(-1:Int):=by omega
 clear fA bV hS hS1 hdd xM dfz hD1;go_enter func29,ntmps29;go_upto_region 2 with fail
 go_cut [] from 13 (fun wx=>∃(g cap:Nat) (xs':List Value) (ks':Nat->Value),DtD wx B P [⟨0,[],[],0,[],0⟩] 0 [] (.slice (some ⟨g,0,none⟩) 1 cap) (.slice none 0 0) xs' ks'/\Ds wx R s (.slice (some ⟨g,0,none⟩) 1 cap) (.slice none 0 0) now de q/\DFr B P w1 wx/\¬P=g)
 case first =>
  go_region_law (refine step_append_lies _ (by rfl) _ _ _ (by rfl) B 45 i0 _ 6 80 underlying39 hi0 hz0 hz1 hzb (by rfl) (by decide) (.slice none 0 0) 0 [] (by rfl) (World.ownsRow_nil _ _ _ _) ⟨K+1,0,none⟩ 1 1 [.int .i64 0,.string ⟨#[]⟩,.string ⟨#[]⟩,.int .i64 0,.slice none 0 0,.int .i64 0] (by rfl) (by rfl) (World.news_of_block dY.o) hone (by omega) (by unfold maxLen;omega) (by omega) (by simp;omega) _ rfl ?_;intro g cap w3 hown3 hgrow hat hlt3;have hc3:=nH d2 hgrow vg.o;have o8:w3.frozen? ⟨R,2,none⟩=false:=rH DD.o hgrow vg.o)
  all_goals (
   go_wp2_with fail;go_meet;obtain⟨xs',ks',q1,q2,q3,q4⟩:=Wx (ns:=[]) ⟨0,[],[],0,[],0⟩ rfl HD1.o fC.o jH pI (by show(none:Option Nat)≠_;simp) hown3 hgrow hat;exact⟨g,cap,xs',ks',q1,q2,q3,q4⟩)
 case rest =>
  obtain⟨N1,c1,xs1,ks1,hD2,hS2,hF2,Em⟩:=hcut;obtain⟨ii2,er2,pp2,uq⟩:=hS2.dd;obtain⟨-,-,e2,e3,-,-,-,-,efz⟩:=uq.cells;have xO:=ae vg.o;have xP:=ae uq;have HD2:=ae hD2;have HS2:=ae hS2;have HF2:=ae hF2;have IJ:=ae Em;have hBc:=Nat.le_of_lt (Nat.lt_of_le_of_lt jH (aB uq));clear hD2 hS2 hF2 Em uq efz;go_wp2_with (first|(at_builtin;refine wpList_append_lies _ rfl _ _ 72 rfl B 4 b0 _ 1 1 underlying72 hb0 hx0 hx1 hxb rfl (by decide) (.slice none 0 0) 0 [] rfl (World.ownsRow_nil _ _ _ _) ⟨wc.heap.size,0,none⟩ 1 1 [.bool false] rfl rfl (World.news_of_block (heap_alloc_new _ _)) Oa (by omega) (by unfold maxLen;omega) (by omega) (by simp;omega) _ rfl ?_;intro g cap w3 hown3 hgrow hat hlt3;have hc3:=hgrow.cell ((World.grownBy_alloc wc _ none).cell e3 (by simp)) xO.o;have o8:=Lib.frozen_of_heap ((hgrow.block R (by have:=aB xP.o;simp;omega) xO.o).trans (((World.grownBy_alloc wc _ none).block R (aB xP.o) (by simp)).trans xP.o)) 3))
  obtain⟨hD4,hS4,Eo,IK⟩:=Wy HD2.o HS2.o jH pI (by show(none:Option Nat)≠_;simp) (by simp) hown3 hgrow hat;go_ret;exact⟨rfl,⟨jH,pI,N1,c1,g,cap,xs1,ks1,IJ.o,IK,hD4,hS4⟩,(jF.o.two HF2.o).two Eo⟩
end Go.Proofs.YtnnbgjaphfhibaaGreatDoor
