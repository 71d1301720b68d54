import Derived.Test.YtbcfhgpfgdbjgaaGreatDoorK22
set_option linter.all false
set_option maxRecDepth 100000
set_option maxHeartbeats 0
open Go.Proofs.Tryz
namespace Go.Proofs.YtbcfhgpfgdbjgaaGreatDoor
open Go.RowKit Go.Maps Go.WideMaps Go.Joins
variable{s:ByteArray}{ns:List Tn}{k:List UInt8}{B P R de j t:Nat}{w:World}
theorem ahc(f:Nat)(B P R:Nat)(s:ByteArray)(own:List Nat)(now i up:Nat)(k:List UInt8)(p d:Nat)(ns:List Tn)(w:World)(h:Dt w B P R s now d (.ok i) ns own)(hs:s.size<=100000)(W:WF ns own)(V:WT ns)(hu:up<ns.length)(hk2:¬ay ns up=2)(hd:d<=8)(hsz:ns.length+(s.size-i)<=700000)(hf:2*(s.size-i)+1<=f+1)(hx:nx s.data.toList i=43\/nx s.data.toList i=45\/aI (nx s.data.toList i)=true) :
  Calls prog 59 #[.pointer (some ⟨R,0,none⟩),.int .i64 (up:Nat),.string ⟨k.toArray⟩,.int .i64 (p:Nat)] w (uT B P R s now d own (val s.data.toList (f+1) i up k p d ns) w):=by
 have hl:s.data.toList.length=s.size:=by simp
 obtain⟨c0,c1,c5,-,-,hi,-⟩:=h.cells;have HD:=ae h;have hx34:¬nx s.data.toList i=34:=fun e=>by rw[e]at hx;revert hx;decide
 have hx91:¬nx s.data.toList i=91:=fun e=>by rw[e]at hx;revert hx;decide
 rw[agm _ _ _ _ _ _ _ _ hx34 hx];have hlt0:i<s.size:=by
  have:=bD (l:=s.data.toList) (i:=i) (by
   rcases hx with h|h|h
   ·rw[h];decide
   ·rw[h];decide
   ·have:=of_decide_eq_true h;omega)
  omega
 have hlt:=hlt0;have hge:decide ((s.size:Int)<=(i:Int))=false:=by simp;omega
 have uF:¬(s.size:Int)<=(i:Int):=by omega
 have fE:Hd (nx s.data.toList i=(s[i].toNat:Int)):=byte_at s i hlt;have q34:((s[i].toNat:Int) == 34)=false:=by rw[beq_eq_false_iff_ne,<-fE.o];exact hx34
 have q91:((s[i].toNat:Int) == 91)=false:=by rw[beq_eq_false_iff_ne,<-fE.o];exact hx91
 have CD:=ae (Bl s[i]);have wY:Hd (((s[i].toNat:Int) == 43)=true\/(((s[i].toNat:Int) == 43)=false/\((s[i].toNat:Int) == 45)=true)\/(((s[i].toNat:Int) == 43)=false/\((s[i].toNat:Int) == 45)=false/\aI (s[i].toNat:Int)=true)):=by
  show _\/_;rw[fE.o]at hx
  by_cases h1:(s[i].toNat:Int)=43
  ·left;simpa using h1
  ·by_cases h2:(s[i].toNat:Int)=45
   ·right;left;exact⟨by simpa using h1,by simpa using h2⟩
   ·right;right;exact⟨by simpa using h1,by simpa using h2,by rcases hx with h|h|h;exact(h1 h).elim;exact(h2 h).elim;exact h⟩
 have CQ:=ae (fun w (h:Dt w B P R s now d (.ok i) ns own)=>agk B P R s now d i ns own w h hlt hx hs);have CA:=ae (fun(q:Rs Nat) (t:Int) w (h:Dt w B P R s now d q ns own)=>wS B P R s now d q ns own up 4 t k [] p w h W hu (by omega));obtain⟨G,hG⟩:=zN (ji s.data.toList i);rw[hG]at CQ ⊢;obtain⟨Q,hQ⟩:∃Q:Rs (Nat × List Tn),(zY (fun n=>addN ns up ⟨4,k,[],n,[],p⟩) G)=Q:=⟨_,rfl⟩;have HQ:=ae hQ;rw[hQ];obtain⟨bd,hbd⟩:=zN (aI (s[i].toNat:Int));rw[hbd]at CD wY;clear h hx hG hQ V W hk2 fE hx34 hx91 hbd;go_enter func59,ntmps59;go_wp2;go_quiet (fail);have aF:=HD.o.drew nq;have dH:=ae aF.1;have cZ:=ae aF.2;obtain⟨wA,hwA⟩:=zN (w.drewN nq);rw[hwA]at dH cZ ⊢;obtain⟨d0,d1,d5,-,-,-,-⟩:=dH.o.cells;clear hwA aF c0 c1 c5;go_wp2;go_quiet (fail);have bg:=dH.o.drew nq;have jX:=ae bg.1;have lC:=ae (cZ.o.two bg.2)
 obtain⟨wB,hwB⟩:=zN (wA.drewN nq);rw[hwB]at jX lC ⊢;obtain⟨g0,g1,g5,-,-,-,-⟩:=jX.o.cells;clear hwB bg d0 d1 d5
 rcases wY.o with q43|⟨q43,q45⟩|⟨q43,q45,rfl⟩
 ·go_wp2_with (go_at_call 87;refine(CQ.o _ jX.o).mono ?_);rintro e w2 ⟨h1,h2,hf2⟩;have HF2:=ae (lC.o.two hf2);clear hf2
  match G,h1,h2,HQ with
  | .error c,_,h2,HQ =>
   obtain⟨t,rfl,hd2⟩:=h2 c rfl;have HD2:=ae hd2;have jB:Hd (Q=.error c):=HQ.o.symm;clear h2 hd2;go_wp2_with (go_at_call 26;refine(CA.o _ t _ HD2.o).mono ?_;rintro e w3 ⟨rfl,hd3,hf3⟩);refine bodyPost_end (results_none rfl _ _ _) rfl ?_;rw[jB.o];exact⟨rfl,fun j ns' hh=>(by cases hh),fun c' hh=>(by injection hh with hh;subst hh;exact hd3.fq),HF2.o.two hf3⟩
  | .ok (t,j),h1,_,HQ =>
   obtain⟨rfl,hd2⟩:=h1 t j rfl;have HD2:=ae hd2;have jB:Hd (Q=.ok (j,addN ns up ⟨4,k,[],t,[],p⟩)):=HQ.o.symm;clear h1 hd2;go_wp2_with (go_at_call 26;refine(CA.o _ t _ HD2.o).mono ?_;rintro e w3 ⟨rfl,hd3,hf3⟩);refine bodyPost_end (results_none rfl _ _ _) rfl ?_;rw[jB.o];exact⟨rfl,fun j ns' hh=>(by cases hh;exact hd3),fun c' hh=>(by cases hh),HF2.o.two hf3⟩
 ·go_wp2_with (go_at_call 87;refine(CQ.o _ jX.o).mono ?_);rintro e w2 ⟨h1,h2,hf2⟩;have HF2:=ae (lC.o.two hf2);clear hf2
  match G,h1,h2,HQ with
  | .error c,_,h2,HQ =>
   obtain⟨t,rfl,hd2⟩:=h2 c rfl;have HD2:=ae hd2;have jB:Hd (Q=.error c):=HQ.o.symm;clear h2 hd2;go_wp2_with (go_at_call 26;refine(CA.o _ t _ HD2.o).mono ?_;rintro e w3 ⟨rfl,hd3,hf3⟩);refine bodyPost_end (results_none rfl _ _ _) rfl ?_;rw[jB.o];exact⟨rfl,fun j ns' hh=>(by cases hh),fun c' hh=>(by injection hh with hh;subst hh;exact hd3.fq),HF2.o.two hf3⟩
  | .ok (t,j),h1,_,HQ =>
   obtain⟨rfl,hd2⟩:=h1 t j rfl;have HD2:=ae hd2;have jB:Hd (Q=.ok (j,addN ns up ⟨4,k,[],t,[],p⟩)):=HQ.o.symm;clear h1 hd2;go_wp2_with (go_at_call 26;refine(CA.o _ t _ HD2.o).mono ?_;rintro e w3 ⟨rfl,hd3,hf3⟩);refine bodyPost_end (results_none rfl _ _ _) rfl ?_;rw[jB.o];exact⟨rfl,fun j ns' hh=>(by cases hh;exact hd3),fun c' hh=>(by cases hh),HF2.o.two hf3⟩
 ·go_wp2_with (first|(go_at_call 87;refine(CQ.o _ jX.o).mono ?_)|(go_at_call 47;refine(CD.o _).mono ?_;rintro e w' ⟨rfl,rfl⟩));rintro e w2 ⟨h1,h2,hf2⟩;have HF2:=ae (lC.o.two hf2);clear hf2
  match G,h1,h2,HQ with
  | .error c,_,h2,HQ =>
   obtain⟨t,rfl,hd2⟩:=h2 c rfl;have HD2:=ae hd2;have jB:Hd (Q=.error c):=HQ.o.symm;clear h2 hd2;go_wp2_with (go_at_call 26;refine(CA.o _ t _ HD2.o).mono ?_;rintro e w3 ⟨rfl,hd3,hf3⟩);refine bodyPost_end (results_none rfl _ _ _) rfl ?_;rw[jB.o];exact⟨rfl,fun j ns' hh=>(by cases hh),fun c' hh=>(by injection hh with hh;subst hh;exact hd3.fq),HF2.o.two hf3⟩
  | .ok (t,j),h1,_,HQ =>
   obtain⟨rfl,hd2⟩:=h1 t j rfl;have HD2:=ae hd2;have jB:Hd (Q=.ok (j,addN ns up ⟨4,k,[],t,[],p⟩)):=HQ.o.symm;clear h1 hd2;go_wp2_with (go_at_call 26;refine(CA.o _ t _ HD2.o).mono ?_;rintro e w3 ⟨rfl,hd3,hf3⟩);refine bodyPost_end (results_none rfl _ _ _) rfl ?_;rw[jB.o];exact⟨rfl,fun j ns' hh=>(by cases hh;exact hd3),fun c' hh=>(by cases hh),HF2.o.two hf3⟩
theorem ahe(w:World)(B P:Nat)(hP:P<w.heap.size):DtD w B P [] 0 [] (.slice none 0 0) (.slice none 0 0) [] (fun _=>.slice none 0 0) :=
 ⟨World.ownsRow_nil _ _ _ _,fun i hi=>absurd hi (by simp),fun i hi=>absurd hi (by simp),fun i j g hi=>absurd hi (by simp),World.ownsRow_nil _ _ _ _,fun i hi=>absurd hi (by simp),hP⟩
theorem ahf(B P R:Nat)(s:ByteArray)(now de:Nat)(q:Rs Nat)(w:World)(hS:Ds w R s (.slice none 0 0) (.slice none 0 0) now de q)(jA:B<=R)(qj:¬P=R)(hP:P<w.heap.size) :
  Calls prog 26 #[.pointer (some ⟨R,0,none⟩),.int .i64 (-1),.agg #[.int .i64 0,.string ⟨#[]⟩,.string ⟨#[]⟩,.int .i64 0,.slice none 0 0,.int .i64 0]] w fun e w'=>e=.returned (.int .i64 0)/\Dt w' B P R s now de q [⟨0,[],[],0,[],0⟩] []/\DFr B P w w':=by
 obtain⟨i0,hi0,hii⟩:=Option.map_eq_some_iff.1 Yu;simp only[Prod.mk.injEq]at hii;obtain⟨hz0,hz1,hzb⟩:=hii;obtain⟨b0,hb0,hbb⟩:=Option.map_eq_some_iff.1 Yv;simp only[Prod.mk.injEq]at hbb;obtain⟨hx0,hx1,hxb⟩:=hbb;have hone:=Yz ⟨0,[],[],0,[],0⟩;have Gg:Hd (JX ⟨0,[],[],0,[],0⟩=[.int .i64 0,.string ⟨#[]⟩,.string ⟨#[]⟩,.int .i64 0,.slice none 0 0,.int .i64 0]):=rfl;rw[Gg.o]at hone;have P8:=Yw;obtain⟨K,kZ⟩:=zN (w.heap.size);have eH:w.grownBy (w.alloc (.cells #[.int .i64 0,.string ⟨#[]⟩,.string ⟨#[]⟩,.int .i64 0,.slice none 0 0,.int .i64 0] 48)) none:=World.grownBy_alloc w _ none;have bV:=heap_alloc_new w (.cells #[.int .i64 0,.string ⟨#[]⟩,.string ⟨#[]⟩,.int .i64 0,.slice none 0 0,.int .i64 0] 48);have qN:(w.alloc (.cells #[.int .i64 0,.string ⟨#[]⟩,.string ⟨#[]⟩,.int .i64 0,.slice none 0 0,.int .i64 0] 48)).heap.size=K+1:=by rw[World.size_alloc,kZ]
 rw[kZ]at bV;have hS1:=hS.grow eH;obtain⟨ii,er,pp,hdd⟩:=hS.dd;have hBs:=Nat.le_of_lt (Nat.lt_of_le_of_lt jA (aG hdd));have jo:=ae (DFr.gb eH hBs hP);obtain⟨w1,hw1⟩:=zN (w.alloc (.cells #[.int .i64 0,.string ⟨#[]⟩,.string ⟨#[]⟩,.int .i64 0,.slice none 0 0,.int .i64 0] 48));rw[hw1]at bV qN jo hS1;have hP1:P<w1.heap.size:=by omega
 have ak5:B<=w1.heap.size:=by omega
 have hD1:=ahe w1 B P hP1;obtain⟨ii1,er1,pp1,yF⟩:=hS1.dd;obtain⟨-,-,d2,d3,-,-,-,-,dfz⟩:=yF.cells;have pO:Hd (some R≠(Value.slice none 0 0).ownBlock):=by show some R≠none;simp
 have dA:(w1.alloc (.cells #[.int .i64 0,.string ⟨#[]⟩,.string ⟨#[]⟩,.int .i64 0,.slice none 0 0,.int .i64 0] 48)).cell? ⟨R,2,none⟩=some (.slice none 0 0):=(World.grownBy_alloc w1 _ none).cell d2 (by simp);have xX:=ae yF;have k0:w1.cell? ⟨K,0,none⟩=some (.int .i64 0):=by rw[aj bV];rfl
 have k1:w1.cell? ⟨K,1,none⟩=some (.string ⟨#[]⟩):=by rw[aj bV];rfl
 have k2:w1.cell? ⟨K,2,none⟩=some (.string ⟨#[]⟩):=by rw[aj bV];rfl
 have k3:w1.cell? ⟨K,3,none⟩=some (.int .i64 0):=by rw[aj bV];rfl
 have k4:w1.cell? ⟨K,4,none⟩=some (.slice none 0 0):=by rw[aj bV];rfl
 have k5:w1.cell? ⟨K,5,none⟩=some (.int .i64 0):=by rw[aj bV];rfl
 have HD1:=ae hD1;have dP:=ae hS1;have fB:Hd ((w1.drew.alloc (.cells #[.int .i64 0,.string ⟨#[]⟩,.string ⟨#[]⟩,.int .i64 0,.slice none 0 0,.int .i64 0] 48)).heap[K+1]?=some (.cells #[.int .i64 0,.string ⟨#[]⟩,.string ⟨#[]⟩,.int .i64 0,.slice none 0 0,.int .i64 0] 48 (0,0))):=by
  have:=heap_alloc_new w1.drew (.cells #[.int .i64 0,.string ⟨#[]⟩,.string ⟨#[]⟩,.int .i64 0,.slice none 0 0,.int .i64 0] 48);rw[show w1.drew.heap.size=K+1 from qN]at this;exact this
 have agc:¬(0:Int)<=(-1:Int):=by omega
 clear eH bV hS hS1 hdd yF dfz hD1;go_enter func26,ntmps26;go_upto_region 2 with fail
 go_cut [] from 13 (fun wx=>∃(g cap:Nat) (xs':List Value) (ks':Nat->Value),DtD wx B P [⟨0,[],[],0,[],0⟩] 0 [] (.slice (some ⟨g,0,none⟩) 1 cap) (.slice none 0 0) xs' ks'/\Ds wx R s (.slice (some ⟨g,0,none⟩) 1 cap) (.slice none 0 0) now de q/\DFr B P w1 wx/\¬P=g)
 case first=>
  go_region_law (refine step_append_lies _ (by rfl) _ _ _ (by rfl) B 48 i0 _ 6 80 underlying40 hi0 hz0 hz1 hzb (by rfl) (by decide) (.slice none 0 0) 0 [] (by rfl) (World.ownsRow_nil _ _ _ _) ⟨K+1,0,none⟩ 1 1 [.int .i64 0,.string ⟨#[]⟩,.string ⟨#[]⟩,.int .i64 0,.slice none 0 0,.int .i64 0] (by rfl) (by rfl) (World.news_of_block fB.o) hone (by omega) (by unfold maxLen;omega) (by omega) (by simp;omega) _ rfl ?_;intro g cap w3 hown3 hgrow hat hlt3;have hc3:=rY d2 hgrow pO.o;have uB:w3.frozen? ⟨R,2,none⟩=false:=xW xX.o hgrow pO.o)
  all_goals (
   go_wp2_with fail;go_meet;obtain⟨xs',ks',q1,q2,q3,q4⟩:=Yx (ns:=[]) ⟨0,[],[],0,[],0⟩ rfl HD1.o dP.o jA qj (by show(none:Option Nat)≠_;simp) hown3 hgrow hat;exact⟨g,cap,xs',ks',q1,q2,q3,q4⟩)
 case rest=>
  obtain⟨N1,c1,xs1,ks1,hD2,hS2,hF2,Gh⟩:=hcut;obtain⟨ii2,er2,pp2,uS⟩:=hS2.dd;obtain⟨-,-,e2,e3,-,-,-,-,efz⟩:=uS.cells;have yG:=ae pO.o;have yH:=ae uS;have HD2:=ae hD2;have HS2:=ae hS2;have HF2:=ae hF2;have JZ:=ae Gh;have hBc:=Nat.le_of_lt (Nat.lt_of_le_of_lt jA (aG uS));clear hD2 hS2 hF2 Gh uS efz;go_wp2_with (first|(at_builtin;refine wpList_append_lies _ rfl _ _ 70 rfl B 4 b0 _ 1 1 underlying70 hb0 hx0 hx1 hxb rfl (by decide) (.slice none 0 0) 0 [] rfl (World.ownsRow_nil _ _ _ _) ⟨wc.heap.size,0,none⟩ 1 1 [.bool false] rfl rfl (World.news_of_block (heap_alloc_new _ _)) P8 (by omega) (by unfold maxLen;omega) (by omega) (by simp;omega) _ rfl ?_;intro g cap w3 hown3 hgrow hat hlt3;have hc3:=hgrow.cell ((World.grownBy_alloc wc _ none).cell e3 (by simp)) yG.o;have uB:=Lib.frozen_of_heap ((hgrow.block R (by have:=aG yH.o;simp;omega) yG.o).trans (((World.grownBy_alloc wc _ none).block R (aG yH.o) (by simp)).trans yH.o)) 3))
  obtain⟨hD4,hS4,Gj,J3⟩:=Yy HD2.o HS2.o jA qj (by show(none:Option Nat)≠_;simp) (by simp) hown3 hgrow hat;go_ret;exact⟨rfl,⟨jA,qj,N1,c1,g,cap,xs1,ks1,JZ.o,J3,hD4,hS4⟩,(jo.o.two HF2.o).two Gj⟩
theorem ahg(n:Int)(w:World):Calls prog 7 #[.int .i64 n] w fun e w'=>e=.returned (.int .i64 n)/\w'=w:=by
 go_enter func7,ntmps7;go_wp2;go_ret;exact⟨rfl,rfl⟩
theorem ahh(n:Int)(w:World):Calls prog 7 #[.int .i64 n] w fun e w'=>e=.returned (.int .i64 n)/\w.grownBy w' none:=by
 refine(ahg n w).mono ?_;rintro e w' ⟨rfl,rfl⟩;exact⟨rfl,ax _ _⟩
theorem ahi(B P R:Nat)(s:ByteArray)(now de:Nat)(c:Int × Nat)(up:Nat)(k:List UInt8)(p:Nat)(w:World)(h:Fq w B P R s now de c)(hs:s.size<=100000) :
  Calls prog 59 #[.pointer (some ⟨R,0,none⟩),.int .i64 (up:Nat),.string ⟨k.toArray⟩,.int .i64 (p:Nat)] w fun e w'=>e=.returned (.tuple #[])/\Fq w' B P R s now de c/\DFr B P w w':=by
 obtain⟨L,O,⟨h1,j,h2,h3⟩,h4,h5,h6⟩:=h;have HD:=ae h3;obtain⟨c0,c1,-,-,-,c5,-,-,-⟩:=h3.cells;have hb:(c.1 == 0)=false:=by simpa using h1
 have hb2:(c.1 != 0)=true:=by simpa using h1
 have HC:=ae h1;have HB:=ae (Nat.le_of_lt (Nat.lt_of_le_of_lt h4 (aG h3)));have Y1:Hd (∀n,Fq (w.drewN n) B P R s now de c/\DFr B P w (w.drewN n)):=fun n=>by
  have g:=az (ax w none) n;exact⟨⟨L,O,⟨h1,j,h2,h3.grow g⟩,h4,h5,h6⟩,DFr.gb g HB.o h6⟩
 obtain⟨x,hx⟩:=zN (c.1);obtain⟨y,hy⟩:=zN (c.2);rw[hx]at HD c5 hb hb2 HC;rw[hy]at HD;clear h1 h3 hx hy
 by_cases hj:s.size<=j
 ·have hge:decide ((s.size:Int)<=(j:Int))=true:=by simp;omega
  have uF:(s.size:Int)<=(j:Int):=by omega
  have CF:=ae (fun w' (h:Dd w' R s L O now de j x y)=>Nc R s L O now de j x y 2 j w' h HC.o);go_enter func59,ntmps59;go_wp2;go_quiet (fail);go_wp2_with (go_at_call 58;refine(CF.o _ ?_).mono ?_;exact HD.o;rintro e w' ⟨rfl,rfl⟩);refine bodyPost_ret (results_none rfl _ _ _) rfl ?_;exact⟨rfl,Y1.o _⟩
 ·have hge:decide ((s.size:Int)<=(j:Int))=false:=by simp;omega
  have uF:¬(s.size:Int)<=(j:Int):=by omega
  go_enter func59,ntmps59;go_wp2;go_quiet (fail);go_wp2;refine bodyPost_ret (results_none rfl _ _ _) rfl ?_;exact⟨rfl,Y1.o _⟩
theorem ahj(f:Nat)(CL:J6 f):Qa (f+1):=fun B P R s own now i up k p d ns w h hs W V hu hk2 hd hsz hf=>by
 by_cases he:s.size<=i
 ·exact agp f B P R s own now i up k p d ns w h hs W V hu hk2 hd hsz hf he
 ·by_cases h34:nx s.data.toList i=34
  ·exact agr f B P R s own now i up k p d ns w h hs W V hu hk2 hd hsz hf h34
  ·by_cases hin:nx s.data.toList i=43\/nx s.data.toList i=45\/aI (nx s.data.toList i)=true
   ·exact ahc f B P R s own now i up k p d ns w h hs W V hu hk2 hd hsz hf hin
   ·by_cases htf:nx s.data.toList i=116\/nx s.data.toList i=102
    ·exact ahb f B P R s own now i up k p d ns w h hs W V hu hk2 hd hsz hf htf
    ·by_cases kP:nx s.data.toList i=91
     ·exact agq f CL B P R s own now i up k p d ns w h hs W V hu hk2 hd hsz hf kP
     ·exact aha f B P R s own now i up k p d ns w h hs W V hu hk2 hd hsz hf (by omega) h34 hin htf kP
def lh(l:List UInt8)(f j up d:Nat)(ns:List Tn):Rs (Nat × List Tn) :=
 if nx l j=93 then .ok (j+1,ns)
 else match val l f j up [] j d ns with
  | .error e=>.error e
  | .ok (j1,ns1)=>match gap l (l.length+1) j1 with
   | .error e=>.error e
   | .ok j2=>if nx l j2=44 then lst l f (j2+1) up d ns1 else if nx l j2=93 then .ok (j2+1,ns1) else .error (2,j2)
theorem Y2(l:List UInt8)(f i up d:Nat)(ns:List Tn):lst l (f+1) i up d ns=(gap l (l.length+1) i).bind fun j=>lh l f j up d ns:=by
 rw[ER]
 cases gap l (l.length+1) i with
 |error e=>rfl
 |ok j=>rfl
def lb(l:List UInt8)(f up d:Nat)(ns:List Tn)(q:Rs Nat):Rs (Nat × List Tn):=q.bind fun j2=>if nx l j2=44 then lst l f (j2+1) up d ns else if nx l j2=93 then .ok (j2+1,ns) else .error (2,j2)
theorem ahk(l:List UInt8)(f j up d:Nat)(ns:List Tn)(h:¬nx l j=93):lh l f j up d ns=match val l f j up [] j d ns with | .error e=>.error e | .ok (j1,ns1)=>lb l f up d ns1 (gap l (l.length+1) j1):=by
 unfold lh lb;rw[if_neg h]
 cases val l f j up [] j d ns with
 |error e=>rfl
 |ok q=>
  obtain⟨j1,ns1⟩:=q;simp only[]
  cases gap l (l.length+1) j1<;>rfl
def lv(l:List UInt8)(f up d:Nat):Rs (Nat × List Tn)->Rs (Nat × List Tn)
 | .error e=>.error e
 | .ok (j1,ns1)=>lb l f up d ns1 (gap l (l.length+1) j1)
theorem ahl(l:List UInt8)(f j up d:Nat)(ns:List Tn)(h:¬nx l j=93):lh l f j up d ns=lv l f up d (val l f j up [] j d ns):=by
 rw[ahk l f j up d ns h]
 cases val l f j up [] j d ns<;>rfl
theorem ahm(l:List UInt8)(f up d:Nat)(ns:List Tn)(j:Nat)(h:nx l j=93):lb l f up d ns (.ok j)=.ok (j+1,ns):=by
 show(if _ then _ else _)=_;rw[if_neg (by rw[h];decide),if_pos h]
theorem ahn(l:List UInt8)(f up d:Nat)(ns:List Tn)(j:Nat)(h:¬nx l j=93)(h2:¬nx l j=44):lb l f up d ns (.ok j)=.error (2,j):=by
 show(if _ then _ else _)=_;rw[if_neg h2,if_neg h]
theorem aho(l:List UInt8)(f up d:Nat)(ns:List Tn)(j:Nat)(h2:nx l j=44):lb l (f+1) up d ns (.ok j)=(gap l (l.length+1) (j+1)).bind fun j=>lh l f j up d ns:=by
 show(if _ then _ else _)=_;rw[if_pos h2,Y2]
theorem ahp(l:List UInt8)(own:List Nat)(f i up d:Nat)(k:List UInt8)(p:Nat)(ns:List Tn)(j:Nat)(ns':List Tn)(hi:i<=l.length)(W:WF ns own)(V:WT ns)(hu:up<ns.length)(h2:¬ay ns up=2)(h:val l f i up k p d ns=.ok (j,ns')):Ad ns ns' own i j l.length:=(I9 l own f).1 i up k p d ns j ns' hi W V hu h2 h
theorem ahq(l:List UInt8)(f up d:Nat)(ns:List Tn)(q:Rs Nat)(G:Rs (Nat × List Tn))(hG:lb l f up d ns q=G)(h:iL l q 93=true):∃j,q=.ok j/\lh l f j up d ns=G:=by
 match q,hG,h with
 | .error e,_,h=>cases h
 | .ok j,hG,h =>
  have hx:=of_decide_eq_true h;refine⟨j,rfl,?_⟩;rw[<-hG,ahm l f up d ns j hx];unfold lh;rw[if_pos hx]
theorem ahr(l:List UInt8)(f up d:Nat)(ns:List Tn)(q:Rs Nat)(G:Rs (Nat × List Tn))(hG:lb l (f+1) up d ns q=G)(h:iL l q 93=false)(hq:∀j,q=.ok j->j<=l.length):(∀j4,((q.bind fun i=>must l i 44).bind (gap l (l.length+1)))=.ok j4->lh l f j4 up d ns=G/\j4<=l.length/\∃j,q=.ok j/\j+1<=j4)/\(∀c,((q.bind fun i=>must l i 44).bind (gap l (l.length+1)))=.error c->G=.error c):=by
 match q,hG,h,hq with
 | .error e,hG,_,_=>exact⟨fun j4 hh=>(by cases hh),fun c hh=>(by have hh:(Except.error e:Rs Nat)=.error c:=hh;injection hh with hh;subst hh;exact hG.symm)⟩
 | .ok j,hG,h,hq =>
  have hx:=of_decide_eq_false h
  by_cases h44:nx l j=44
  ·rw[aho l f up d ns j h44]at hG;have hlt:=bD (l:=l) (i:=j) (by omega);have e:((Except.bind (.ok j) fun i=>must l i 44:Rs Nat).bind (gap l (l.length+1)))=gap l (l.length+1) (j+1):=by
    show(Except.bind (must l j 44) _)=_;unfold must;rw[if_pos h44];rfl
   rw[e];refine⟨fun j4 hh=>?_,fun c hh=>?_⟩
   ·rw[hh]at hG;have:=xO l _ (j+1) j4 (by omega) hh;exact⟨hG,this.2,j,rfl,this.1⟩
   ·rw[hh]at hG;exact hG.symm
  ·have e:((Except.bind (.ok j) fun i=>must l i 44:Rs Nat).bind (gap l (l.length+1)))=.error (2,j):=by
    show(Except.bind (must l j 44) _)=_;unfold must;rw[if_neg h44];rfl
   rw[e];rw[ahn l (f+1) up d ns j hx h44]at hG;exact⟨fun j4 hh=>(by cases hh),fun c hh=>(by injection hh with hh;subst hh;exact hG.symm)⟩
structure Ls(w:World)(B P R:Nat)(s:ByteArray)(now de:Nat)(q:Rs Nat)(ns:List Tn)(own:List Nat)(f up:Nat)(G:Rs (Nat × List Tn)):Prop where
 dq:Dq w B P R s now de q ns own
 ok:∀j,q=.ok j->lh s.data.toList f j up de ns=G/\WF ns own/\WT ns/\up<ns.length/\¬ay ns up=2/\ns.length+(s.size-j)<=700000/\2*(s.size-j)+1<=f/\j<=s.size
 er:∀c,q=.error c->G=.error c
theorem Gt{now:Nat}{own:List Nat}(h:Dt w B P R s now de (.ok j) ns own):dM w R s=s.size-j+1:=by
 obtain⟨h1,h2,N,c,O,oc,xs,ks,h3,h4,h5,h6⟩:=h;exact vU h6.2
theorem Qq{now:Nat}{c:Int × Nat}(h:Fq w B P R s now de c):dM w R s=0:=by
 obtain⟨L,O,⟨h1,j,h2,h3⟩,-⟩:=h;exact IR h3 h1
theorem Dq.setD{now:Nat}{q:Rs Nat}{own:List Nat}(h:Dq w B P R s now de q ns own)(m:Nat):Dq (w.setCell ⟨R,7,none⟩ (.int .i64 (m:Nat))) B P R s now m q ns own/\DFr B P w (w.setCell ⟨R,7,none⟩ (.int .i64 (m:Nat))):=by
 match q,h with
 | .error e,⟨L,O,h1,h2,h3,h4⟩=>exact⟨⟨L,O,h1.setD m,h2,h3,by simpa [World.setCell] using h4⟩,sV h1 h2 h3 h4 (aT (ax w (some R)) 7 _)⟩
 | .ok i,h =>
  obtain⟨h1,h2,N,c,O,oc,xs,ks,h3,h4,h5,h6⟩:=h;exact⟨⟨h1,h2,N,c,O,oc,xs,ks,h3,h4,h5.keepR h6.2 (aT (ax w (some R)) 7 _),h6.setD m⟩,sV h6 h1 h2 h5.hP (aT (ax w (some R)) 7 _)⟩
def okB:Rs Nat->Bool
 | .ok _=>true
 | .error _=>false
theorem Dq.cells{now:Nat}{q:Rs Nat}{own:List Nat}(h:Dq w B P R s now de q ns own):w.cell? ⟨R,7,none⟩=some (.int .i64 (de:Nat))/\w.frozen? ⟨R,7,none⟩=false/\∃er:Int,w.cell? ⟨R,5,none⟩=some (.int .i64 er)/\(er == 0)=okB q:=by
 match q,h with
 | .error e,⟨L,O,⟨h1,j,h2,h3⟩,_⟩ =>
  obtain⟨c0,c1,c2,c3,c4,c5,c6,c7,cf⟩:=h3.cells;exact⟨c7,cf 7,e.1,c5,by show _=false;simpa using h1⟩
 | .ok i,h =>
  obtain⟨h1,h2,N,c,O,oc,xs,ks,h3,h4,h5,h6⟩:=h;obtain⟨c0,c1,c2,c3,c4,c5,c6,c7,cf⟩:=h6.2.cells;exact⟨c7,cf 7,0,c5,rfl⟩
theorem ahs(F:Nat)(CV:∀f,f<F->Qa f):J6 F:=fun B P R s own now i up k p d ns w h hs hx W V hu hk2 hd hsz hf=>by
 have hl:s.data.toList.length=s.size:=by simp
 obtain⟨c0,c1,c5,c7,-,hi,cf⟩:=h.cells;have cf7:=cf 7;have hlt:i<s.size:=by have:=bD (l:=s.data.toList) (i:=i) (by omega);omega
 have HD:=ae h
 by_cases h8:d=8
 ·rw[if_pos h8];have h8I:(8:Int)<=(d:Int):=by omega
  have CF:=ae (zX B P R s now d ns own i w h 4 (by decide) i);clear h h8 W V hk2 hx CV cf;go_enter func86,ntmps86;go_wp2_with (go_at_call 58;refine CF.o.mono ?_;rintro e w2 ⟨rfl,hd2,hf2⟩);refine bodyPost_ret (results_none rfl _ _ _) rfl ?_;exact⟨rfl,fun j ns' hh=>(by cases hh),fun c hh=>(by cases hh;exact hd2.fq),hf2⟩
 ·rw[if_neg h8];have h8I:(d:Int)<8:=by omega
  obtain⟨f,rfl⟩:∃f,F=f+1:=⟨F-1,by omega⟩;have A:=Bv (i:=i) (j:=i+1) (n:=s.data.toList.length) (x:=⟨1,k,[],0,[],p⟩) W V hu hk2 rfl (fun e=>absurd (show(1:Int)=2 from e) (by decide)) (by omega) (by omega);have hkd:¬ay (addN ns up ⟨1,k,[],0,[],p⟩) ns.length=2:=by rw[eX ns up _ hu,if_pos rfl];exact fun e=>absurd (show(1:Int)=2 from e) (by decide)
  have hln:(addN ns up ⟨1,k,[],0,[],p⟩).length=ns.length+1:=bW _ _ _;obtain⟨M,hM⟩:=zN (addN ns up ⟨1,k,[],0,[],p⟩);obtain⟨u,hu'⟩:=zN ns.length;have CA:Hd (∀w,Dt w B P R s now (d+1) (.ok (i+1)) ns own->Calls prog 26 #[.pointer (some ⟨R,0,none⟩),.int .i64 (up:Nat),.agg #[.int .i64 1,.string ⟨k.toArray⟩,.string ⟨#[]⟩,.int .i64 0,.slice none 0 0,.int .i64 (p:Nat)]] w fun e w'=>e=.returned (.int .i64 (u:Nat))/\Dt w' B P R s now (d+1) (.ok (i+1)) M own/\DFr B P w w'):=fun w h=>by
   rw[<-hM,<-hu'];exact wS B P R s now (d+1) (.ok (i+1)) ns own up 1 0 k [] p w h W hu (by omega)
  rw[hM]at A hkd hln ⊢;have qQ:Hd (WF M own/\WT M):=⟨A.wf,A.wt⟩;rw[Y2,hu'];rw[hu']at hkd hln;obtain⟨G,hG⟩:=zN (((gap s.data.toList (s.data.toList.length+1) (i+1)).bind fun j=>lh s.data.toList f j u (d+1) M));have iT:=ae hG;rw[hG];have Y3:Hd (∀i j,i<=s.size->gap s.data.toList (s.data.toList.length+1) i=.ok j->i<=j/\j<=s.size):=fun i j hi h=>by have:=xO s.data.toList _ i j (by omega) h;omega
  have pU:Hd (must s.data.toList i 91=.ok (i+1)):=by show _=_;unfold must;rw[if_pos hx]
  have CM:=ae (fun c (hc:0<=c) (q:Rs Nat) (N:List Tn) w (h:Dq w B P R s now (d+1) q N own)=>P9 B P R s now (d+1) N own q w h hs c hc);have Y4:Hd (∀w,Dq w B P R s now (d+1) (.ok i) ns own->Calls prog 43 #[.pointer (some ⟨R,0,none⟩),.int .u8 91] w fun e w'=>e=.returned (.tuple #[])/\Dq w' B P R s now (d+1) (.ok (i+1)) ns own/\DFr B P w w'):=fun w h=>by
   have:=CM.o 91 (by decide) (.ok i) ns w h;rw[show(Except.bind (.ok i) fun i=>must s.data.toList i 91:Rs Nat)=must s.data.toList i 91 from rfl,pU.o]at this;exact this
  have DI:=ae (fun(q:Rs Nat) (N:List Tn) w (h:Dq w B P R s now (d+1) q N own)=>agf B P R s now (d+1) N own q w h hs);have CI:=ae (fun(q:Rs Nat) (N:List Tn) w (h:Dq w B P R s now (d+1) q N own)=>YE B P R s now (d+1) N own q w h hs 93 (by decide));have Y5:Hd (∀f',f'<f+1->∀(j:Nat) (N:List Tn) w,Dt w B P R s now (d+1) (.ok j) N own->WF N own->WT N->u<N.length->¬ay N u=2->N.length+(s.size-j)<=700000->2*(s.size-j)+1<=f'->Calls prog 59 #[.pointer (some ⟨R,0,none⟩),.int .i64 (u:Nat),.string ⟨#[]⟩,.int .i64 (j:Nat)] w (uT B P R s now (d+1) own (val s.data.toList f' j u [] j (d+1) N) w)):=fun f' hf' j N w h a b c e g i=>CV f' hf' B P R s own now j u [] j (d+1) N w h hs a b c e (by omega) g i
  have HAD:Hd (∀f' j N j1 N1,j<=s.size->WF N own->WT N->u<N.length->¬ay N u=2->val s.data.toList f' j u [] j (d+1) N=.ok (j1,N1)->Ad N N1 own j j1 s.size):=fun f' j N j1 N1 a b c e g h=>by have:=ahp s.data.toList own f' j u (d+1) [] j N j1 N1 (by omega) b c e g h;rw[hl]at this;exact this
  have hS:=Dq.setD (q:=.ok i) h (d+1);have dP:Hd (Dq (w.setCell ⟨R,7,none⟩ (.int .i64 ((d:Int)+1))) B P R s now (d+1) (.ok i) ns own):=hS.1;have jo:Hd (DFr B P w (w.setCell ⟨R,7,none⟩ (.int .i64 ((d:Int)+1)))):=hS.2;have hfu:u<M.length:=by omega
  have aht:M.length+(s.size-(i+1))<=700000:=by omega
  clear h hG hM A hS V W hk2 hx CV hu' cf;go_enter func86,ntmps86;go_wp2_with (first|(go_at_call 43;refine(Y4.o _ dP.o).mono ?_;rintro e w2 ⟨rfl,hd2,hf2⟩)|(go_at_call 26;refine(CA.o _ hd2).mono ?_;rintro e w3 ⟨rfl,hd3,hf3⟩)|(go_at_call 116;refine(DI.o (.ok (i+1)) M _ hd3).mono ?_));rintro e w4 ⟨rfl,hd4,hf4⟩;have Gu:=ae (((jo.o.two hf2).two hf3).two hf4);have zH:Hd (Ls w4 B P R s now (d+1) ((Except.ok (i+1)).bind (gap s.data.toList (s.data.toList.length+1))) M own f u G):=by
   refine⟨hd4,fun j hj=>?_,fun c hc=>?_⟩
   ·have hj':gap s.data.toList (s.data.toList.length+1) (i+1)=.ok j:=hj;have h0:=iT.o;rw[hj']at h0;have h1:=Y3.o (i+1) j (by omega) hj';exact⟨h0,qQ.o.1,qQ.o.2,hfu,hkd,by omega,by omega,h1.2⟩
   ·have hj':gap s.data.toList (s.data.toList.length+1) (i+1)=.error c:=hc;have h0:=iT.o;rw[hj']at h0;exact h0.symm
  obtain⟨m,hm⟩:=zN (d+1);have hmd:(m:Int)<=8:=by omega
  have hm1:(1:Int)<=(m:Int):=by omega
  have Y6:=ae hm;rw[hm]at zH CM DI CI Y5 HAD;clear hd2 hd3 hd4 hf2 hf3 hf4 hm dP jo CA Y4 iT hkd hln qQ pU Y3 HD hfu aht;go_wp2;go_loopw [] (fun wr=>∃(q:Rs Nat) (N:List Tn) (f':Nat),f'<f+1/\Ls wr B P R s now m q N own f' u G/\DFr B P w wr) (fun wr=>dM wr R s)
  case atStart=>exact⟨_,_,f,by omega,zH.o,Gu.o⟩
  case round=>
   obtain⟨q,N,f',hf',hls,hfr⟩:=hrel;have Qr:=ae hfr;have Ae:=ae hls.dq;have jD:=ae hls.ok;have iO:Hd (∀c,q=.error c->G=.error c):=hls.er;obtain⟨-,-,er,c5',hz⟩:=hls.dq.cells;have HZ:=ae hz;clear hls hfr hz
   match q,Ae,jD,iO,HZ with
   | .error c,Ae,_,iO,HZ =>
    have aJ:=ae (iO.o c rfl);have hz':(er == 0)=false:=HZ.o;go_wp2_with (go_at_call 43;refine(CM.o 93 (by decide) (.error c) N _ Ae.o).mono ?_;rintro e w5 ⟨rfl,hd5,hf5⟩;obtain⟨k7,kf7,-⟩:=hd5.cells);have hS:=hd5.setD d;have ecast:(.int .i64 ((m:Int)-1):Value)=.int .i64 (d:Nat):=by have:=Y6.o;congr 1;omega
    refine bodyPost_end (results_none rfl _ _ _) rfl ?_;rw[ecast,aJ.o];exact⟨rfl,fun j ns' hh=>(by cases hh),fun c' hh=>(by injection hh with hh;subst hh;exact hS.1),(Qr.o.two hf5).two hS.2⟩
   | .ok j,Ae,jD,_,HZ =>
    have hz':(er == 0)=true:=HZ.o;obtain⟨a1,a2,a3,a4,a5,a6,a7,a8⟩:=jD.o j rfl;have HA1:=ae a1;have BK:=ae (Gt Ae.o);have Kz:=ae (fun j1 N1 (h:val s.data.toList f' j u [] j m N=.ok (j1,N1))=>HAD.o f' j N j1 N1 a8 a2 a3 a4 a5 h);have A8:=ae (fun w (h:Dt w B P R s now m (.ok j) N own)=>Y5.o f' hf' j N w h a2 a3 a4 a5 a6 a7);have gK:Hd (∀w,Dq w B P R s now m (.ok j) N own->Calls prog 39 #[.pointer (some ⟨R,0,none⟩),.int .u8 93] w fun e w'=>e=.returned (.bool (decide (nx s.data.toList j=93)))/\Dq w' B P R s now m (.ok j) N own/\DFr B P w w'):=fun w h=>CI.o (.ok j) N w h
    have yL:Hd (¬ay N u=2/\u<N.length):=⟨a5,a4⟩;clear a1 a2 a3 a5
    by_cases h93:nx s.data.toList j=93
    ·rw[decide_eq_true h93]at gK;have aJ:Hd (G=.ok (j+1,N)):=by
      show G=_;rw[<-HA1.o];unfold lh;rw[if_pos h93]
     have pU:Hd ((Except.bind (.ok j) fun i=>must s.data.toList i 93:Rs Nat)=.ok (j+1)):=by
      show must s.data.toList j 93=_;unfold must;rw[if_pos h93]
     clear h93;go_wp2_with (first|(go_at_call 39;refine(gK.o _ Ae.o).mono ?_;rintro e w5 ⟨rfl,hd5,hf5⟩)|(go_at_call 43;refine(CM.o 93 (by decide) (.ok j) N _ hd5).mono ?_;rintro e w6 ⟨rfl,hd6,tu⟩;obtain⟨k7,kf7,-⟩:=hd6.cells));rw[pU.o]at hd6;have hS:=hd6.setD d;have ecast:(.int .i64 ((m:Int)-1):Value)=.int .i64 (d:Nat):=by have:=Y6.o;congr 1;omega
     refine bodyPost_end (results_none rfl _ _ _) rfl ?_;rw[ecast,aJ.o];exact⟨rfl,fun j ns' hh=>(by cases hh;exact hS.1),fun c' hh=>(by cases hh),((Qr.o.two hf5).two tu).two hS.2⟩
    ·rw[decide_eq_false h93]at gK;have DJ:=ae ((ahl s.data.toList f' j u m N h93).symm.trans HA1.o);obtain⟨V,hV⟩:=zN (val s.data.toList f' j u [] j m N);rw[hV]at A8 DJ Kz;clear hV h93;go_wp2_with (first|(go_at_call 39;refine(gK.o _ Ae.o).mono ?_;rintro e w5 ⟨rfl,hd5,hf5⟩;obtain⟨-,g1,-,-,-,-,-⟩:=Dt.cells hd5)|(go_at_call 59;refine(A8.o _ hd5).mono ?_));rintro e w6 ⟨rfl,h1,h2,tu⟩;have HF6:=ae ((Qr.o.two hf5).two tu);clear hd5 hf5 tu g1
     match V,h1,h2,DJ,Kz with
     | .error c,_,h2,DJ,_ =>
      have HD6:Hd (Dq w6 B P R s now m (.error c) N own):=h2 c rfl;have aJ:Hd (G=.error c):=DJ.o.symm;clear h1 h2;go_wp2_with (go_at_call 116;refine(DI.o (.error c) N _ HD6.o).mono ?_);rintro e w7 ⟨rfl,hd7,jY⟩;have HD7:Hd (Dq w7 B P R s now m (.error c) N own):=hd7;have ry:=ae (HF6.o.two jY);clear hd7 jY;have wO:Hd (∀w,Dq w B P R s now m (.error c) N own->Calls prog 39 #[.pointer (some ⟨R,0,none⟩),.int .u8 93] w fun e w'=>e=.returned (.bool false)/\Dq w' B P R s now m (.error c) N own/\DFr B P w w'):=fun w h=>CI.o (.error c) N w h
      go_wp2_with (first|(go_at_call 39;refine(wO.o _ HD7.o).mono ?_;rintro e w8 ⟨rfl,hd8,xg⟩)|(go_at_call 43;refine(CM.o 44 (by decide) (.error c) N _ hd8).mono ?_;rintro e w9 ⟨rfl,hd9,Qs⟩)|(go_at_call 116;refine(DI.o (.error c) N _ hd9).mono ?_;rintro e w10 ⟨rfl,hd10,Qu⟩));refine⟨⟨.error c,N,f',hf',⟨hd10,fun j hj=>(by cases hj),fun c' hc=>(by injection hc with hc;subst hc;exact aJ.o)⟩,((ry.o.two xg).two Qs).two Qu⟩,?_⟩;rw[BK.o,Qq hd10];omega
     | .ok (j1,N1),h1,_,DJ,Kz =>
      have HD6:Hd (Dq w6 B P R s now m (.ok j1) N1 own):=h1 j1 N1 rfl;have AD:=Kz.o j1 N1 rfl;have yM:=ae AD;obtain⟨g,rfl⟩:∃g,f'=g+1:=⟨f'-1,by omega⟩;have Y7:Hd (lb s.data.toList (g+1) u m N1 (gap s.data.toList (s.data.toList.length+1) j1)=G):=DJ.o;have o6:Hd (∀j2,gap s.data.toList (s.data.toList.length+1) j1=.ok j2->j1<=j2/\j2<=s.size):=fun j2 hh=>by
       have e1:=AD.en;have:=xO s.data.toList _ j1 j2 (by omega) hh;omega
      have vX:Hd (¬ay N1 u=2/\u<N1.length):=⟨by rw[AD.kd u yL.o.2];exact yL.o.1,by have:=AD.lo;have:=yL.o.2;omega⟩;clear h1 AD;go_wp2_with (go_at_call 116;refine(DI.o (.ok j1) N1 _ HD6.o).mono ?_);rintro e w7 ⟨rfl,hd7,jY⟩;have HD7:Hd (Dq w7 B P R s now m (gap s.data.toList (s.data.toList.length+1) j1) N1 own):=hd7;have ry:=ae (HF6.o.two jY);clear hd7 jY;have hs1:=ahq s.data.toList (g+1) u m N1 _ G Y7.o;have hs2:=ahr s.data.toList g u m N1 _ G Y7.o;obtain⟨q2,hq2⟩:=zN (gap s.data.toList (s.data.toList.length+1) j1);rw[hq2]at HD7 o6 hs1 hs2;have wO:=ae (fun w (h:Dq w B P R s now m q2 N1 own)=>CI.o q2 N1 w h);obtain⟨b,hb⟩:=zN (iL s.data.toList q2 93);rw[hb]at wO
      cases b with
      |true=>
       obtain⟨j2,hj2,hlh⟩:=hs1 hb;subst hj2;have HJ2:=o6.o j2 rfl;have HLH:=ae hlh;have ak6:=HJ2.1;have ahu:=HJ2.2;clear hs1 hs2 hb hlh hq2 HJ2;go_wp2_with (go_at_call 39;refine(wO.o _ HD7.o).mono ?_;rintro e w8 ⟨rfl,hd8,xg⟩);have e1:=yM.o.hi;have e2:=yM.o.fw;refine⟨⟨.ok j2,N1,g+1,hf',⟨hd8,fun j hj=>(by cases hj;exact⟨HLH.o,yM.o.wf,yM.o.wt,vX.o.2,vX.o.1,by omega,by omega,ahu⟩),fun c' hc=>(by cases hc)⟩,ry.o.two xg⟩,?_⟩;rw[BK.o,Gt hd8];omega
      |false=>
       obtain⟨hn1,hn2⟩:=hs2 hb (fun j hj=>by have:=(o6.o j hj).2;omega);have nX:=ae hn1;have BI:Hd (∀c,((q2.bind fun i=>must s.data.toList i 44).bind (gap s.data.toList (s.data.toList.length+1)))=.error c->G=.error c):=hn2;clear hs1 hs2 hb hn1 hn2 hq2;go_wp2_with (first|(go_at_call 39;refine(wO.o _ HD7.o).mono ?_;rintro e w8 ⟨rfl,hd8,xg⟩)|(go_at_call 43;refine(CM.o 44 (by decide) q2 N1 _ hd8).mono ?_;rintro e w9 ⟨rfl,hd9,Qs⟩)|(go_at_call 116;refine(DI.o _ N1 _ hd9).mono ?_;rintro e w10 ⟨rfl,hd10,Qu⟩));have e1:=yM.o.hi;have e2:=yM.o.fw;refine⟨⟨_,N1,g,by omega,⟨hd10,fun j4 hj=>?_,fun c' hc=>BI.o c' hc⟩,((ry.o.two xg).two Qs).two Qu⟩,?_⟩
       ·obtain⟨x1,x2,j2,x3,x4⟩:=nX.o j4 hj;have x5:=o6.o j2 x3;exact⟨x1,yM.o.wf,yM.o.wt,vX.o.2,vX.o.1,by omega,by omega,by omega⟩
       ·rw[BK.o];obtain⟨q4,hq4⟩:=zN (((q2.bind fun i=>must s.data.toList i 44).bind (gap s.data.toList (s.data.toList.length+1))));rw[hq4]at hd10
        match q4,hq4,hd10 with
        | .error c,_,hd10=>rw[Qq hd10];omega
        | .ok j4,hq4,hd10 =>
         obtain⟨x1,x2,j2,x3,x4⟩:=nX.o j4 hq4;have x5:=o6.o j2 x3;rw[Gt hd10];omega
theorem ahv:∀f,Qa f/\J6 f:=by
 intro f
 induction f using Nat.strongRecOn with
 |ind f ih=>
  have hl:=ahs f fun g hg=>(ih g hg).1
  refine⟨?_,hl⟩
  cases f with
  |zero=>exact fun B P R s own now i up k p d ns w h hs W V hu hk2 hd hsz hf=>absurd hf (by omega)
  |succ f=>exact ahj f (ih f (by omega)).2
def KA(B P R:Nat)(s:ByteArray)(now de:Nat)(q:Rs Nat)(ns:List Tn)(own:List Nat)(g:Rs (Nat × List Tn))(w:World)(e:Ending)(w':World):Prop:=(∀n ns',g=.ok (n,ns')->e=.returned (.int .i64 (n:Nat))/\Dt w' B P R s now de q ns' own)/\(∀c,g=.error c->e=.returned (.int .i64 (-1))/\∃ns',Dt w' B P R s now de q ns' own)/\DFr B P w w'
theorem Dt.same{now:Nat}{q:Rs Nat}{own:List Nat}(h:Dt w B P R s now de q ns own):DFr B P w w:=DFr.refl w
theorem KC(h:aK ns t k=none):oD ns t k=-1:=by unfold oD;rw[h]
theorem KE{q:Nat}(h:aK ns t k=some q):oD ns t k=(q:Int):=by unfold oD;rw[h]
theorem ahw(B P R:Nat)(s:ByteArray)(now de j:Nat)(ns:List Tn)(own:List Nat)(t:Nat)(k:List UInt8)(p:Nat)(w:World)(h:Dt w B P R s now de (.ok j) ns own)(W:WF ns own)(V:WT ns)(ht:t<ns.length)(hsz:ns.length<=1000000) :
  Calls prog 56 #[.pointer (some ⟨R,0,none⟩),.int .i64 (t:Nat),.string ⟨k.toArray⟩,.int .i64 (p:Nat)] w (KA B P R s now de (.ok j) ns own (gm ns t k p) w):=by
 have HD:=ae h;have CA:=ae (wS B P R s now de (.ok j) ns own t 0 0 k [] p w h W ht hsz);obtain⟨h1,h2,N,c,O,oc,xs,ks,h3,h4,h5,h6⟩:=h;obtain⟨-,-,c2,-,-,-,-,-,-⟩:=h6.2.cells;have CK:=ae (JV w B P ns _ own N c _ xs ks t k h5 W ht hsz);obtain⟨L,hL⟩:=zN (ns.length);have HL:=ae hL
 cases hk:aK ns t k with
 |none=>
  rw[KC hk]at CK;have HST:Hd (gm ns t k p=.ok (ns.length,addN ns t ⟨0,k,[],0,[],p⟩)):=by show _=_;unfold gm;rw[hk]
  rw[HST.o];rw[hL]at c2 CK;clear h1 h2 h3 h4 h5 h6 W V hk hL;go_enter func56,ntmps56;go_wp2_with (first|(go_at_call 15;refine CK.o.mono ?_;rintro e w' ⟨rfl,rfl⟩)|(go_at_call 26;refine CA.o.mono ?_;rintro e w2 ⟨rfl,hd2,hf2⟩));refine bodyPost_ret (results_tmp (t:=8) rfl _ _ _) rfl ?_;exact⟨fun n ns' hh=>(by cases hh;exact⟨rfl,hd2⟩),fun c hh=>(by cases hh),hf2⟩
 |some q=>
  rw[KE hk]at CK;obtain⟨hm,-⟩:=ui hk;have hq:=W.lt t q hm;obtain⟨n0,-,-,-,n4,-,-⟩:=h5.node q hq;have hkd:ay ns q=ns[q].kd:=by unfold ay;rw[List.getElem?_eq_getElem hq]
  have Y8:¬(q:Int)<0:=by omega
  have HST:Hd (gm ns t k p=if ns[q].kd=0 then .ok (q,ns) else if ns[q].kd=2 then .ok (ns[q].ks.getLastD 0,ns) else .error (5,p)):=by
   show _=_;unfold gm;rw[hk];simp only[hkd,List.getElem?_eq_getElem hq]
  have bJ:q<L:=by omega
  have hL1:L<=1000000:=by omega
  by_cases hz:ns[q].kd=0
  ·rw[HST.o,if_pos hz];rw[hz]at n0;rw[hL]at c2 CK;clear h1 h2 h3 h4 h5 h6 W V hk hm hkd HST hz n4 CA hL;go_enter func56,ntmps56;go_wp2_with (go_at_call 15;refine CK.o.mono ?_;rintro e w' ⟨rfl,rfl⟩);refine bodyPost_ret (results_tmp (t:=8) rfl _ _ _) rfl ?_;exact⟨fun n ns' hh=>(by cases hh;exact⟨rfl,HD.o⟩),fun c hh=>(by cases hh),DFr.refl _⟩
  ·have hbz:(ns[q].kd == 0)=false:=by simpa using hz
   by_cases hz2:ns[q].kd=2
   ·rw[HST.o,if_neg hz,if_pos hz2];have hne:ns[q].ks≠[]:=by
     have:=(V q (by rw[hkd];exact hz2)).1;unfold aA at this;rw[List.getElem?_eq_getElem hq]at this;exact this
    have hrow:=h5.kid q hq;obtain⟨o,cp,hv⟩:=nV hrow;rw[hv]at n4 hrow;have hlen:ns[q].ks.length<=1000000:=by have:=W.len q;unfold aA at this;rw[List.getElem?_eq_getElem hq]at this;simp only[]at this;omega
    have hpos:=List.length_pos_iff.2 hne;obtain⟨g,cap,hvf,-,-⟩:=hrow.form hpos;injection hvf with ho _ hcc
    subst ho;have hlast:ns[q].ks[ns[q].ks.length-1]?=some (ns[q].ks.getLastD 0):=by
     rw[<-List.getLast?_eq_getElem?];rw[List.getLast?_eq_some_getLast hne,List.getLastD_eq_getLast?,List.getLast?_eq_some_getLast hne];rfl
    have cg:=hrow.cells (g:=g) rfl (ns[q].ks.length-1) (.int .i64 (ns[q].ks.getLastD 0:Nat)) (by rw[List.getElem?_map,hlast];rfl);rw[uA]at cg;obtain⟨M,hM⟩:=zN (ns[q].ks.length);obtain⟨y,hy⟩:=zN (ns[q].ks.getLastD 0);obtain⟨m,hm'⟩:∃m,M=m+1:=⟨M-1,by omega⟩;rw[hM,hm']at n4 cg;rw[hy]at cg ⊢;rw[Nat.add_sub_cancel]at cg;rw[hz2]at n0;rw[hL]at c2 CK;have hml:m<=1000000:=by omega
    clear h1 h2 h3 h4 h5 h6 W V hk hm hkd HST hz hz2 CA hne hrow hv hlen hpos hcc hlast hM hy hm' hbz hL;go_enter func56,ntmps56;go_wp2_with (go_at_call 15;refine CK.o.mono ?_;rintro e w' ⟨rfl,rfl⟩);refine bodyPost_ret (results_tmp (t:=8) rfl _ _ _) rfl ?_;exact⟨fun n ns' hh=>(by cases hh;exact⟨rfl,HD.o⟩),fun c hh=>(by cases hh),DFr.refl _⟩
   ·have hb2:(ns[q].kd == 2)=false:=by simpa using hz2
    rw[HST.o,if_neg hz,if_neg hz2];obtain⟨v,hv⟩:=zN (ns[q].kd);rw[hv]at n0 hbz hb2;rw[hL]at c2 CK;clear h1 h2 h3 h4 h5 h6 W V hk hm hkd HST hz hz2 CA n4 hv hL;go_enter func56,ntmps56;go_wp2_with (go_at_call 15;refine CK.o.mono ?_;rintro e w' ⟨rfl,rfl⟩);refine bodyPost_ret (results_tmp (t:=8) rfl _ _ _) rfl ?_;exact⟨fun n ns' hh=>(by cases hh),fun c hh=>⟨rfl,ns,HD.o⟩,DFr.refl _⟩
theorem Dt.parts{now:Nat}{own:List Nat}(h:Dt w B P R s now de (.ok j) ns own):∃N c O oc,w.cell? ⟨R,2,none⟩=some (.slice (some ⟨N,0,none⟩) ns.length c)/\w.cell? ⟨R,3,none⟩=some (.slice (some ⟨O,0,none⟩) ns.length oc)/\(∀q (hq:q<ns.length),w.cell? ⟨N,q*6,none⟩=some (.int .i64 ns[q].kd))/\(∀q,q<ns.length->w.cell? ⟨O,q,none⟩=some (.bool (decide (q∈own))))/\∀t k,WF ns own->t<ns.length->ns.length<=1000000->Calls prog 15 #[.slice (some ⟨N,0,none⟩) ns.length c,.int .i64 (t:Nat),.string ⟨k.toArray⟩] w fun e w'=>e=.returned (.int .i64 (oD ns t k))/\w'=w:=by
 obtain⟨h1,h2,N,c,O,oc,xs,ks,h3,h4,h5,h6⟩:=h;obtain⟨-,-,c2,c3,-,-,-,-,-⟩:=h6.2.cells;exact⟨N,c,O,oc,c2,c3,fun q hq=>(h5.node q hq).1,fun q hq=>(h5.flagAt q hq).1,fun t k W ht hs=>JV w B P ns _ own N c _ xs ks t k h5 W ht hs⟩
theorem Qv(ns:List Tn)(t:Nat)(x:Tn)(ht:t<ns.length)(hq:ns.length<(addN ns t x).length):((addN ns t x)[ns.length]'hq).kd=x.kd:=by
 have:=eX ns t x ht ns.length;rw[if_pos rfl]at this;unfold ay at this;rw[List.getElem?_eq_getElem hq]at this;exact this
theorem ahx(B P R:Nat)(s:ByteArray)(now de j:Nat)(ns:List Tn)(own:List Nat)(t:Nat)(k:List UInt8)(p:Nat)(w:World)(h:Dt w B P R s now de (.ok j) ns own)(W:WF ns own)(ht:t<ns.length)(hsz:ns.length<=900000) :
  Calls prog 57 #[.pointer (some ⟨R,0,none⟩),.int .i64 (t:Nat),.string ⟨k.toArray⟩,.int .i64 (p:Nat),.bool true] w (KA B P R s now de (.ok j) ns own (gz ns t k p) w):=by
 have HD:=ae h;obtain⟨N,c,O,oc,c2,c3,hkd,hfl,hck⟩:=h.parts;have CK:=ae (hck t k W ht (by omega))
 cases hk:aK ns t k with
 |none=>
  rw[KC hk]at CK;have HST:Hd (gz ns t k p=.ok (ns.length+1,addN (addN ns t ⟨2,k,[],0,[],p⟩) ns.length ⟨0,[],[],0,[],p⟩)):=by show _=_;unfold gz;rw[hk]
  rw[HST.o];have W1:=rU ns own t ⟨2,k,[],0,[],p⟩ rfl ht W;have hl1:(addN ns t ⟨2,k,[],0,[],p⟩).length=ns.length+1:=bW _ _ _;have hkl:=Qv ns t ⟨2,k,[],0,[],p⟩ ht (by omega);obtain⟨L,hL⟩:=zN (ns.length);obtain⟨M,hM⟩:=zN (addN ns t ⟨2,k,[],0,[],p⟩);have CA:Hd (Calls prog 26 #[.pointer (some ⟨R,0,none⟩),.int .i64 (t:Nat),.agg #[.int .i64 2,.string ⟨k.toArray⟩,.string ⟨#[]⟩,.int .i64 0,.slice none 0 0,.int .i64 (p:Nat)]] w fun e w'=>e=.returned (.int .i64 (L:Nat))/\Dt w' B P R s now de (.ok j) M own/\DFr B P w w'):=by
   rw[<-hM,<-hL];exact wS B P R s now de (.ok j) ns own t 2 0 k [] p w h W ht (by omega)
  rw[hM]at W1 hl1;have Gv:∀(hq:L<M.length),(M[L]'hq).kd=2:=fun hq=>by
   have:=Qv ns t ⟨2,k,[],0,[],p⟩ ht (by omega);subst hM hL;exact this
  have CB:Hd (∀w,Dt w B P R s now de (.ok j) M own->Calls prog 26 #[.pointer (some ⟨R,0,none⟩),.int .i64 (L:Nat),.agg #[.int .i64 0,.string ⟨#[]⟩,.string ⟨#[]⟩,.int .i64 0,.slice none 0 0,.int .i64 (p:Nat)]] w fun e w'=>e=.returned (.int .i64 ((L:Int)+1))/\Dt w' B P R s now de (.ok j) (addN M L ⟨0,[],[],0,[],p⟩) own/\DFr B P w w'):=fun w h=>by
   have:=wS B P R s now de (.ok j) M own L 0 0 [] [] p w h W1 (by omega) (by omega);refine this.mono ?_;rintro e w' ⟨rfl,a,b⟩;refine⟨?_,a,b⟩;rw[hl1,hL];rfl
  rw[hM];rw[hL]at c2 CK hl1 ⊢;have zA:=ae Gv;have Y9:=hl1;have Qw:L<=900000:=by omega
  have qV:Hd (∀w',Dt w' B P R s now de (.ok j) M own->∃N1 c1,w'.cell? ⟨R,2,none⟩=some (.slice (some ⟨N1,0,none⟩) (L+1) c1)/\w'.cell? ⟨N1,L*6,none⟩=some (.int .i64 2)):=fun w' hd=>by
   obtain⟨N1,c1,O1,oc1,x1,x2,x3,-,-⟩:=hd.parts;have hq:L<M.length:=by omega
   have x5:=x3 L hq;rw[zA.o hq]at x5;rw[Y9]at x1;exact⟨N1,c1,x1,x5⟩
  clear h W hk HST hkl Gv hck hfl hkd hL hM W1 hl1 Y9 ht hsz;go_enter func57,ntmps57;go_wp2_with (first|(go_at_call 15;refine CK.o.mono ?_;rintro e w' ⟨rfl,rfl⟩)|(go_at_call 26;refine CA.o.mono ?_));rintro e w2 ⟨rfl,hd2,hf2⟩;obtain⟨N1,c1,x1,x5⟩:=qV.o w2 hd2;have HD2:=ae hd2;have HF2:=ae hf2;clear hd2 hf2 c2 c3;go_wp2_with (go_at_call 26;refine(CB.o _ HD2.o).mono ?_;rintro e w3 ⟨rfl,hd3,hf3⟩);refine bodyPost_ret (results_tmp (t:=10) rfl _ _ _) rfl ?_;exact⟨fun n ns' hh=>(by cases hh;exact⟨rfl,hd3⟩),fun c hh=>(by cases hh),HF2.o.two hf3⟩
 |some q=>
  rw[KE hk]at CK;obtain⟨hm,-⟩:=ui hk;have hq:=W.lt t q hm;have n0:=hkd q hq;have hkq:ay ns q=ns[q].kd:=by unfold ay;rw[List.getElem?_eq_getElem hq]
  have Y8:¬(q:Int)<0:=by omega
  have HST:Hd (gz ns t k p=if ns[q].kd=2 then .ok (ns.length,addN ns q ⟨0,[],[],0,[],p⟩) else .error (5,p)):=by
   show _=_;unfold gz;rw[hk];simp only[hkq]
  rw[HST.o];obtain⟨L,hL⟩:=zN (ns.length);have bJ:q<L:=by omega
  have Qw:L<=900000:=by omega
  have CB:Hd (Calls prog 26 #[.pointer (some ⟨R,0,none⟩),.int .i64 (q:Nat),.agg #[.int .i64 0,.string ⟨#[]⟩,.string ⟨#[]⟩,.int .i64 0,.slice none 0 0,.int .i64 (p:Nat)]] w fun e w'=>e=.returned (.int .i64 (L:Nat))/\Dt w' B P R s now de (.ok j) (addN ns q ⟨0,[],[],0,[],p⟩) own/\DFr B P w w'):=by
   rw[<-hL];exact wS B P R s now de (.ok j) ns own q 0 0 [] [] p w h W hq (by omega)
  obtain⟨v,hv⟩:=zN (ns[q].kd);rw[hv]at n0 ⊢;rw[hL]at c2 CK ⊢;clear h W hk HST hck hfl hkd hL hm hkq hv hq ht hsz
  by_cases h2:v=2
  ·have hb:(v != 2)=false:=by simpa using h2
   rw[if_pos h2];clear h2;go_enter func57,ntmps57;go_wp2_with (first|(go_at_call 15;refine CK.o.mono ?_;rintro e w' ⟨rfl,rfl⟩)|(go_at_call 26;refine CB.o.mono ?_;rintro e w3 ⟨rfl,hd3,hf3⟩));refine bodyPost_ret (results_tmp (t:=10) rfl _ _ _) rfl ?_;exact⟨fun n ns' hh=>(by cases hh;exact⟨rfl,hd3⟩),fun c hh=>(by cases hh),hf3⟩
  ·have hb:(v != 2)=true:=by simpa using h2
   rw[if_neg h2];clear h2;go_enter func57,ntmps57;go_wp2_with (go_at_call 15;refine CK.o.mono ?_;rintro e w' ⟨rfl,rfl⟩);refine bodyPost_ret (results_tmp (t:=10) rfl _ _ _) rfl ?_;exact⟨fun n ns' hh=>(by cases hh),fun c hh=>⟨rfl,ns,HD.o⟩,DFr.refl _⟩
theorem ahy(B P R:Nat)(s:ByteArray)(now de j:Nat)(ns:List Tn)(own:List Nat)(t:Nat)(k:List UInt8)(p:Nat)(w:World)(h:Dt w B P R s now de (.ok j) ns own)(W:WF ns own)(ht:t<ns.length)(hsz:ns.length<=900000) :
  Calls prog 57 #[.pointer (some ⟨R,0,none⟩),.int .i64 (t:Nat),.string ⟨k.toArray⟩,.int .i64 (p:Nat),.bool false] w (KA B P R s now de (.ok j) ns own (gy ns own t k p) w):=by
 have HD:=ae h;obtain⟨N,c,O,oc,c2,c3,hkd,hfl,hck⟩:=h.parts;have CK:=ae (hck t k W ht (by omega))
 cases hk:aK ns t k with
 |none=>
  rw[KC hk]at CK;have HST:Hd (gy ns own t k p=.ok (ns.length,addN ns t ⟨0,k,[],0,[],p⟩)):=by show _=_;unfold gy;rw[hk]
  rw[HST.o];have hl1:(addN ns t ⟨0,k,[],0,[],p⟩).length=ns.length+1:=bW _ _ _;have hno:¬ns.length∈own:=fun hm=>by have:=W.own _ hm;omega
  obtain⟨L,hL⟩:=zN (ns.length);obtain⟨M,hM⟩:=zN (addN ns t ⟨0,k,[],0,[],p⟩);have CA:Hd (Calls prog 26 #[.pointer (some ⟨R,0,none⟩),.int .i64 (t:Nat),.agg #[.int .i64 0,.string ⟨k.toArray⟩,.string ⟨#[]⟩,.int .i64 0,.slice none 0 0,.int .i64 (p:Nat)]] w fun e w'=>e=.returned (.int .i64 (L:Nat))/\Dt w' B P R s now de (.ok j) M own/\DFr B P w w'):=by
   rw[<-hM,<-hL];exact wS B P R s now de (.ok j) ns own t 0 0 k [] p w h W ht (by omega)
  have Gv:∀(hq:L<M.length),(M[L]'hq).kd=0:=fun hq=>by
   have:=Qv ns t ⟨0,k,[],0,[],p⟩ ht (by omega);subst hM hL;exact this
  rw[hM];rw[hM]at hl1;rw[hL]at c2 CK hl1 hno ⊢;have zA:=ae Gv;have Qw:L<=900000:=by omega
  have qV:Hd (∀w',Dt w' B P R s now de (.ok j) M own->∃N1 c1 O1 oc1,w'.cell? ⟨R,2,none⟩=some (.slice (some ⟨N1,0,none⟩) (L+1) c1)/\w'.cell? ⟨N1,L*6,none⟩=some (.int .i64 0)/\w'.cell? ⟨R,3,none⟩=some (.slice (some ⟨O1,0,none⟩) (L+1) oc1)/\w'.cell? ⟨O1,L,none⟩=some (.bool false)):=fun w' hd=>by
   obtain⟨N1,c1,O1,oc1,x1,x2,x3,x4,-⟩:=hd.parts;have hq:L<M.length:=by omega
   have x5:=x3 L hq;have x6:=x4 L hq;rw[zA.o hq]at x5;rw[decide_eq_false hno]at x6;rw[hl1]at x1 x2;exact⟨N1,c1,O1,oc1,x1,x5,x2,x6⟩
  clear h W hk HST Gv hck hfl hkd hL hM hl1 ht hsz hno;go_enter func57,ntmps57;go_wp2_with (first|(go_at_call 15;refine CK.o.mono ?_;rintro e w' ⟨rfl,rfl⟩)|(go_at_call 26;refine CA.o.mono ?_));rintro e w2 ⟨rfl,hd2,hf2⟩;obtain⟨N1,c1,O1,oc1,x1,x5,x2,x6⟩:=qV.o w2 hd2;have HD2:=ae hd2;have HF2:=ae hf2;clear hd2 hf2 c2 c3;go_wp2;refine bodyPost_ret (results_tmp (t:=10) rfl _ _ _) rfl ?_;exact⟨fun n ns' hh=>(by cases hh;exact⟨rfl,HD2.o⟩),fun c hh=>(by cases hh),HF2.o⟩
 |some q=>
  rw[KE hk]at CK;obtain⟨hm,-⟩:=ui hk;have hq:=W.lt t q hm;have n0:=hkd q hq;have o0:=hfl q hq;have hkq:ay ns q=ns[q].kd:=by unfold ay;rw[List.getElem?_eq_getElem hq]
  have Y8:¬(q:Int)<0:=by omega
  have HST:Hd (gy ns own t k p=if ns[q].kd=0/\¬q∈own then .ok (q,ns) else .error (5,p)):=by
   show _=_;unfold gy;rw[hk];simp only[hkq]
  rw[HST.o];obtain⟨L,hL⟩:=zN (ns.length);have bJ:q<L:=by omega
  have Qw:L<=900000:=by omega
  obtain⟨v,hv⟩:=zN (ns[q].kd);obtain⟨b,hb⟩:=zN (decide (q∈own));rw[hv]at n0 ⊢;rw[hb]at o0;rw[hL]at c2 c3 CK;have HB:=ae hb;clear h W hk HST hck hfl hkd hL hm hkq hv hq ht hsz hb
  by_cases h0:v=0
  ·have hb0:(v != 0)=false:=by simpa using h0
   cases b with
   |false=>
    rw[if_pos ⟨h0,of_decide_eq_false HB.o⟩];clear h0;go_enter func57,ntmps57;go_wp2_with (go_at_call 15;refine CK.o.mono ?_;rintro e w' ⟨rfl,rfl⟩);refine bodyPost_ret (results_tmp (t:=10) rfl _ _ _) rfl ?_;exact⟨fun n ns' hh=>(by cases hh;exact⟨rfl,HD.o⟩),fun c hh=>(by cases hh),DFr.refl _⟩
   |true=>
    rw[if_neg (fun h=>h.2 (of_decide_eq_true HB.o))];clear h0;go_enter func57,ntmps57;go_wp2_with (go_at_call 15;refine CK.o.mono ?_;rintro e w' ⟨rfl,rfl⟩);refine bodyPost_ret (results_tmp (t:=10) rfl _ _ _) rfl ?_;exact⟨fun n ns' hh=>(by cases hh),fun c hh=>⟨rfl,ns,HD.o⟩,DFr.refl _⟩
  ·have hb0:(v != 0)=true:=by simpa using h0
   rw[if_neg (fun h=>h0 h.1)];clear h0;go_enter func57,ntmps57;go_wp2_with (go_at_call 15;refine CK.o.mono ?_;rintro e w' ⟨rfl,rfl⟩);refine bodyPost_ret (results_tmp (t:=10) rfl _ _ _) rfl ?_;exact⟨fun n ns' hh=>(by cases hh),fun c hh=>⟨rfl,ns,HD.o⟩,DFr.refl _⟩
def ahz(B P R:Nat)(s:ByteArray)(now de i:Nat)(ns:List Tn)(own:List Nat)(g:Rs (List UInt8 × Nat))(w:World)(e:Ending)(w':World):Prop:=(∀t j,g=.ok (t,j)->e=.returned (.tuple #[.string ⟨t.toArray⟩,.int .i64 (i:Nat)])/\Dt w' B P R s now de (.ok j) ns own)/\(∀c,g=.error c->∃t:List UInt8,e=.returned (.tuple #[.string ⟨t.toArray⟩,.int .i64 (i:Nat)])/\Dt w' B P R s now de (.error c) ns own)/\DFr B P w w'
theorem ahA(B P R:Nat)(s:ByteArray)(now de i:Nat)(ns:List Tn)(own:List Nat)(w:World)(h:Dt w B P R s now de (.ok i) ns own)(hs:s.size<=100000) :
  Calls prog 55 #[.pointer (some ⟨R,0,none⟩)] w (ahz B P R s now de i ns own (dw s.data.toList i) w):=by
 obtain⟨h1,h2,N,c,O,oc,xs,ks,h3,h4,h5,h6⟩:=h;refine(Wx R s _ _ now de i w h6.2 h6.1 (by omega)).mono ?_;rintro e w' ⟨a1,a2,a3⟩;refine⟨fun t j hg=>?_,fun c hg=>?_,sV h6 h1 h2 h5.hP a3⟩
 ·obtain⟨b1,b2⟩:=a1 t j hg;exact⟨b1,h1,h2,N,_,O,oc,xs,ks,h3,h4,h5.keepR h6.2 a3,b2⟩
 ·obtain⟨⟨t,-,b1⟩,b2⟩:=a2 c.1 c.2 hg;exact⟨t,b1,h1,h2,N,_,O,oc,xs,ks,h3,h4,h5.keepR h6.2 a3,b2⟩
def Gw(B P R:Nat)(s:ByteArray)(now:Nat)(own:List Nat)(g:Rs Sd)(w:World)(e:Ending)(w':World):Prop:=e=.returned (.tuple #[])/\(∀d,g=.ok d->Dt w' B P R s d.now 0 (.ok d.i) d.ns d.own)/\(∀c,g=.error c->∃now',Fq w' B P R s now' 0 c)/\DFr B P w w'
def Za(own:List Nat)(now:Nat):Rs (Nat × List Tn)->Rs Sd
 | .error e=>.error e
 | .ok (j,ns)=>.ok ⟨j,ns,own,now⟩
theorem ahB(l:List UInt8)(d:Sd)(c:Int × Nat)(h:dw l d.i=.error c):rdPair l d=.error c:=by unfold rdPair;rw[h]
theorem ahC(l:List UInt8)(d:Sd)(k:List UInt8)(j:Nat)(c:Int × Nat)(h:dw l d.i=.ok (k,j))(h2:must l (bl l j) 61=.error c):rdPair l d=.error c:=by unfold rdPair;rw[h];simp only[h2]
theorem ahD(l:List UInt8)(d:Sd)(k:List UInt8)(j j1 q:Nat)(h:dw l d.i=.ok (k,j))(h2:must l (bl l j) 61=.ok j1)(h3:aK d.ns d.now k=some q):rdPair l d=.error (5,d.i):=by unfold rdPair;rw[h];simp only[h2,h3]
theorem ahE(l:List UInt8)(d:Sd)(k:List UInt8)(j j1:Nat)(h:dw l d.i=.ok (k,j))(h2:must l (bl l j) 61=.ok j1)(h3:aK d.ns d.now k=none):rdPair l d=Za d.own d.now (val l (2*l.length+2) (bl l j1) d.now k d.i 0 d.ns):=by
 unfold rdPair;rw[h];simp only[h2,h3]
 cases val l (2*l.length+2) (bl l j1) d.now k d.i 0 d.ns<;>rfl
theorem Fq.now{now:Nat}{e:Int × Nat}(h:Fq w B P R s now de e):w.cell? ⟨R,4,none⟩=some (.int .i64 (now:Nat))/\w.cell? ⟨R,5,none⟩=some (.int .i64 e.1)/\(e.1 == 0)=false:=by
 obtain⟨L,O,⟨h1,j,h2,h3⟩,-⟩:=h;exact⟨h3.cells.2.2.2.2.1,h3.cells.2.2.2.2.2.1,by simpa using h1⟩
theorem Fq.drew{now:Nat}{c:Int × Nat}(h:Fq w B P R s now de c)(n:Nat):Fq (w.drewN n) B P R s now de c/\DFr B P w (w.drewN n):=by
 obtain⟨L,O,h1,h4,h5,h6⟩:=h;obtain⟨i,er,p,hd⟩:=h1.dd;have g:=az (ax w none) n;exact⟨⟨L,O,h1.grow g,h4,h5,h6⟩,DFr.gb g (Nat.le_of_lt (Nat.lt_of_le_of_lt h4 (aG hd))) h6⟩
theorem ahF(B P R:Nat)(s:ByteArray)(now i:Nat)(ns:List Tn)(own:List Nat)(w:World)(h:Dt w B P R s now 0 (.ok i) ns own)(W:WF ns own)(V:WT ns)(Zb:now<ns.length)(hk2:¬ay ns now=2)(hsz:ns.length+(s.size-i)<=700000)(hs:s.size<=100000) :
  Calls prog 41 #[.pointer (some ⟨R,0,none⟩)] w (Gw B P R s now own (rdPair s.data.toList ⟨i,ns,own,now⟩) w):=by
 have hl:s.data.toList.length=s.size:=by simp
 have CK:=ae (ahA B P R s now 0 i ns own w h hs);have CB:=ae (fun(q:Rs Nat) w (h:Dq w B P R s now 0 q ns own)=>YD B P R s now 0 ns own q w h hs);have CM:=ae (fun(q:Rs Nat) w (h:Dq w B P R s now 0 q ns own)=>P9 B P R s now 0 ns own q w h hs 61 (by decide));have Qx:=ae (fun(c:Int × Nat) (k:List UInt8) w (h:Fq w B P R s now 0 c)=>ahi B P R s now 0 c now k i w h hs);have jU:Hd (∀k j,dw s.data.toList i=.ok (k,j)->i<=j/\j<=s.size):=fun k j hh=>by
  have hi:=h.cells.2.2.2.2.2.1;have:=xK s.data.toList i k j (by omega) hh;omega
 obtain⟨G,hG⟩:=zN (rdPair s.data.toList ⟨i,ns,own,now⟩);have KF:Hd (∀c,dw s.data.toList i=.error c->G=.error c):=fun c hh=>by show G=_;rw[<-hG];exact ahB _ _ c hh
 have Gx:Hd (∀k j c,dw s.data.toList i=.ok (k,j)->must s.data.toList (bl s.data.toList j) 61=.error c->G=.error c):=fun k j c h1 h2=>by show G=_;rw[<-hG];exact ahC _ _ k j c h1 h2
 have qV:Hd (∀k j j1 q,dw s.data.toList i=.ok (k,j)->must s.data.toList (bl s.data.toList j) 61=.ok j1->aK ns now k=some q->G=.error (5,i)):=fun k j j1 q h1 h2 h3=>by show G=_;rw[<-hG];exact ahD _ _ k j j1 q h1 h2 h3
 have yN:Hd (∀k j j1,dw s.data.toList i=.ok (k,j)->must s.data.toList (bl s.data.toList j) 61=.ok j1->aK ns now k=none->G=Za own now (val s.data.toList (2*s.data.toList.length+2) (bl s.data.toList j1) now k i 0 ns)):=fun k j j1 h1 h2 h3=>by show G=_;rw[<-hG];exact ahE _ _ k j j1 h1 h2 h3
 rw[hG];obtain⟨K,hK⟩:=zN (dw s.data.toList i);rw[hK]at CK KF Gx qV yN jU;have DK:Hd (WF ns own/\WT ns/\now<ns.length/\¬ay ns now=2):=⟨W,V,Zb,hk2⟩
 -- the tail behind a fault
 clear h hG hK W V Zb hk2;go_enter func41,ntmps41;go_wp2_with (go_at_call 55;refine CK.o.mono ?_);rintro e w1 ⟨h1,h2,hf1⟩;have jo:=ae hf1;clear hf1
 match K,h1,h2,KF,Gx,qV,yN,jU with
 | .error c,_,h2,KF,_,_,_,_ =>
  obtain⟨t,rfl,hd1⟩:=h2 c rfl;have aJ:=ae (KF.o c rfl);have HD1:Hd (Dq w1 B P R s now 0 (.error c) ns own):=hd1.fq;clear h1 h2 hd1;go_wp2_with (first|(go_at_call 38;refine(CB.o (.error c) _ HD1.o).mono ?_;rintro e w2 ⟨rfl,hd2,hf2⟩)|(go_at_call 43;refine(CM.o (.error c) _ hd2).mono ?_));rintro e w3 ⟨rfl,hd3,hf3⟩;have HD3:Hd (Fq w3 B P R s now 0 c):=hd3;have HF3:=ae ((jo.o.two hf2).two hf3);clear hd2 hf2 hd3 hf3;obtain⟨a4,a5,a6⟩:=HD3.o.now;go_wp2;go_quiet (fail);have aF:=HD3.o.drew nq;have dH:Hd (Dq (w3.drewN nq) B P R s now 0 (.error c) ns own):=aF.1;have cZ:=ae (HF3.o.two aF.2);obtain⟨wA,hwA⟩:=zN (w3.drewN nq);rw[hwA]at dH cZ ⊢;clear hwA aF a4 a5 a6;go_wp2_with (go_at_call 38;refine(CB.o (.error c) _ dH.o).mono ?_);rintro e w4 ⟨rfl,hd4,hf4⟩;have HD4:Hd (Fq w4 B P R s now 0 c):=hd4;have Gu:=ae (cZ.o.two hf4);obtain⟨b4,-,-⟩:=HD4.o.now
  clear hd4 hf4;go_wp2_with (go_at_call 59;refine(Qx.o c t _ HD4.o).mono ?_;rintro e w5 ⟨rfl,hd5,hf5⟩);refine bodyPost_end (results_none rfl _ _ _) rfl ?_;rw[aJ.o];exact⟨rfl,fun d hh=>(by cases hh),fun c' hh=>(by injection hh with hh;subst hh;exact⟨now,hd5⟩),Gu.o.two hf5⟩
 | .ok (k,j),h1,_,_,Gx,qV,yN,jU =>
  obtain⟨rfl,hd1⟩:=h1 k j rfl;have HD1:Hd (Dq w1 B P R s now 0 (.ok j) ns own):=hd1;obtain⟨hij,hjs⟩:=jU.o k j rfl;have hbj:=jQ s.data.toList j (by omega);clear h1 hd1;go_wp2_with (first|(go_at_call 38;refine(CB.o (.ok j) _ HD1.o).mono ?_;rintro e w2 ⟨rfl,hd2,hf2⟩)|(go_at_call 43;refine(CM.o (.ok (bl s.data.toList j)) _ hd2).mono ?_));rintro e w3 ⟨rfl,hd3,hf3⟩;have HF3:=ae ((jo.o.two hf2).two hf3);have yO:Hd (Dq w3 B P R s now 0 (must s.data.toList (bl s.data.toList j) 61) ns own):=hd3;have Af:Hd (∀j1,must s.data.toList (bl s.data.toList j) 61=.ok j1->j<=j1/\j1<=s.size):=fun j1 hh=>by
   unfold must at hh;split at hh
   ·rename_i hx;have:=bD (l:=s.data.toList) (i:=bl s.data.toList j) (by omega);injection hh with hh
    omega
   ·cases hh
  obtain⟨q3,hq3⟩:=zN (must s.data.toList (bl s.data.toList j) 61);have Qy:=ae (fun c (hh:q3=.error c)=>Gx.o k j c rfl (hq3.trans hh));have Qz:=ae (fun j1 q (hh:q3=.ok j1) (h3:aK ns now k=some q)=>qV.o k j j1 q rfl (hq3.trans hh) h3);have QA:=ae (fun j1 (hh:q3=.ok j1) (h3:aK ns now k=none)=>yN.o k j j1 rfl (hq3.trans hh) h3);rw[hq3]at yO Af;clear hd2 hf2 hd3 hf3 hq3 hbj Gx qV yN
  match q3,yO,Af,Qy,Qz,QA with
  | .error c,yO,_,Qy,_,_ =>
   have aJ:=ae (Qy.o c rfl);have HD3:Hd (Fq w3 B P R s now 0 c):=yO.o;obtain⟨a4,a5,a6⟩:=HD3.o.now;go_wp2;go_quiet (fail);have aF:=HD3.o.drew nq;have dH:Hd (Dq (w3.drewN nq) B P R s now 0 (.error c) ns own):=aF.1;have cZ:=ae (HF3.o.two aF.2);obtain⟨wA,hwA⟩:=zN (w3.drewN nq);rw[hwA]at dH cZ ⊢;clear hwA aF a4 a5 a6;go_wp2_with (go_at_call 38;refine(CB.o (.error c) _ dH.o).mono ?_);rintro e w4 ⟨rfl,hd4,hf4⟩;have HD4:Hd (Fq w4 B P R s now 0 c):=hd4;have Gu:=ae (cZ.o.two hf4);obtain⟨b4,-,-⟩:=HD4.o.now;clear hd4 hf4;go_wp2_with (go_at_call 59;refine(Qx.o c k _ HD4.o).mono ?_;rintro e w5 ⟨rfl,hd5,hf5⟩);refine bodyPost_end (results_none rfl _ _ _) rfl ?_;rw[aJ.o];exact⟨rfl,fun d hh=>(by cases hh),fun c' hh=>(by injection hh with hh;subst hh;exact⟨now,hd5⟩),Gu.o.two hf5⟩
  | .ok j1,yO,Af,_,Qz,QA =>
   have HD3:Hd (Dt w3 B P R s now 0 (.ok j1) ns own):=yO.o;obtain⟨hj1,ahG⟩:=Af.o j1 rfl;obtain⟨x1,x2,N,cc,O,oc,xs,ks,x3,x4,x5,x6⟩:=HD3.o;obtain⟨-,-,c2,-,c4,c5,-,-,-⟩:=x6.2.cells;have Gy:=ae (fun n=>JV (w3.drewN n) B P ns _ own N cc _ xs ks now k (x5.gb (az (ax w3 none) n)) DK.o.1 DK.o.2.2.1 (by omega));have CF:=ae (fun w (h:Dt w B P R s now 0 (.ok j1) ns own)=>zX B P R s now 0 ns own j1 w h 5 (by decide) i);have hbl:=jQ s.data.toList j1 (by omega);have CV:Hd (∀w,Dt w B P R s now 0 (.ok (bl s.data.toList j1)) ns own->Calls prog 59 #[.pointer (some ⟨R,0,none⟩),.int .i64 (now:Nat),.string ⟨k.toArray⟩,.int .i64 (i:Nat)] w (uT B P R s now 0 own (val s.data.toList (2*s.data.toList.length+2) (bl s.data.toList j1) now k i 0 ns) w)):=fun w h=>(ahv _).1 B P R s own now _ now k i 0 ns w h hs DK.o.1 DK.o.2.1 DK.o.2.2.1 DK.o.2.2.2 (by omega) (by omega) (by omega)
   obtain⟨M,hM⟩:=zN (ns.length);rw[hM]at c2 Gy;have hMs:M<=700000:=by omega
   clear x1 x2 x3 x4 x5 x6 hM hbl hij hjs hj1 ahG hsz
   cases hk:aK ns now k with
   |some q=>
    rw[KE hk]at Gy;have aJ:=ae (Qz.o j1 q rfl hk);have hq0:(0:Int)<=(q:Int):=by omega
    have hq1:decide ((0:Int)<=(q:Int))=true:=by simp
    clear hk;go_wp2;go_quiet (first|(go_at_call 15;exact Calls.quiet_of_same (Gy.o _)));have aF:=HD3.o.drew nq;have dH:=ae aF.1;have cZ:=ae (HF3.o.two aF.2);obtain⟨wA,hwA⟩:=zN (w3.drewN nq);rw[hwA]at dH cZ ⊢;clear hwA aF c2 c4 c5;go_wp2_with (first|(go_at_call 58;refine(CF.o _ dH.o).mono ?_;rintro e w4 ⟨rfl,hd4,hf4⟩)|(go_at_call 38;refine(CB.o (.error (5,i)) _ hd4.fq).mono ?_));rintro e w5 ⟨rfl,hd5,hf5⟩;have HD5:Hd (Fq w5 B P R s now 0 (5,i)):=hd5;have xh:=ae ((cZ.o.two hf4).two hf5);obtain⟨b4,-,-⟩:=HD5.o.now;clear hd4 hf4 hd5 hf5;go_wp2_with (go_at_call 59;refine(Qx.o (5,i) k _ HD5.o).mono ?_;rintro e w6 ⟨rfl,hd6,tu⟩);refine bodyPost_end (results_none rfl _ _ _) rfl ?_;rw[aJ.o];exact⟨rfl,fun d hh=>(by cases hh),fun c' hh=>(by cases hh;exact⟨now,hd6⟩),xh.o.two tu⟩
   |none=>
    rw[KC hk]at Gy;have aJ:=ae (QA.o j1 rfl hk);obtain⟨V,hV⟩:=zN (val s.data.toList (2*s.data.toList.length+2) (bl s.data.toList j1) now k i 0 ns);rw[hV]at aJ CV;clear hk hV;go_wp2;go_quiet (first|(go_at_call 15;exact Calls.quiet_of_same (Gy.o _)));have aF:=HD3.o.drew nq;have dH:Hd (Dq (w3.drewN nq) B P R s now 0 (.ok j1) ns own):=aF.1;have cZ:=ae (HF3.o.two aF.2);obtain⟨wA,hwA⟩:=zN (w3.drewN nq);rw[hwA]at dH cZ ⊢;clear hwA aF c2 c4 c5;go_wp2_with (go_at_call 38;refine(CB.o (.ok j1) _ dH.o).mono ?_);rintro e w5 ⟨rfl,hd5,hf5⟩;have HD5:Hd (Dt w5 B P R s now 0 (.ok (bl s.data.toList j1)) ns own):=hd5;have xh:=ae (cZ.o.two hf5);obtain⟨-,-,-,-,b4,-,-⟩:=HD5.o.cells;clear hd5 hf5;go_wp2_with (go_at_call 59;refine(CV.o _ HD5.o).mono ?_;rintro e w6 ⟨rfl,a1,a2,tu⟩);refine bodyPost_end (results_none rfl _ _ _) rfl ?_
    rw[aJ.o];refine⟨rfl,fun d hh=>?_,fun c' hh=>?_,xh.o.two tu⟩
    ·cases V with
     |error e=>cases hh
     |ok r=>
      obtain⟨j2,ns2⟩:=r;have e1:(Except.ok ⟨j2,ns2,own,now⟩:Rs Sd)=.ok d:=hh;injection e1 with e1
      subst e1;exact a1 j2 ns2 rfl
    ·cases V with
     |error e=>
      have e1:(Except.error e:Rs Sd)=.error c':=hh;injection e1 with e1
      subst e1;exact⟨now,a2 e rfl⟩
     |ok r=>cases hh
end Go.Proofs.YtbcfhgpfgdbjgaaGreatDoor
