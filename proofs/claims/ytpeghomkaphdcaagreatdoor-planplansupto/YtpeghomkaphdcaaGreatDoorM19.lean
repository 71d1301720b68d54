import Derived.Test.YtpeghomkaphdcaaGreatDoorM18
import Derived.Test.YtpeghomkaphdcaaGreatDoorM11
import Derived.Test.YtpeghomkaphdcaaGreatDoorM06
import Derived.Deep.Cut
import Derived.Deep.RegionHeld3
import Derived.BigQuiet
import Derived.Deep.QuietTactic
import Derived.Test.YtpeghomkaphdcaaGreatDoorM15
import Derived.Test.YtpeghomkaphdcaaGreatDoorM12
namespace Go.Proofs.YtpeghomkaphdcaaGreatDoor
open Go.RowKit
set_option linter.unusedVariables false
def wayV (s t:ByteArray):Int:=verC (cutV (verO s)) (cutV (verO t))
def verbT (s t:ByteArray):ByteArray:=if wayV s t=-1 then ⟨#[114,97,105,115,101]⟩ else if wayV s t=1 then ⟨#[108,111,119,101,114]⟩ else ⟨#[99,104,97,110,103,101]⟩
theorem verb_size (s t:ByteArray):(verbT s t).size<=6:=by
 unfold verbT
 repeat' split
 all_goals decide
theorem parseT_any (s:ByteArray) (w:World) (hs:s.size < 2 ^ 62):Calls Tryz.prog 70 #[.string s] w fun e w'=>(∃(E k:Int),e=.returned (.tuple #[valV (verO s),.int .i64 E,.int .i64 k]))/\w.grownBy w' none:=(parse_any s w hs).mono fun e w' ⟨h1,h2⟩=>⟨⟨_,_,h1⟩,h2⟩
theorem pair_block {w:World} {N:Nat} {a b:Value} {t:TypeId} (h:w.heap[N]?=some (.cells #[a,b] t (0,0))):w.cell? ⟨N,0,none⟩=some a/\w.cell? ⟨N,1,none⟩=some b :=
 ⟨by rw [Lib.cell_of_heap h];rfl,by rw [Lib.cell_of_heap h];rfl⟩
theorem ver_block {w:World} {N:Nat} {a b c d e:Value} {t:TypeId} (h:w.heap[N]?=some (.cells #[a,b,c,d,e] t (0,0))):w.cell? ⟨N,0,none⟩=some a/\w.cell? ⟨N,1,none⟩=some b/\w.cell? ⟨N,2,none⟩=some c/\w.cell? ⟨N,3,none⟩=some d/\w.cell? ⟨N,4,none⟩=some e :=
 ⟨by rw [Lib.cell_of_heap h];rfl,by rw [Lib.cell_of_heap h];rfl,by rw [Lib.cell_of_heap h];rfl,by rw [Lib.cell_of_heap h];rfl,by rw [Lib.cell_of_heap h];rfl⟩
set_option maxRecDepth 100000 in
set_option maxHeartbeats 1600000 in
theorem verb_any (p q:Addr) (s t:ByteArray) (w:World) (hp:w.cell? ⟨p.block,p.off+1,none⟩=some (.string s)) (hq:w.cell? ⟨q.block,q.off+1,none⟩=some (.string t)) (hs:s.size < 2 ^ 62) (ht:t.size < 2 ^ 62) :
  Calls Tryz.prog 48 #[.agg #[.pointer (some p),.pointer (some q)]] w fun e w'=>e=.returned (.string (verbT s t))/\w.grownBy w' none:=by
 have p1:=pre_100 s
 have p2:=pre_100 t
 have VS:Hid (∀w,Calls Tryz.prog 70 #[.string s] w fun e w'=>(∃(E k:Int),e=.returned (.tuple #[valV (verO s),.int .i64 E,.int .i64 k]))/\w.grownBy w' none):=fun w=>parseT_any s w hs
 have VT:Hid (∀w,Calls Tryz.prog 70 #[.string t] w fun e w'=>(∃(E k:Int),e=.returned (.tuple #[valV (verO t),.int .i64 E,.int .i64 k]))/\w.grownBy w' none):=fun w=>parseT_any t w ht
 have CC:Hid (∀w,Calls Tryz.prog 71 #[valV (verO s),valV (verO t)] w fun e w'=>e=.returned (.int .i64 (wayV s t))/\w.grownBy w' none):=fun w=>by
  refine (compare_any _ _ _ _ _ _ _ _ _ _ w (by show (verO s).pre.toArray.size < _;simp;omega) (by show (verO t).pre.toArray.size < _;simp;omega)).mono ?_
  rintro e w' ⟨rfl,h⟩
  refine ⟨?_,h⟩
  simp [wayV,cutV]
 have HVB:Hid (verbT s t=if wayV s t=-1 then ⟨#[114,97,105,115,101]⟩ else if wayV s t=1 then ⟨#[108,111,119,101,114]⟩ else ⟨#[99,104,97,110,103,101]⟩):=rfl
 obtain ⟨R,hR⟩:∃R,wayV s t=R:=⟨_,rfl⟩
 obtain ⟨T,hT⟩:∃T,verbT s t=T:=⟨_,rfl⟩
 rw [hR] at CC HVB
 rw [hT] at HVB ⊢
 unfold valV at VS VT CC
 obtain ⟨x1,h1⟩:∃x,(verO s).major=x:=⟨_,rfl⟩
 obtain ⟨x2,h2⟩:∃x,(verO s).minor=x:=⟨_,rfl⟩
 obtain ⟨x3,h3⟩:∃x,(verO s).patch=x:=⟨_,rfl⟩
 obtain ⟨x4,h4⟩:∃x:ByteArray,⟨(verO s).pre.toArray⟩=x:=⟨_,rfl⟩
 obtain ⟨x5,h5⟩:∃x:ByteArray,⟨(verO s).build.toArray⟩=x:=⟨_,rfl⟩
 rw [h1,h2,h3,h4,h5] at VS CC
 obtain ⟨y1,g1⟩:∃x,(verO t).major=x:=⟨_,rfl⟩
 obtain ⟨y2,g2⟩:∃x,(verO t).minor=x:=⟨_,rfl⟩
 obtain ⟨y3,g3⟩:∃x,(verO t).patch=x:=⟨_,rfl⟩
 obtain ⟨y4,g4⟩:∃x:ByteArray,⟨(verO t).pre.toArray⟩=x:=⟨_,rfl⟩
 obtain ⟨y5,g5⟩:∃x:ByteArray,⟨(verO t).build.toArray⟩=x:=⟨_,rfl⟩
 rw [g1,g2,g3,g4,g5] at VT CC
 clear h1 h2 h3 h4 h5 g1 g2 g3 g4 g5 hR hT p1 p2 hs ht
 have HQ:Hid (w.cell? ⟨q.block,q.off+1,none⟩=some (.string t)):=hq
 have hp1:=(gb_alloc (gb_refl w none) (.cells #[.pointer (some p),.pointer (some q)] 62)).cell hp (by simp)
 clear hp hq
 go_enter Tryz.func48,Tryz.ntmps48
 go_wp2_with (first | (go_at_call 70;refine (VS.out _).mono ?_))
 rintro e w1 ⟨⟨E1,k1,rfl⟩,hg1⟩
 have hbx:w1.heap[w.heap.size]?=some (.cells #[.pointer (some p),.pointer (some q)] 62 (0,0)):=(hg1.block w.heap.size (by simp) (by simp)).trans (heap_alloc_new w _)
 obtain ⟨A,hA⟩:∃A,w.heap.size=A:=⟨_,rfl⟩
 rw [hA] at hbx
 have HG1:Hid (w.grownBy w1 none):=gb_trans (gb_alloc (gb_refl w none) _) hg1
 have HBX:Hid (w1.heap[A]?=some (.cells #[.pointer (some p),.pointer (some q)] 62 (0,0))):=hbx
 obtain ⟨W2,hW2⟩:∃W,w1.alloc (.cells #[.int .i64 x1,.int .i64 x2,.int .i64 x3,.string x4,.string x5] 105)=W:=⟨_,rfl⟩
 have hg2:w1.grownBy W2 none:=by rw [<-hW2];exact gb_alloc (gb_refl w1 none) _
 have b1:=hg2.cell (pair_block hbx).2 (by simp)
 have b2:=(gb_trans HG1.out hg2).cell HQ.out (by simp)
 have HV1:Hid (W2.heap[w1.heap.size]?=some (.cells #[.int .i64 x1,.int .i64 x2,.int .i64 x3,.string x4,.string x5] 105 (0,0))/\w1.heap.size < W2.heap.size):=by
  rw [<-hW2];exact ⟨heap_alloc_new w1 _,by simp⟩
 have HG2:Hid (w.grownBy W2 none):=gb_trans HG1.out hg2
 obtain ⟨A1,hA1⟩:∃A,w1.heap.size=A:=⟨_,rfl⟩
 rw [hA1] at HV1
 try rw [hA]
 clear hp1 hg1 hA hbx hg2
 go_wp2_with (first | (go_at_call 70;refine (VT.out _).mono ?_))
 rintro e w3 ⟨⟨E2,k2,rfl⟩,hg3⟩
 have hv1:w3.heap[A1]?=some (.cells #[.int .i64 x1,.int .i64 x2,.int .i64 x3,.string x4,.string x5] 105 (0,0)):=(hg3.block A1 HV1.out.2 (by simp)).trans HV1.out.1
 have HG3:Hid (w.grownBy w3 none):=gb_trans HG2.out hg3
 obtain ⟨W4,hW4⟩:∃W,w3.alloc (.cells #[.int .i64 y1,.int .i64 y2,.int .i64 y3,.string y4,.string y5] 105)=W:=⟨_,rfl⟩
 have hg4:w3.grownBy W4 none:=by rw [<-hW4];exact gb_alloc (gb_refl w3 none) _
 obtain ⟨d0,d1,d2,d3,d4⟩:=ver_block ((hg4.block A1 (Array.getElem?_eq_some_iff.1 hv1).1 (by simp)).trans hv1)
 have hv2:W4.heap[w3.heap.size]?=some (.cells #[.int .i64 y1,.int .i64 y2,.int .i64 y3,.string y4,.string y5] 105 (0,0)):=by rw [<-hW4];exact heap_alloc_new w3 _
 obtain ⟨A2,hA2⟩:∃A,w3.heap.size=A:=⟨_,rfl⟩
 rw [hA2] at hv2
 obtain ⟨c0,c1,c2,c3,c4⟩:=ver_block hv2
 have HG4:Hid (w.grownBy W4 none):=gb_trans HG3.out hg4
 clear hg3 hv1 hg4 hv2 b1 b2 hA1 hW2
 go_wp2_with (first | (go_at_call 71;refine (CC.out _).mono ?_))
 rintro e w5 ⟨rfl,hg5⟩
 have HG5:Hid (w.grownBy w5 none):=gb_trans HG4.out hg5
 clear hg5 d0 d1 d2 d3 d4 c0 c1 c2 c3 c4 hA2 hW4
 by_cases h1:R=-1
 ·have HT:Hid (T=⟨#[114,97,105,115,101]⟩):=by show T=_;rw [HVB.out,if_pos h1]
  have hb:(R == -1)=true:=by simp [h1]
  clear h1
  go_wp2
  refine bodyPost_ret (results_tmp (t:=2) rfl _ _ _) rfl ⟨?_,HG5.out⟩
  rw [HT.out];rfl
 ·have hb:(R == -1)=false:=by simp [h1]
  by_cases h2:R=1
  ·have HT:Hid (T=⟨#[108,111,119,101,114]⟩):=by show T=_;rw [HVB.out,if_neg h1,if_pos h2]
   have hb2:(R == 1)=true:=by simp [h2]
   clear h1 h2
   go_wp2
   refine bodyPost_ret (results_tmp (t:=2) rfl _ _ _) rfl ⟨?_,HG5.out⟩
   rw [HT.out];rfl
  ·have HT:Hid (T=⟨#[99,104,97,110,103,101]⟩):=by show T=_;rw [HVB.out,if_neg h1,if_neg h2]
   have hb2:(R == 1)=false:=by simp [h2]
   clear h1 h2
   go_wp2
   refine bodyPost_ret (results_tmp (t:=2) rfl _ _ _) rfl ⟨?_,HG5.out⟩
   rw [HT.out];rfl
open Go.RowKit
set_option linter.unusedVariables false
def lineT (o m:Option En) (n:ByteArray):List UInt8:=match o,m with
 | none,none=>[]
 | none,some y=>[97,100,100,32]++(n.data.toList++([32]++(y.ve.data.toList++[10])))
 | some x,none=>[100,114,111,112,32]++(n.data.toList++([32]++(x.ve.data.toList++[10])))
 | some x,some y=>if x.ve=y.ve/\x.dg=y.dg then [] else (verbT x.ve y.ve).data.toList++([32]++(n.data.toList++([32]++(x.ve.data.toList++([32]++(y.ve.data.toList++[10]))))))
set_option maxRecDepth 100000 in
set_option maxHeartbeats 1600000 in
theorem line_add (q:Addr) (n:ByteArray) (y:En) (w:World) (hq:w.cell? ⟨q.block,q.off+1,none⟩=some (.string y.ve)) (hn:n.size<=1048576) (hy:y.ve.size<=1048576) :
  Calls Tryz.prog 27 #[.agg #[.pointer none,.pointer (some q)],.string n] w fun e w'=>(∃T:ByteArray,e=.returned (.string T)/\T.data.toList=lineT none (some y) n)/\w.grownBy w' none:=by
 obtain ⟨v,hv⟩:∃v,y.ve=v:=⟨_,rfl⟩
 have HLT:Hid (lineT none (some y) n=[97,100,100,32]++(n.data.toList++([32]++(v.data.toList++[10])))):=by rw [<-hv];rfl
 rw [hv] at hq hy
 have c1:∀wx,(Op.stringOp .add ⟨#[97,100,100,32]⟩ n).run Tryz.prog wx=.ok (.string (cat ⟨#[97,100,100,32]⟩ n)) wx:=fun wx=>add_cat _ _ wx (by show 4+_<=_;omega)
 have l1:=cat_list ⟨#[97,100,100,32]⟩ n
 have z1:(cat ⟨#[97,100,100,32]⟩ n).size=4+n.size:=cat_size _ _
 generalize cat ⟨#[97,100,100,32]⟩ n=S1 at c1 l1 z1
 have c2:∀wx,(Op.stringOp .add S1 ⟨#[32]⟩).run Tryz.prog wx=.ok (.string (cat S1 ⟨#[32]⟩)) wx:=fun wx=>add_cat _ _ wx (by show _+1<=_;omega)
 have l2:=cat_list S1 ⟨#[32]⟩
 have z2:(cat S1 ⟨#[32]⟩).size=S1.size+1:=cat_size _ _
 generalize cat S1 ⟨#[32]⟩=S2 at c2 l2 z2
 have c3:∀wx,(Op.stringOp .add S2 v).run Tryz.prog wx=.ok (.string (cat S2 v)) wx:=fun wx=>add_cat _ _ wx (by omega)
 have l3:=cat_list S2 v
 have z3:=cat_size S2 v
 generalize cat S2 v=S3 at c3 l3 z3
 have c4:∀wx,(Op.stringOp .add S3 ⟨#[10]⟩).run Tryz.prog wx=.ok (.string (cat S3 ⟨#[10]⟩)) wx:=fun wx=>add_cat _ _ wx (by show _+1<=_;omega)
 have l4:=cat_list S3 ⟨#[10]⟩
 generalize cat S3 ⟨#[10]⟩=S4 at c4 l4
 have HL:Hid (S4.data.toList=lineT none (some y) n):=by
  show _=_
  rw [HLT.out,l4,l3,l2,l1];simp
 clear l1 l2 l3 l4 z1 z2 z3 hv
 have hq1:=(gb_alloc (gb_refl w none) (.cells #[.pointer none,.pointer (some q)] 62)).cell hq (by simp)
 clear hq
 go_enter Tryz.func27,Tryz.ntmps27
 go_wp2
 refine bodyPost_ret (results_tmp (t:=4) rfl _ _ _) rfl ⟨⟨_,rfl,HL.out⟩,gb_alloc (gb_refl w none) _⟩
set_option maxRecDepth 100000 in
set_option maxHeartbeats 1600000 in
theorem line_drop (q:Addr) (n:ByteArray) (y:En) (w:World) (hq:w.cell? ⟨q.block,q.off+1,none⟩=some (.string y.ve)) (hn:n.size<=1048576) (hy:y.ve.size<=1048576) :
  Calls Tryz.prog 27 #[.agg #[.pointer (some q),.pointer none],.string n] w fun e w'=>(∃T:ByteArray,e=.returned (.string T)/\T.data.toList=lineT (some y) none n)/\w.grownBy w' none:=by
 obtain ⟨v,hv⟩:∃v,y.ve=v:=⟨_,rfl⟩
 have HLT:Hid (lineT (some y) none n=[100,114,111,112,32]++(n.data.toList++([32]++(v.data.toList++[10])))):=by rw [<-hv];rfl
 rw [hv] at hq hy
 have c1:∀wx,(Op.stringOp .add ⟨#[100,114,111,112,32]⟩ n).run Tryz.prog wx=.ok (.string (cat ⟨#[100,114,111,112,32]⟩ n)) wx:=fun wx=>add_cat _ _ wx (by show 5+_<=_;omega)
 have l1:=cat_list ⟨#[100,114,111,112,32]⟩ n
 have z1:(cat ⟨#[100,114,111,112,32]⟩ n).size=5+n.size:=cat_size _ _
 generalize cat ⟨#[100,114,111,112,32]⟩ n=S1 at c1 l1 z1
 have c2:∀wx,(Op.stringOp .add S1 ⟨#[32]⟩).run Tryz.prog wx=.ok (.string (cat S1 ⟨#[32]⟩)) wx:=fun wx=>add_cat _ _ wx (by show _+1<=_;omega)
 have l2:=cat_list S1 ⟨#[32]⟩
 have z2:(cat S1 ⟨#[32]⟩).size=S1.size+1:=cat_size _ _
 generalize cat S1 ⟨#[32]⟩=S2 at c2 l2 z2
 have c3:∀wx,(Op.stringOp .add S2 v).run Tryz.prog wx=.ok (.string (cat S2 v)) wx:=fun wx=>add_cat _ _ wx (by omega)
 have l3:=cat_list S2 v
 have z3:=cat_size S2 v
 generalize cat S2 v=S3 at c3 l3 z3
 have c4:∀wx,(Op.stringOp .add S3 ⟨#[10]⟩).run Tryz.prog wx=.ok (.string (cat S3 ⟨#[10]⟩)) wx:=fun wx=>add_cat _ _ wx (by show _+1<=_;omega)
 have l4:=cat_list S3 ⟨#[10]⟩
 generalize cat S3 ⟨#[10]⟩=S4 at c4 l4
 have HL:Hid (S4.data.toList=lineT (some y) none n):=by
  show _=_
  rw [HLT.out,l4,l3,l2,l1];simp
 clear l1 l2 l3 l4 z1 z2 z3 hv
 have hq1:=(gb_alloc (gb_refl w none) (.cells #[.pointer (some q),.pointer none] 62)).cell hq (by simp)
 clear hq
 go_enter Tryz.func27,Tryz.ntmps27
 go_wp2
 refine bodyPost_ret (results_tmp (t:=4) rfl _ _ _) rfl ⟨⟨_,rfl,HL.out⟩,gb_alloc (gb_refl w none) _⟩
theorem line_yes (x y:En) (n:ByteArray) (h:x.ve=y.ve/\x.dg=y.dg):lineT (some x) (some y) n=[]:=if_pos h
theorem line_no (x y:En) (n:ByteArray) (h:¬ (x.ve=y.ve/\x.dg=y.dg)):lineT (some x) (some y) n=(verbT x.ve y.ve).data.toList++([32]++(n.data.toList++([32]++(x.ve.data.toList++([32]++(y.ve.data.toList++[10])))))):=if_neg h
set_option maxRecDepth 100000 in
set_option maxHeartbeats 1600000 in
theorem line_same (p q:Addr) (n:ByteArray) (x y:En) (w:World) (hp1:w.cell? ⟨p.block,p.off+1,none⟩=some (.string x.ve)) (hp2:w.cell? ⟨p.block,p.off+2,none⟩=some (.string x.dg)) (hq1:w.cell? ⟨q.block,q.off+1,none⟩=some (.string y.ve)) (hq2:w.cell? ⟨q.block,q.off+2,none⟩=some (.string y.dg)) (h:x.ve=y.ve/\x.dg=y.dg) :
  Calls Tryz.prog 27 #[.agg #[.pointer (some p),.pointer (some q)],.string n] w fun e w'=>(∃T:ByteArray,e=.returned (.string T)/\T.data.toList=lineT (some x) (some y) n)/\w.grownBy w' none:=by
 have HLT:Hid (lineT (some x) (some y) n=[]):=line_yes x y n h
 have g:=gb_alloc (gb_refl w none) (.cells #[.pointer (some p),.pointer (some q)] 62)
 have p1:=g.cell hp1 (by simp)
 have p2:=g.cell hp2 (by simp)
 have q1:=g.cell hq1 (by simp)
 have q2:=g.cell hq2 (by simp)
 rw [h.1] at p1
 rw [h.2] at p2
 have t1:=txt_eq (rfl:y.ve=y.ve)
 have t2:=txt_eq (rfl:y.dg=y.dg)
 obtain ⟨v,hv⟩:∃v,y.ve=v:=⟨_,rfl⟩
 obtain ⟨d,hd⟩:∃v,y.dg=v:=⟨_,rfl⟩
 rw [hv] at p1 q1 t1
 rw [hd] at p2 q2 t2
 clear hp1 hp2 hq1 hq2 g h hv hd
 go_enter Tryz.func27,Tryz.ntmps27
 go_wp2
 go_quiet (fail)
 go_wp2
 refine bodyPost_ret (results_tmp (t:=4) rfl _ _ _) rfl ⟨⟨_,rfl,HLT.out.symm⟩,gb_drew (gb_alloc (gb_refl w none) _) _⟩
def SC (p q:Addr) (v u:ByteArray) (A:Nat) (w':World):Prop:=w'.cell? ⟨A,0,none⟩=some (.pointer (some p))/\w'.cell? ⟨A,1,none⟩=some (.pointer (some q))/\w'.cell? ⟨p.block,p.off+1,none⟩=some (.string v)/\w'.cell? ⟨q.block,q.off+1,none⟩=some (.string u)
theorem SC.grow {p q:Addr} {v u:ByteArray} {A:Nat} {w w':World} (h:SC p q v u A w) (hg:w.grownBy w' none):SC p q v u A w':=⟨hg.cell h.1 (by simp),hg.cell h.2.1 (by simp),hg.cell h.2.2.1 (by simp),hg.cell h.2.2.2 (by simp)⟩
set_option maxRecDepth 100000 in
set_option maxHeartbeats 1600000 in
theorem line_diff (p q:Addr) (n:ByteArray) (x y:En) (w:World) (hp1:w.cell? ⟨p.block,p.off+1,none⟩=some (.string x.ve)) (hp2:w.cell? ⟨p.block,p.off+2,none⟩=some (.string x.dg)) (hq1:w.cell? ⟨q.block,q.off+1,none⟩=some (.string y.ve)) (hq2:w.cell? ⟨q.block,q.off+2,none⟩=some (.string y.dg)) (h:¬ (x.ve=y.ve/\x.dg=y.dg)) (hn:n.size<=1048576) (hx:x.ve.size<=1048576) (hy:y.ve.size<=1048576) :
  Calls Tryz.prog 27 #[.agg #[.pointer (some p),.pointer (some q)],.string n] w fun e w'=>(∃T:ByteArray,e=.returned (.string T)/\T.data.toList=lineT (some x) (some y) n)/\w.grownBy w' none:=by
 have HLT:Hid (lineT (some x) (some y) n=(verbT x.ve y.ve).data.toList++([32]++(n.data.toList++([32]++(x.ve.data.toList++([32]++(y.ve.data.toList++[10]))))))):=line_no x y n h
 have hvs:=verb_size x.ve y.ve
 have CV:Hid (∀A wx,SC p q x.ve y.ve A wx->Calls Tryz.prog 48 #[.agg #[.pointer (some p),.pointer (some q)]] wx fun e w'=>e=.returned (.string (verbT x.ve y.ve))/\wx.grownBy w' none):=fun A wx hs=>verb_any p q _ _ wx hs.2.2.1 hs.2.2.2 (by omega) (by omega)
 obtain ⟨W1,hW1⟩:∃W,w.alloc (.cells #[.pointer (some p),.pointer (some q)] 62)=W:=⟨_,rfl⟩
 have g:w.grownBy W1 none:=by rw [<-hW1];exact gb_alloc (gb_refl w none) _
 have HG1:Hid (w.grownBy W1 none):=g
 have hbx:W1.heap[w.heap.size]?=some (.cells #[.pointer (some p),.pointer (some q)] 62 (0,0)):=by rw [<-hW1];exact heap_alloc_new w _
 obtain ⟨A,hA⟩:∃A,w.heap.size=A:=⟨_,rfl⟩
 rw [hA] at hbx
 obtain ⟨b0,b1⟩:=pair_block hbx
 have p1:=g.cell hp1 (by simp)
 have p2:=g.cell hp2 (by simp)
 have q1:=g.cell hq1 (by simp)
 have q2:=g.cell hq2 (by simp)
 have ht:(x.ve.toList == y.ve.toList)=false\/(x.ve.toList == y.ve.toList)=true/\(x.dg.toList == y.dg.toList)=false:=by
  by_cases h1:x.ve=y.ve
  ·exact Or.inr ⟨txt_eq h1,txt_ne fun h2=>h ⟨h1,h2⟩⟩
  ·exact Or.inl (txt_ne h1)
 obtain ⟨v,hv⟩:∃v,x.ve=v:=⟨_,rfl⟩
 obtain ⟨d,hd⟩:∃v,x.dg=v:=⟨_,rfl⟩
 obtain ⟨u,hu⟩:∃v,y.ve=v:=⟨_,rfl⟩
 obtain ⟨f,hf⟩:∃v,y.dg=v:=⟨_,rfl⟩
 rw [hv,hu] at ht HLT hvs CV
 rw [hd,hf] at ht
 rw [hv] at p1 hx
 rw [hd] at p2
 rw [hu] at q1 hy
 rw [hf] at q2
 obtain ⟨B,hB⟩:∃B,verbT v u=B:=⟨_,rfl⟩
 rw [hB] at HLT hvs CV
 clear hp1 hp2 hq1 hq2 g h hv hd hu hf hB hbx
 have c1:∀wx,(Op.stringOp .add B ⟨#[32]⟩).run Tryz.prog wx=.ok (.string (cat B ⟨#[32]⟩)) wx:=fun wx=>add_cat _ _ wx (by show _+1<=_;omega)
 have l1:=cat_list B ⟨#[32]⟩
 have z1:(cat B ⟨#[32]⟩).size=B.size+1:=cat_size _ _
 generalize cat B ⟨#[32]⟩=S1 at c1 l1 z1
 have c2:∀wx,(Op.stringOp .add S1 n).run Tryz.prog wx=.ok (.string (cat S1 n)) wx:=fun wx=>add_cat _ _ wx (by omega)
 have l2:=cat_list S1 n
 have z2:(cat S1 n).size=S1.size+n.size:=cat_size _ _
 generalize cat S1 n=S2 at c2 l2 z2
 have c3:∀wx,(Op.stringOp .add S2 ⟨#[32]⟩).run Tryz.prog wx=.ok (.string (cat S2 ⟨#[32]⟩)) wx:=fun wx=>add_cat _ _ wx (by show _+1<=_;omega)
 have l3:=cat_list S2 ⟨#[32]⟩
 have z3:(cat S2 ⟨#[32]⟩).size=S2.size+1:=cat_size _ _
 generalize cat S2 ⟨#[32]⟩=S3 at c3 l3 z3
 have c4:∀wx,(Op.stringOp .add S3 v).run Tryz.prog wx=.ok (.string (cat S3 v)) wx:=fun wx=>add_cat _ _ wx (by omega)
 have l4:=cat_list S3 v
 have z4:(cat S3 v).size=S3.size+v.size:=cat_size _ _
 generalize cat S3 v=S4 at c4 l4 z4
 have c5:∀wx,(Op.stringOp .add S4 ⟨#[32]⟩).run Tryz.prog wx=.ok (.string (cat S4 ⟨#[32]⟩)) wx:=fun wx=>add_cat _ _ wx (by show _+1<=_;omega)
 have l5:=cat_list S4 ⟨#[32]⟩
 have z5:(cat S4 ⟨#[32]⟩).size=S4.size+1:=cat_size _ _
 generalize cat S4 ⟨#[32]⟩=S5 at c5 l5 z5
 have c6:∀wx,(Op.stringOp .add S5 u).run Tryz.prog wx=.ok (.string (cat S5 u)) wx:=fun wx=>add_cat _ _ wx (by omega)
 have l6:=cat_list S5 u
 have z6:(cat S5 u).size=S5.size+u.size:=cat_size _ _
 generalize cat S5 u=S6 at c6 l6 z6
 have c7:∀wx,(Op.stringOp .add S6 ⟨#[10]⟩).run Tryz.prog wx=.ok (.string (cat S6 ⟨#[10]⟩)) wx:=fun wx=>add_cat _ _ wx (by show _+1<=_;omega)
 have l7:=cat_list S6 ⟨#[10]⟩
 have z7:(cat S6 ⟨#[10]⟩).size=S6.size+1:=cat_size _ _
 generalize cat S6 ⟨#[10]⟩=S7 at c7 l7 z7
 have HL:Hid (S7.data.toList=lineT (some x) (some y) n):=by
  show _=_
  rw [HLT.out,l7,l6,l5,l4,l3,l2,l1];simp
 clear l1 l2 l3 l4 l5 l6 l7 z1 z2 z3 z4 z5 z6 z7
 rcases ht with ht | ⟨ht,ht2⟩
 ·skip
  go_enter Tryz.func27,Tryz.ntmps27
  go_wp2
  go_quiet (fail)
  go_upto_region 7 with fail
  have b0':(W1.drewN nq).cell? ⟨A,0,none⟩=some (.pointer (some p)):=b0
  have b1':(W1.drewN nq).cell? ⟨A,1,none⟩=some (.pointer (some q)):=b1
  have p1':(W1.drewN nq).cell? ⟨p.block,p.off+1,none⟩=some (.string v):=p1
  have q1':(W1.drewN nq).cell? ⟨q.block,q.off+1,none⟩=some (.string u):=q1
  have HGD:Hid (w.grownBy (W1.drewN nq) none):=gb_drew HG1.out nq
  obtain ⟨W2,hW2⟩:∃W,W1.drewN nq=W:=⟨_,rfl⟩
  rw [hW2] at b0' b1' p1' q1' HGD ⊢
  clear b0 b1 p1 p2 q1 q2 hW2 ht hW1
  go_region_held3 (fun w'=>w'.cell? ⟨A,0,none⟩=some (.pointer (some p))/\w'.cell? ⟨A,1,none⟩=some (.pointer (some q))/\w'.cell? ⟨p.block,p.off+1,none⟩=some (.string v)/\w'.cell? ⟨q.block,q.off+1,none⟩=some (.string u)) ((first | exact SC.grow (by assumption) (by assumption) | go_keep)) (first | (go_at_call 48;refine (CV.out A _ (by assumption)).mono ?_;rintro e w1 ⟨rfl,hg1⟩))
  have HGF:Hid (w.grownBy w1 none):=by
   have h0:=HGD.out
   exact ⟨hg1.os.trans h0.os,hg1.tape.trans h0.tape,hg1.output.trans h0.output,Nat.le_trans h0.size hg1.size,fun k hk hn=>(hg1.block k (Nat.lt_of_lt_of_le hk h0.size) (by simp)).trans (h0.block k hk hn)⟩
  clear hg1 CV
  go_wp2
  refine bodyPost_ret (results_tmp (t:=4) rfl _ _ _) rfl ⟨⟨_,rfl,HL.out⟩,HGF.out⟩
 ·skip
  go_enter Tryz.func27,Tryz.ntmps27
  go_wp2
  go_quiet (fail)
  go_upto_region 7 with fail
  have b0':(W1.drewN nq).cell? ⟨A,0,none⟩=some (.pointer (some p)):=b0
  have b1':(W1.drewN nq).cell? ⟨A,1,none⟩=some (.pointer (some q)):=b1
  have p1':(W1.drewN nq).cell? ⟨p.block,p.off+1,none⟩=some (.string v):=p1
  have q1':(W1.drewN nq).cell? ⟨q.block,q.off+1,none⟩=some (.string u):=q1
  have HGD:Hid (w.grownBy (W1.drewN nq) none):=gb_drew HG1.out nq
  obtain ⟨W2,hW2⟩:∃W,W1.drewN nq=W:=⟨_,rfl⟩
  rw [hW2] at b0' b1' p1' q1' HGD ⊢
  clear b0 b1 p1 p2 q1 q2 hW2 ht hW1
  go_region_held3 (fun w'=>w'.cell? ⟨A,0,none⟩=some (.pointer (some p))/\w'.cell? ⟨A,1,none⟩=some (.pointer (some q))/\w'.cell? ⟨p.block,p.off+1,none⟩=some (.string v)/\w'.cell? ⟨q.block,q.off+1,none⟩=some (.string u)) ((first | exact SC.grow (by assumption) (by assumption) | go_keep)) (first | (go_at_call 48;refine (CV.out A _ (by assumption)).mono ?_;rintro e w1 ⟨rfl,hg1⟩))
  have HGF:Hid (w.grownBy w1 none):=by
   have h0:=HGD.out
   exact ⟨hg1.os.trans h0.os,hg1.tape.trans h0.tape,hg1.output.trans h0.output,Nat.le_trans h0.size hg1.size,fun k hk hn=>(hg1.block k (Nat.lt_of_lt_of_le hk h0.size) (by simp)).trans (h0.block k hk hn)⟩
  clear hg1 CV
  go_wp2
  refine bodyPost_ret (results_tmp (t:=4) rfl _ _ _) rfl ⟨⟨_,rfl,HL.out⟩,HGF.out⟩
open Go.RowKit
set_option linter.unusedVariables false
def fnd (L:List En) (n:ByteArray):Option En:=L.find? (fun e=>decide (e.nm=n))
theorem fnd_at (L:List En) (n:ByteArray) (j:Nat) (hj:j < L.length) (h1:L[j].nm=n) (h2:hasNm (L.take j) n=false):fnd L n=some L[j]:=by
 unfold fnd
 rw [List.find?_eq_some_iff_getElem]
 refine ⟨by simpa using h1,j,hj,rfl,fun k hk=>?_⟩
 unfold hasNm at h2
 rw [List.any_eq_false] at h2
 have:=h2 L[k] (List.mem_take_iff_getElem.2 ⟨k,by omega,rfl⟩)
 simpa using this
theorem fnd_no (L:List En) (n:ByteArray) (h:hasNm L n=false):fnd L n=none:=by
 unfold fnd
 rw [List.find?_eq_none]
 unfold hasNm at h
 exact List.any_eq_false.1 h
theorem wayV_rng (s t:ByteArray):wayV s t=-1\/wayV s t=0\/wayV s t=1:=good_ver.rng _ _
set_option maxRecDepth 100000 in
set_option maxHeartbeats 1600000 in
theorem refLine_add (o o':Option Addr) (c c':Nat) (L M:List En) (n:ByteArray) (w:World) (h:EnS w (.slice o L.length c) L) (h':EnS w (.slice o' M.length c') M) (hL:L.length<=1048576) (hM:M.length<=1048576) (h1:hasNm L n=false) (h2:hasNm M n=true) (hn:n.size<=1048576) (hV:∀x ∈ M,x.ve.size<=1048576) :
  Calls Tryz.prog 31 #[.slice o L.length c,.slice o' M.length c',.string n] w fun e w'=>(∃T:ByteArray,e=.returned (.string T)/\T.data.toList=lineT (fnd L n) (fnd M n) n)/\w.grownBy w' none:=by
 have CEL:Hid (∀w',w.grownBy w' none->Calls Tryz.prog 29 #[.slice o L.length c,.string n] w' fun e w''=>∃c:Int,e=.returned (.int .i64 c)/\EntI L n c/\w'.grownBy w'' none):=fun w' hg=>entryOf_any _ L n w' (h.grow hg) hL
 have CEM:Hid (∀w',w.grownBy w' none->Calls Tryz.prog 29 #[.slice o' M.length c',.string n] w' fun e w''=>∃c:Int,e=.returned (.int .i64 c)/\EntI M n c/\w'.grownBy w'' none):=fun w' hg=>entryOf_any _ M n w' (h'.grow hg) hM
 have HL:Hid (EnS w (.slice o L.length c) L):=h
 have HM:Hid (EnS w (.slice o' M.length c') M):=h'
 have HV:Hid (∀x ∈ M,x.ve.size<=1048576):=hV
 have H1:Hid (hasNm L n=false):=h1
 have H2:Hid (hasNm M n=true):=h2
 obtain ⟨nl,hnl⟩:∃k,L.length=k:=⟨_,rfl⟩
 obtain ⟨nm,hnm⟩:∃k,M.length=k:=⟨_,rfl⟩
 have HNL:Hid (L.length=nl):=hnl
 have HNM:Hid (M.length=nm):=hnm
 rw [hnl] at CEL HL ⊢
 rw [hnm] at CEM HM ⊢
 obtain ⟨T0,hT0⟩:∃T,lineT (fnd L n) (fnd M n) n=T:=⟨_,rfl⟩
 have HT0:Hid (lineT (fnd L n) (fnd M n) n=T0):=hT0
 rw [hT0]
 clear h h' hV h1 h2 hnl hnm hT0
 have HG:Hid (w.grownBy w none):=gb_refl _ _
 go_enter Tryz.func31,Tryz.ntmps31
 go_wp2_with (first | (go_at_call 29;refine (CEL.out _ HG.out).mono ?_))
 rintro e w1 ⟨k1,rfl,hk1,hg1⟩
 replace HG:Hid (w.grownBy w1 none):=gb_trans HG.out hg1
 have HK1:Hid (EntI L n k1):=hk1
 clear hg1 hk1
 go_wp2_with (first | (go_at_call 29;refine (CEM.out _ HG.out).mono ?_))
 rintro e w2 ⟨k2,rfl,hk2,hg2⟩
 replace HG:Hid (w.grownBy w2 none):=gb_trans HG.out hg2
 have HK2:Hid (EntI M n k2):=hk2
 clear hg2 hk2
 have e1:k1=-1:=by
  rcases HK1.out with ⟨h,_⟩ | ⟨j,hj,_,h3,_⟩
  ·exact h
  ·have h4:=H1.out
   unfold hasNm at h4
   rw [List.any_eq_false] at h4
   have:=h4 _ (List.getElem_mem hj)
   simp [h3] at this
 obtain ⟨j,hj,e2,hjn,hjf⟩:∃j,∃hj:j < M.length,k2=(j:Int)/\M[j].nm=n/\hasNm (M.take j) n=false:=by
  rcases HK2.out with ⟨_,h⟩ | h
  ·rw [H2.out] at h;cases h
  ·exact h
 subst e1 e2
 have hx1:fnd L n=none:=fnd_no L n H1.out
 have hx2:fnd M n=some M[j]:=fnd_at M n j hj hjn hjf
 have hes:EnS w2 (.slice o' M.length c') M:=by rw [HNM.out];exact HM.out.grow HG.out
 obtain ⟨b,rfl,hcp,hat⟩:=ens_at hes hj
 obtain ⟨e0,e1,-,-⟩:=hat j hj
 have hv:=HV.out _ (List.getElem_mem hj)
 obtain ⟨y,hy⟩:∃y,M[j]=y:=⟨_,rfl⟩
 rw [hy] at e1 hv hx2
 obtain ⟨v,hyv⟩:∃v,y.ve=v:=⟨_,rfl⟩
 rw [hyv] at e1 hv
 have HLT:Hid (lineT (fnd L n) (fnd M n) n=[97,100,100,32]++(n.data.toList++([32]++(v.data.toList++[10])))):=by
  show _=_
  rw [hx1,hx2,<-hyv];rfl
 have hjI:(j:Int) < (nm:Int):=by have:=HNM.out;omega
 have hjc:j < c':=by omega
 rw [HT0.out] at HLT
 have d1:∀wx,(Op.stringOp .add ⟨#[97,100,100,32]⟩ n).run Tryz.prog wx=.ok (.string (cat ⟨#[97,100,100,32]⟩ n)) wx:=fun wx=>add_cat _ _ wx (by show 4+_<=_;omega)
 have m1:=cat_list ⟨#[97,100,100,32]⟩ n
 have y1:(cat ⟨#[97,100,100,32]⟩ n).size=4+n.size:=cat_size _ _
 generalize cat ⟨#[97,100,100,32]⟩ n=S0 at d1 m1 y1
 have c1:∀wx,(Op.stringOp .add S0 ⟨#[32]⟩).run Tryz.prog wx=.ok (.string (cat S0 ⟨#[32]⟩)) wx:=fun wx=>add_cat _ _ wx (by show _+1<=_;omega)
 have l1:=cat_list S0 ⟨#[32]⟩
 have z1:(cat S0 ⟨#[32]⟩).size=S0.size+1:=cat_size _ _
 generalize cat S0 ⟨#[32]⟩=S1 at c1 l1 z1
 have c2:∀wx,(Op.stringOp .add S1 v).run Tryz.prog wx=.ok (.string (cat S1 v)) wx:=fun wx=>add_cat _ _ wx (by omega)
 have l2:=cat_list S1 v
 have z2:(cat S1 v).size=S1.size+v.size:=cat_size _ _
 generalize cat S1 v=S2 at c2 l2 z2
 have c3:∀wx,(Op.stringOp .add S2 ⟨#[10]⟩).run Tryz.prog wx=.ok (.string (cat S2 ⟨#[10]⟩)) wx:=fun wx=>add_cat _ _ wx (by show _+1<=_;omega)
 have l3:=cat_list S2 ⟨#[10]⟩
 have z3:(cat S2 ⟨#[10]⟩).size=S2.size+1:=cat_size _ _
 generalize cat S2 ⟨#[10]⟩=S3 at c3 l3 z3
 have HF:Hid (S3.data.toList=T0):=by
  show _=_
  rw [HLT.out,l3,l2,l1,m1];simp
 clear l1 l2 l3 m1 y1 z1 z2 z3 hes hat hy hyv hx1 hx2 hjn hjf
 go_wp2
 refine bodyPost_ret (results_tmp (t:=6) rfl _ _ _) rfl ⟨⟨_,rfl,HF.out⟩,HG.out⟩
set_option maxRecDepth 100000 in
set_option maxHeartbeats 1600000 in
theorem refLine_drop (o o':Option Addr) (c c':Nat) (L M:List En) (n:ByteArray) (w:World) (h:EnS w (.slice o L.length c) L) (h':EnS w (.slice o' M.length c') M) (hL:L.length<=1048576) (hM:M.length<=1048576) (h1:hasNm M n=false) (h2:hasNm L n=true) (hn:n.size<=1048576) (hV:∀x ∈ L,x.ve.size<=1048576) :
  Calls Tryz.prog 31 #[.slice o L.length c,.slice o' M.length c',.string n] w fun e w'=>(∃T:ByteArray,e=.returned (.string T)/\T.data.toList=lineT (fnd L n) (fnd M n) n)/\w.grownBy w' none:=by
 have CEL:Hid (∀w',w.grownBy w' none->Calls Tryz.prog 29 #[.slice o L.length c,.string n] w' fun e w''=>∃c:Int,e=.returned (.int .i64 c)/\EntI L n c/\w'.grownBy w'' none):=fun w' hg=>entryOf_any _ L n w' (h.grow hg) hL
 have CEM:Hid (∀w',w.grownBy w' none->Calls Tryz.prog 29 #[.slice o' M.length c',.string n] w' fun e w''=>∃c:Int,e=.returned (.int .i64 c)/\EntI M n c/\w'.grownBy w'' none):=fun w' hg=>entryOf_any _ M n w' (h'.grow hg) hM
 have HL:Hid (EnS w (.slice o L.length c) L):=h
 have HM:Hid (EnS w (.slice o' M.length c') M):=h'
 have HV:Hid (∀x ∈ L,x.ve.size<=1048576):=hV
 have H1:Hid (hasNm M n=false):=h1
 have H2:Hid (hasNm L n=true):=h2
 obtain ⟨nl,hnl⟩:∃k,L.length=k:=⟨_,rfl⟩
 obtain ⟨nm,hnm⟩:∃k,M.length=k:=⟨_,rfl⟩
 have HNL:Hid (L.length=nl):=hnl
 have HNM:Hid (M.length=nm):=hnm
 rw [hnl] at CEL HL ⊢
 rw [hnm] at CEM HM ⊢
 obtain ⟨T0,hT0⟩:∃T,lineT (fnd L n) (fnd M n) n=T:=⟨_,rfl⟩
 have HT0:Hid (lineT (fnd L n) (fnd M n) n=T0):=hT0
 rw [hT0]
 clear h h' hV h1 h2 hnl hnm hT0
 have HG:Hid (w.grownBy w none):=gb_refl _ _
 go_enter Tryz.func31,Tryz.ntmps31
 go_wp2_with (first | (go_at_call 29;refine (CEL.out _ HG.out).mono ?_))
 rintro e w1 ⟨k1,rfl,hk1,hg1⟩
 replace HG:Hid (w.grownBy w1 none):=gb_trans HG.out hg1
 have HK1:Hid (EntI L n k1):=hk1
 clear hg1 hk1
 go_wp2_with (first | (go_at_call 29;refine (CEM.out _ HG.out).mono ?_))
 rintro e w2 ⟨k2,rfl,hk2,hg2⟩
 replace HG:Hid (w.grownBy w2 none):=gb_trans HG.out hg2
 have HK2:Hid (EntI M n k2):=hk2
 clear hg2 hk2
 have e1:k2=-1:=by
  rcases HK2.out with ⟨h,_⟩ | ⟨j,hj,_,h3,_⟩
  ·exact h
  ·have h4:=H1.out
   unfold hasNm at h4
   rw [List.any_eq_false] at h4
   have:=h4 _ (List.getElem_mem hj)
   simp [h3] at this
 obtain ⟨j,hj,e2,hjn,hjf⟩:∃j,∃hj:j < L.length,k1=(j:Int)/\L[j].nm=n/\hasNm (L.take j) n=false:=by
  rcases HK1.out with ⟨_,h⟩ | h
  ·rw [H2.out] at h;cases h
  ·exact h
 subst e1 e2
 have hx1:fnd M n=none:=fnd_no M n H1.out
 have hx2:fnd L n=some L[j]:=fnd_at L n j hj hjn hjf
 have hes:EnS w2 (.slice o L.length c) L:=by rw [HNL.out];exact HL.out.grow HG.out
 obtain ⟨b,rfl,hcp,hat⟩:=ens_at hes hj
 obtain ⟨e0,e1,-,-⟩:=hat j hj
 have hv:=HV.out _ (List.getElem_mem hj)
 obtain ⟨y,hy⟩:∃y,L[j]=y:=⟨_,rfl⟩
 rw [hy] at e1 hv hx2
 obtain ⟨v,hyv⟩:∃v,y.ve=v:=⟨_,rfl⟩
 rw [hyv] at e1 hv
 have HLT:Hid (lineT (fnd L n) (fnd M n) n=[100,114,111,112,32]++(n.data.toList++([32]++(v.data.toList++[10])))):=by
  show _=_
  rw [hx1,hx2,<-hyv];rfl
 have hjI:(j:Int) < (nl:Int):=by have:=HNL.out;omega
 have hjc:j < c:=by omega
 rw [HT0.out] at HLT
 have d1:∀wx,(Op.stringOp .add ⟨#[100,114,111,112,32]⟩ n).run Tryz.prog wx=.ok (.string (cat ⟨#[100,114,111,112,32]⟩ n)) wx:=fun wx=>add_cat _ _ wx (by show 5+_<=_;omega)
 have m1:=cat_list ⟨#[100,114,111,112,32]⟩ n
 have y1:(cat ⟨#[100,114,111,112,32]⟩ n).size=5+n.size:=cat_size _ _
 generalize cat ⟨#[100,114,111,112,32]⟩ n=S0 at d1 m1 y1
 have c1:∀wx,(Op.stringOp .add S0 ⟨#[32]⟩).run Tryz.prog wx=.ok (.string (cat S0 ⟨#[32]⟩)) wx:=fun wx=>add_cat _ _ wx (by show _+1<=_;omega)
 have l1:=cat_list S0 ⟨#[32]⟩
 have z1:(cat S0 ⟨#[32]⟩).size=S0.size+1:=cat_size _ _
 generalize cat S0 ⟨#[32]⟩=S1 at c1 l1 z1
 have c2:∀wx,(Op.stringOp .add S1 v).run Tryz.prog wx=.ok (.string (cat S1 v)) wx:=fun wx=>add_cat _ _ wx (by omega)
 have l2:=cat_list S1 v
 have z2:(cat S1 v).size=S1.size+v.size:=cat_size _ _
 generalize cat S1 v=S2 at c2 l2 z2
 have c3:∀wx,(Op.stringOp .add S2 ⟨#[10]⟩).run Tryz.prog wx=.ok (.string (cat S2 ⟨#[10]⟩)) wx:=fun wx=>add_cat _ _ wx (by show _+1<=_;omega)
 have l3:=cat_list S2 ⟨#[10]⟩
 have z3:(cat S2 ⟨#[10]⟩).size=S2.size+1:=cat_size _ _
 generalize cat S2 ⟨#[10]⟩=S3 at c3 l3 z3
 have HF:Hid (S3.data.toList=T0):=by
  show _=_
  rw [HLT.out,l3,l2,l1,m1];simp
 clear l1 l2 l3 m1 y1 z1 z2 z3 hes hat hy hyv hx1 hx2 hjn hjf
 go_wp2
 refine bodyPost_ret (results_tmp (t:=6) rfl _ _ _) rfl ⟨⟨_,rfl,HF.out⟩,HG.out⟩
end Go.Proofs.YtpeghomkaphdcaaGreatDoor
