import Derived.Test.YtbgnflcebafjjaaGreatDoorP06
import Derived.Test.YtbgnflcebafjjaaGreatDoorP08
import Derived.Laws.ResultCell
import Derived.Shelf.Strconv.AtoiAll
import Derived.Test.YtbgnflcebafjjaaGreatDoorProg
import Derived.Test.YtbgnflcebafjjaaGreatDoorP02
import Derived.Lib.AtoiTie
import Derived.Deep.RegionHeld3
namespace Go.Proofs.YtbgnflcebafjjaaGreatDoor
open Go.RowKit Go.Maps Go.WideMaps Go.Joins
set_option linter.unusedVariables false
structure Gl (w:World) (B:Nat) (E:Int->TypeId × Value):Prop where
 es:Es w E
 lo:Lo B
 tabs:Lib.Utf8Tabs 7 8 w
 t3:7 < B
 t4:8 < B
theorem Gl.bel {w w':World} {B:Nat} {E:Int->TypeId × Value} (h:Gl w B E) (hb:Below B w w'):Gl w' B E :=
 ⟨h.es.bel h.lo hb,h.lo,⟨fun c hc=>(cell_bel hb _ h.t3).trans (h.tabs.1 c hc),fun i hi=>⟨(cell_bel hb _ h.t4).trans (h.tabs.2 i hi).1,(cell_bel hb _ h.t4).trans (h.tabs.2 i hi).2⟩⟩,h.t3,h.t4⟩
theorem gb_belo {w w':World} {B R:Nat} (hg:w.grownBy w' (some R)) (hR:B<=R) (hB:B<=w.heap.size):Below B w w':=⟨hg.os,hg.tape,hg.output,hg.size,fun k hk=>hg.block k (by omega) (by simp;omega)⟩
theorem Gl.gb {w w':World} {B R:Nat} {E:Int->TypeId × Value} (h:Gl w B E) (hg:w.grownBy w' (some R)) (hR:B<=R) (hB:B<=w.heap.size):Gl w' B E:=h.bel (gb_belo hg hR hB)
theorem far_of {B R:Nat} (h:Lo B) (hR:B<=R):Far R:=⟨by have:=h.te;omega,by have:=h.ra;omega,by have:=h.ma;omega,by have:=h.tw;omega⟩
theorem gb_new {w W:World} {r:Option Nat} {b:Nat} (h:w.grownBy W r) (hb:w.heap.size<=b) (o:Nat) (v:Value):w.grownBy (W.setCell ⟨b,o,none⟩ v) r :=
 ⟨h.os,h.tape,h.output,by have:=h.size;simpa [World.setCell] using this,fun k hk hn=>(heap_setCell_other _ _ _ _ (by simp;omega)).trans (h.block k hk hn)⟩
theorem results_cell_row2 {P:Program} {fn:Func} {p u:Tmp} {ty:TypeId} (h:fn.results=#[.cell p ty,.tmp u]) (tmps:Array Value) (w:World) (g:Nat) (t:TypeId) (cs:Array Value) (fr:Nat × Nat) (d:TypeDesc)
  (hp:tmps.getD p undef=.pointer (some ⟨g,0,none⟩)) (hg:w.heap[g]?=some (.cells cs t fr))
  (hu:P.underlying ty=some d) (hd:(match d with | .struct _ | .array _ _=>true | _=>false)=true) (hi:(P.info? ty).map (·.size)=some cs.size) :
  (results fn tmps).run P w=.ok (.tuple #[.agg cs,tmps.getD u undef]) w:=by
 have hp':tmps[p]?.getD undef=.pointer (some ⟨g,0,none⟩):=by simpa using hp
 rw [results_cell_tmp h]
 simp [hp',asAddr,run_loadVar_row w g t ty cs fr d hg hu hd hi,Result.andThen]
def KePost (R:Nat) (s:ByteArray) (T:Nat) (E:Int->TypeId × Value) (i:Nat) (g:Rs (List UInt8 × Nat)) (w:World) (e:Ending) (w':World):Prop :=
 (∀k j,g=.ok (k,j)->e=.returned (.tuple #[.agg #[.string ⟨k.toArray⟩,.int .i64 (i:Nat)],.nilIface])/\Rd w' R s j T)/\(∀c p,g=.error (c,p)->∃(a:ByteArray) (b:Int) (v:Value),e=.returned (.tuple #[.agg #[.string a,.int .i64 b],v])/\FaultE w' v E c p)/\w.grownBy w' (some R)
theorem faultE_new {w:World} {v:Value} {E:Int->TypeId × Value} {c:Int} {p Z o:Nat} {cs:Array Value} {x:Value} (h:FaultE w v E c p) (hZ:w.heap[Z]?=some (.cells cs 133 (0,0))):FaultE (w.setCell ⟨Z,o,none⟩ x) v E c p:=by
 obtain ⟨F,h1,h2⟩:=h
 exact ⟨F,h1,(heap_setCell_other _ _ _ _ (ne_typ h2 hZ (by decide))).trans h2⟩
theorem Rd.new {w:World} {R:Nat} {s:ByteArray} {i T Z o:Nat} {cs:Array Value} {x:Value} (h:Rd w R s i T) (hZ:w.heap[Z]?=some (.cells cs 133 (0,0))):Rd (w.setCell ⟨Z,o,none⟩ x) R s i T:=(heap_setCell_other _ _ _ _ (ne_typ h hZ (by decide))).trans h
theorem key_set2 {w:World} {Z:Nat} {a b x y:Value} (h:w.heap[Z]?=some (.cells #[a,b] 133 (0,0))):((w.setCell ⟨Z,0,none⟩ x).setCell ⟨Z,1,none⟩ y).heap[Z]?=some (.cells #[x,y] 133 (0,0)):=block_setCell (i:=1) (block_setCell (i:=0) h x) y
set_option maxRecDepth 100000 in
set_option maxHeartbeats 3200000 in
theorem tKey_any (R:Nat) (s:ByteArray) (i T B:Nat) (E:Int->TypeId × Value) (w:World) (h:Rd w R s i T) (hi:i<=s.size) (hs:s.size<=1048576) (G:Gl w B E) (hR:B<=R) (hBw:B<=w.heap.size) :
  Calls Tryz.prog 75 #[.pointer (some ⟨R,0,none⟩)] w (KePost R s T E i (rdKey s.data.toList i) w):=by
 have CN:Hid (∀k w,Rd w R s k T->k<=s.size->Calls Tryz.prog 40 #[.pointer (some ⟨R,0,none⟩)] w fun e w'=>e=.returned (.int .i64 (nx s.data.toList k))/\w.grownBy w' none):=fun k w h1 h2=>tNext_any R s k T w h1 h2 hs
 have CB:Hid (∀c w,Calls Tryz.prog 42 #[.int .i64 c] w fun e w'=>e=.returned (.bool (isBa c))/\w'=w):=tBare_any
 have CH:Hid (∀k w',w.grownBy w' (some R)->Rd w' R s k T->Calls Tryz.prog 79 #[.pointer (some ⟨R,0,none⟩)] w' fun e w''=>(∃v,e=.returned v/\FaultE w'' v E 2 k)/\w'.grownBy w'' none):=fun k w' hg hr=>(tHere_any R s k T (E 2).1 (E 2).2 w' hr (G.gb hg hR hBw).es.te).mono fun e w'' h=>h
 have CQ:Hid (i < s.size->∀w',w.grownBy w' (some R)->Rd w' R s i T->Calls Tryz.prog 99 #[.pointer (some ⟨R,0,none⟩)] w' (StPost R s T E (str s.data.toList (s.data.toList.length+1) (i+1) []) w')):=fun hlt w' hg hr=>tQuoted_any R s i T E w' hr hlt hs (G.gb hg hR hBw).es (far_of G.lo hR) (G.gb hg hR hBw).tabs (by have:=G.t3;omega) (by have:=G.t4;omega)
 have CC:Hid (∀(t:ByteArray) w,t.size<=1048576->Calls Tryz.prog 100 #[.string t] w fun e w'=>e=.returned (.string t)/\w.grownBy w' none):=fun t w ht=>clone_any t w (by omega)
 have hl:s.data.toList.length=s.size:=by simp
 have HLQ:Hid (nx s.data.toList i=34->i < s.size):=fun hx=>by
  have:=nx_lt (l:=s.data.toList) (i:=i) (by rw [hx];decide)
  omega
 have HST:Hid (∀k,k < s.size->isBa (nx s.data.toList k)=true->toR isBa s.data.toList k=toR isBa s.data.toList (k+1)):=fun k hk hb=>toR_step isBa _ k (by omega) hb
 have HSP:Hid (∀k,isBa (nx s.data.toList k)=false->toR isBa s.data.toList k=k):=fun k hb=>toR_stop isBa _ k hb
 have HLT:Hid (∀k,k<=s.size->isBa (nx s.data.toList k)=true->k < s.size):=fun k hk hb=>by
  apply Classical.byContradiction
  intro hn
  rw [nx_end _ _ (by omega)] at hb
  exact absurd hb (by decide)
 have HRE:Hid (rdKey s.data.toList i=if nx s.data.toList i=34 then str s.data.toList (s.data.toList.length+1) (i+1) [] else if toR isBa s.data.toList i=i then .error (2,i) else .ok (subT s.data.toList i (toR isBa s.data.toList i - i),toR isBa s.data.toList i)):=rfl
 have hij:=toR_le isBa s.data.toList i (by omega)
 rw [hl] at hij
 obtain ⟨J,hJ⟩:∃J,toR isBa s.data.toList i=J:=⟨_,rfl⟩
 have HJ:Hid (toR isBa s.data.toList i=J):=hJ
 rw [hJ] at HRE hij
 obtain ⟨hij1,hij2⟩:=hij
 obtain ⟨X,hX⟩:∃X:ByteArray,X=⟨(subT s.data.toList i (J - i)).toArray⟩:=⟨_,rfl⟩
 have s1:∀wx,(Instr.slice 9 (.string s) (some (.int .i64 (i:Int))) (some (.int .i64 (J:Int))) none).run Tryz.prog wx=.ok (.string X) wx:=fun wx=>by rw [hX];exact run_sub s i J hij1 hij2 wx
 have HXE:Hid (X=⟨(subT s.data.toList i (J - i)).toArray⟩):=hX
 have HXS:Hid (X.size<=1048576):=by
  show _<=_
  rw [hX]
  show (subT s.data.toList i (J - i)).toArray.size<=_
  unfold subT
  simp
  omega
 obtain ⟨SQ,hSQ⟩:∃SQ,str s.data.toList (s.data.toList.length+1) (i+1) []=SQ:=⟨_,rfl⟩
 rw [hSQ] at CQ HRE
 obtain ⟨G0,hG0⟩:∃G0,rdKey s.data.toList i=G0:=⟨_,rfl⟩
 rw [hG0] at HRE ⊢
 have hgZ:w.grownBy (w.alloc (.cells #[.string ⟨#[]⟩,.int .i64 0] 133)) (some R):=World.grownBy_alloc w _ _
 have hgZ0:w.grownBy (w.alloc (.cells #[.string ⟨#[]⟩,.int .i64 0] 133)) none:=World.grownBy_alloc w _ _
 have hbZ:=heap_alloc_new w (.cells #[.string ⟨#[]⟩,.int .i64 0] 133)
 obtain ⟨Z,hZ⟩:∃Z,w.heap.size=Z:=⟨_,rfl⟩
 rw [hZ] at hbZ
 obtain ⟨w1,hw1⟩:∃w1,w.alloc (.cells #[.string ⟨#[]⟩,.int .i64 0] 133)=w1:=⟨_,rfl⟩
 rw [hw1] at hgZ hgZ0 hbZ
 have HG1:Hid (w.grownBy w1 (some R)):=hgZ
 have HZ1:Hid (w1.heap[Z]?=some (.cells #[.string ⟨#[]⟩,.int .i64 0] 133 (0,0))):=hbZ
 have H1:Hid (Rd w1 R s i T):=h.grow hgZ0
 have HZR:Hid (¬ Z=R):=ne_typ hbZ H1.out (by decide)
 obtain ⟨c0,c1,-,-⟩:=H1.out.cells
 have C1:Hid (Calls Tryz.prog 40 #[.pointer (some ⟨R,0,none⟩)] w1 fun e w'=>e=.returned (.int .i64 (nx s.data.toList i))/\w1.grownBy w' none):=CN.out i w1 H1.out hi
 obtain ⟨x,hx⟩:∃x,nx s.data.toList i=x:=⟨_,rfl⟩
 rw [hx] at C1 HRE HLQ
 have HZs:Hid (w.heap.size<=Z):=by show _<=_;omega
 clear h hJ hX hSQ hG0 hgZ hgZ0 hbZ hx G
 go_enter Tryz.func75,Tryz.ntmps75
 go_wp2_with (first | (go_at_call 40;refine C1.out.mono ?_))
 rintro e w2 ⟨rfl,hg2⟩
 have HG2:Hid (w.grownBy w2 (some R)):=gb_more HG1.out hg2
 have HR2:Hid (Rd w2 R s i T):=H1.out.grow hg2
 have HZ2:Hid (w2.heap[Z]?=some (.cells #[.string ⟨#[]⟩,.int .i64 0] 133 (0,0))):=blk_gb HZ1.out hg2
 clear hg2 c0 c1
 by_cases hx34:x=34
 ·have hb:(x == 34)=true:=by simp [hx34]
  have hil:=HLQ.out hx34
  have HRG:Hid (G0=SQ):=by show _=_;rw [HRE.out,if_pos hx34]
  clear hx34
  go_wp2_with (first | (go_at_call 99;refine (CQ.out hil _ HG2.out HR2.out).mono ?_))
  rintro e w3 ⟨p1,p2,p3⟩
  have HG3:Hid (w.grownBy w3 (some R)):=gb_two HG2.out p3
  have hZ3:w3.heap[Z]?=some (.cells #[.string ⟨#[]⟩,.int .i64 0] 133 (0,0)):=(p3.block Z (blk_lt HZ2.out) (by simp only [ne_eq,Option.some.injEq];exact HZR.out)).trans HZ2.out
  have HZ3:Hid (w3.heap[Z]?=some (.cells #[.string ⟨#[]⟩,.int .i64 0] 133 (0,0))):=hZ3
  obtain ⟨z0,z1,zf⟩:=two_cells hZ3
  have zf0:=zf 0
  have zf1:=zf 1
  cases SQ with
  | error ec =>
   obtain ⟨ec1,ec2⟩:=ec
   obtain ⟨v,rfl,hv,-⟩:=p2 ec1 ec2 rfl
   have HFV:Hid (FaultE w3 v E ec1 ec2):=hv
   clear p1 p2 p3 hv hZ3 zf
   go_wp2
   refine bodyPost_ret (results_cell_row2 rfl _ _ Z 133 #[.string ⟨#[]⟩,.int .i64 (i:Nat)] (0,0) _ rfl (key_set2 HZ3.out) Tryz.underlying133 rfl (by kernel_rfl)) rfl ?_
   rw [HRG.out]
   exact ⟨fun k j hh=>(by cases hh),fun c p hh=>(by cases hh;exact ⟨_,_,v,rfl,faultE_new (faultE_new HFV.out HZ3.out) (block_setCell (i:=0) HZ3.out _)⟩),gb_new (gb_new HG3.out HZs.out 0 _) HZs.out 1 _⟩
  | ok q =>
   obtain ⟨tx,j⟩:=q
   obtain ⟨rfl,hr3⟩:=p1 tx j rfl
   have HR3:Hid (Rd w3 R s j T):=hr3
   clear p1 p2 p3 hr3 hZ3 zf
   go_wp2
   refine bodyPost_ret (results_cell_row2 rfl _ _ Z 133 #[.string ⟨tx.toArray⟩,.int .i64 (i:Nat)] (0,0) _ rfl (key_set2 HZ3.out) Tryz.underlying133 rfl (by kernel_rfl)) rfl ?_
   rw [HRG.out]
   exact ⟨fun k j hh=>(by cases hh;exact ⟨rfl,(HR3.out.new HZ3.out).new (block_setCell (i:=0) HZ3.out _)⟩),fun c p hh=>(by cases hh),gb_new (gb_new HG3.out HZs.out 0 _) HZs.out 1 _⟩
 ·have hb:(x == 34)=false:=by simp [hx34]
  have HRG:Hid (G0=if J=i then .error (2,i) else .ok (subT s.data.toList i (J - i),J)):=by show _=_;rw [HRE.out,if_neg hx34]
  clear hx34
  go_wp2
  go_loopw [] (fun wr=>∃k:Nat,Rd wr R s k T/\k<=s.size/\toR isBa s.data.toList k=J/\w.grownBy wr (some R)/\wr.heap[Z]?=some (.cells #[.string ⟨#[]⟩,.int .i64 0] 133 (0,0))) (fun wr=>s.size - (match wr.cell? ⟨R,1,none⟩ with | some (.int _ k)=>k.toNat | _=>0))
  case atStart=>exact ⟨i,HR2.out,hi,HJ.out,HG2.out,HZ2.out⟩
  case round =>
   obtain ⟨k,hrd,hk,hbl,hg,hzr⟩:=hrel
   have HRD:Hid (Rd wr R s k T):=hrd
   have HBL:Hid (toR isBa s.data.toList k=J):=hbl
   have HG:Hid (w.grownBy wr (some R)):=hg
   have HZr:Hid (wr.heap[Z]?=some (.cells #[.string ⟨#[]⟩,.int .i64 0] 133 (0,0))):=hzr
   have Ck:Hid (Calls Tryz.prog 40 #[.pointer (some ⟨R,0,none⟩)] wr fun e w'=>e=.returned (.int .i64 (nx s.data.toList k))/\wr.grownBy w' none):=CN.out k wr hrd hk
   have HME:Hid ((match wr.cell? ⟨R,1,none⟩ with | some (.int _ k)=>k.toNat | _=>0)=k):=by show _=_;rw [hrd.cells.2.1];simp
   have HS1:Hid (isBa (nx s.data.toList k)=true->toR isBa s.data.toList k=toR isBa s.data.toList (k+1)):=fun hb=>HST.out k (HLT.out k hk hb) hb
   have HS2:Hid (isBa (nx s.data.toList k)=false->toR isBa s.data.toList k=k):=HSP.out k
   have HL2:Hid (isBa (nx s.data.toList k)=true->k < s.size):=HLT.out k hk
   obtain ⟨c,hc⟩:∃c,nx s.data.toList k=c:=⟨_,rfl⟩
   rw [hc] at Ck HS1 HS2 HL2
   have CB1:Hid (∀w,Calls Tryz.prog 42 #[.int .i64 c] w fun e w'=>e=.returned (.bool (isBa c))/\w'=w):=fun w=>CB.out c w
   obtain ⟨b,hb⟩:∃b,isBa c=b:=⟨_,rfl⟩
   rw [hb] at CB1 HS1 HS2 HL2
   clear hrd hbl hg hzr hc hb
   cases b with
   | true =>
    have hkl:k < s.size:=HL2.out (by trivial)
    have HN:Hid (toR isBa s.data.toList (k+1)=J):=(HS1.out (by trivial)).symm.trans HBL.out
    go_wp2_with (first | (go_at_call 40;refine Ck.out.mono ?_;rintro e w3 ⟨rfl,hg3⟩;obtain ⟨-,d1,-,df⟩:=(HRD.out.grow hg3).cells;have df1:=df 1) | (go_at_call 42;refine (CB1.out _).mono ?_;rintro e w' ⟨rfl,rfl⟩))
    have HS3:Hid (Rd (w'.setCell ⟨R,1,none⟩ (.int .i64 ((k:Int)+1))) R s (k+1) T):=(HRD.out.grow hg3).set (k+1)
    refine ⟨⟨k+1,HS3.out,by omega,HN.out,gb_set (gb_more HG.out hg3) 1 _,(heap_setCell_other _ _ _ _ (by simp only [];exact HZR.out)).trans (blk_gb HZr.out hg3)⟩,?_⟩
    rw [HME.out,HS3.out.cells.2.1]
    simp
    omega
   | false =>
    have HKJ:Hid (k=J):=(HS2.out (by trivial)).symm.trans HBL.out
    go_wp2_with (first | (go_at_call 40;refine Ck.out.mono ?_))
    rintro e w3 rfl hg3
    have HR3:Hid (Rd w3 R s J T):=by rw [<-HKJ.out];exact HRD.out.grow hg3
    have HG3:Hid (w.grownBy w3 (some R)):=gb_more HG.out hg3
    have HZ3:Hid (w3.heap[Z]?=some (.cells #[.string ⟨#[]⟩,.int .i64 0] 133 (0,0))):=blk_gb HZr.out hg3
    obtain ⟨d0,d1,-,-⟩:=HR3.out.cells
    clear hg3
    by_cases hJi:J=i
    ·have hbj:((J:Int) == (i:Int))=true:=by simp [hJi]
     have HGE:Hid (G0=.error (2,J)):=by show _=_;rw [HRG.out,if_pos hJi,hJi]
     have CH1:Hid (Calls Tryz.prog 79 #[.pointer (some ⟨R,0,none⟩)] w3 fun e w''=>(∃v,e=.returned v/\FaultE w'' v E 2 J)/\w3.grownBy w'' none):=CH.out J _ HG3.out HR3.out
     clear hJi
     go_wp2_with (first | (go_at_call 42;refine (CB1.out _).mono ?_;rintro e w' ⟨rfl,rfl⟩) | (go_at_call 79;refine CH1.out.mono ?_;rintro e w4 ⟨⟨v,rfl,hv⟩,hg4⟩;obtain ⟨z0,z1,zf⟩:=two_cells (blk_gb HZ3.out hg4);have zf0:=zf 0;have zf1:=zf 1))
     have hZ4:=blk_gb HZ3.out hg4
     refine bodyPost_ret (results_cell_row2 rfl _ _ Z 133 #[.string ⟨#[]⟩,.int .i64 0] (0,0) _ rfl (key_set2 hZ4) Tryz.underlying133 rfl (by kernel_rfl)) rfl ?_
     rw [HGE.out]
     exact ⟨fun k j hh=>(by cases hh),fun c p hh=>(by cases hh;exact ⟨_,_,v,rfl,faultE_new (faultE_new hv hZ4) (block_setCell (i:=0) hZ4 _)⟩),gb_new (gb_new (gb_more HG3.out hg4) HZs.out 0 _) HZs.out 1 _⟩
    ·have hbj:((J:Int) == (i:Int))=false:=by rw [beq_eq_false_iff_ne];omega
     have HGE:Hid (G0=.ok (subT s.data.toList i (J - i),J)):=by show _=_;rw [HRG.out,if_neg hJi]
     have CC1:Hid (∀w,Calls Tryz.prog 100 #[.string X] w fun e w'=>e=.returned (.string X)/\w.grownBy w' none):=fun w=>CC.out X w HXS.out
     clear hJi
     go_wp2_with (first | (go_at_call 42;refine (CB1.out _).mono ?_;rintro e w' ⟨rfl,rfl⟩))
     go_region_with (first | (go_at_call 100;refine (CC1.out _).mono ?_;rintro e w6 ⟨rfl,hg6⟩;have hg66:w'.grownBy w6 none:=⟨hg6.os,hg6.tape,hg6.output,hg6.size,hg6.block⟩;obtain ⟨z0,z1,zf⟩:=two_cells (blk_gb HZ3.out hg66);have zf0:=zf 0;have zf1:=zf 1))
     all_goals (
      have hZ4:=blk_gb HZ3.out hg66
      go_wp2
      refine bodyPost_ret (results_cell_row2 rfl _ _ Z 133 #[.string X,.int .i64 (i:Nat)] (0,0) _ rfl (key_set2 hZ4) Tryz.underlying133 rfl (by kernel_rfl)) rfl ?_
      rw [HGE.out]
      exact ⟨fun k j hh=>(by cases hh;rw [<-HXE.out];exact ⟨rfl,((HR3.out.grow hg66).new hZ4).new (block_setCell (i:=0) hZ4 _)⟩),fun c p hh=>(by cases hh),gb_new (gb_new (gb_more HG3.out hg66) HZs.out 0 _) HZs.out 1 _⟩)
end Go.Proofs.YtbgnflcebafjjaaGreatDoor
namespace Go.Proofs.YtbgnflcebafjjaaGreatDoor
open Go.RowKit Go.Joins
set_option linter.unusedVariables false
theorem gap_ok (l:List UInt8):∀(f i j:Nat),i<=l.length->gap l f i=.ok j->i<=j/\j<=l.length:=by
 intro f
 induction f with
 | zero=>intro i j hi h;cases h
 | succ f ih =>
  intro i j hi h
  rw [gap_step] at h
  have h1:=bl_le l i hi
  have h2:=cmt_le l (bl l i) h1.2
  split at h
  ·cases h
  ·split at h
   ·rename_i hx
    have h3:=nx_lt (l:=l) (i:=(cmt l (bl l i)).2) (by rw [hx];decide)
    have:=ih _ j (by omega) h
    omega
   ·cases h
    omega
theorem rdInt_ok (l:List UInt8) (i:Nat) (n:Int) (j:Nat) (hi:i < l.length) (h:rdInt l i=.ok (n,j)):i < j/\j<=l.length:=by
 unfold rdInt at h
 simp only [] at h
 have ha:i<=(if isDg (nx l i)=true then i else i+1)/\(if isDg (nx l i)=true then i else i+1)<=l.length:=by split <;> omega
 generalize (if isDg (nx l i)=true then i else i+1)=a at h ha
 have hj:=toR_le isDg l a ha.2
 split at h
 ·cases h
 ·rename_i hn
  split at h
  ·cases h
  ·have hne:¬ toR isDg l a=a:=fun e=>hn (Or.inl e)
   cases h
   omega
theorem rdTru_ok (l:List UInt8) (i:Nat) (n:Int) (j:Nat) (hi:i<=l.length) (h:rdTru l i=.ok (n,j)):i < j/\j<=l.length:=by
 rw [rdTru_eq] at h
 have hj:=toR_le isSm l i hi
 have key:∀t:List UInt8,subT l i (toR isSm l i - i)=t->t ≠ []->i < toR isSm l i:=fun t e ht=>by
  apply Classical.byContradiction
  intro hn
  apply ht
  rw [<-e]
  unfold subT
  rw [show toR isSm l i - i=0 by omega]
  simp
 split at h
 ·rename_i e
  have:=key _ e (by simp)
  cases h
  omega
 ·split at h
  ·rename_i e
   have:=key _ e (by simp)
   cases h
   omega
  ·cases h
structure Ad (ns ns':List Tn) (own:List Nat) (i j n:Nat):Prop where
 wf:WF ns' own
 wt:WT ns'
 lo:ns.length<=ns'.length
 hi:ns'.length+i<=ns.length+j
 kd:∀q,q < ns.length->kdAt ns' q=kdAt ns q
 fw:i < j
 en:j<=n
theorem ad_one {ns:List Tn} {own:List Nat} {up i j n:Nat} {x:Tn} (W:WF ns own) (V:WT ns) (hu:up < ns.length) (h2:¬ kdAt ns up=2) (hx:x.ks=[]) (hk:¬ x.kd=2) (hij:i < j) (hjn:j<=n):Ad ns (addN ns up x) own i j n :=
 ⟨wf_add ns own up x hx hu W,wt_add ns own W up x hu V hk (Or.inl h2),by rw [addN_len];omega,by rw [addN_len];omega,fun q hq=>by rw [kdAt_addN ns up x hu,if_neg (by omega)],hij,hjn⟩
theorem Ad.trans {a b c:List Tn} {own:List Nat} {i j k n:Nat} (h:Ad a b own i j n) (h':Ad b c own j k n):Ad a c own i k n :=
 ⟨h'.wf,h'.wt,Nat.le_trans h.lo h'.lo,by have:=h.hi;have:=h'.hi;omega,fun q hq=>(h'.kd q (Nat.lt_of_lt_of_le hq h.lo)).trans (h.kd q hq),Nat.lt_trans h.fw h'.fw,h'.en⟩
theorem Ad.wide {a b:List Tn} {own:List Nat} {i i' j j' n:Nat} (h:Ad a b own i j n) (hi:i'<=i) (hj:j<=j') (hn:j'<=n):Ad a b own i' j' n :=
 ⟨h.wf,h.wt,h.lo,by have:=h.hi;omega,h.kd,by have:=h.fw;omega,hn⟩
theorem val_step (l:List UInt8) (f i up:Nat) (k:List UInt8) (p d:Nat) (ns:List Tn):val l (f+1) i up k p d ns =
  if nx l i=34 then (match str l (l.length+1) (i+1) [] with | .error e=>.error e | .ok (t,j)=>.ok (j,addN ns up ⟨3,k,t,0,[],p⟩))
  else if nx l i=43\/nx l i=45\/isDg (nx l i)=true then (match rdInt l i with | .error e=>.error e | .ok (n,j)=>.ok (j,addN ns up ⟨4,k,[],n,[],p⟩))
  else if nx l i=116\/nx l i=102 then (match rdTru l i with | .error e=>.error e | .ok (n,j)=>.ok (j,addN ns up ⟨5,k,[],n,[],p⟩))
  else if nx l i=91 then (if d=8 then .error (4,i) else lst l f (i+1) ns.length (d+1) (addN ns up ⟨1,k,[],0,[],p⟩))
  else .error (2,i):=by
 rw [val]
 rfl
theorem lst_step (l:List UInt8) (f i up d:Nat) (ns:List Tn):lst l (f+1) i up d ns =
  match gap l (l.length+1) i with
  | .error e=>.error e
  | .ok j =>
   if nx l j=93 then .ok (j+1,ns)
   else match val l f j up [] j d ns with
    | .error e=>.error e
    | .ok (j1,ns1)=>match gap l (l.length+1) j1 with
     | .error e=>.error e
     | .ok j2=>if nx l j2=44 then lst l f (j2+1) up d ns1 else if nx l j2=93 then .ok (j2+1,ns1) else .error (2,j2):=by
 rw [lst]
 rfl
theorem val_lst_ok (l:List UInt8) (own:List Nat):∀f:Nat,(∀i up k p d ns j ns',i<=l.length->WF ns own->WT ns->up < ns.length->¬ kdAt ns up=2->val l f i up k p d ns=.ok (j,ns')->Ad ns ns' own i j l.length)/\(∀i up d ns j ns',i<=l.length->WF ns own->WT ns->up < ns.length->¬ kdAt ns up=2->lst l f i up d ns=.ok (j,ns')->WF ns' own/\WT ns'/\ns.length<=ns'.length/\ns'.length+i<=ns.length+j/\(∀q,q < ns.length->kdAt ns' q=kdAt ns q)/\i < j/\j<=l.length):=by
 intro f
 induction f with
 | zero =>
  refine ⟨fun i up k p d ns j ns' _ _ _ _ _ h=>?_,fun i up d ns j ns' _ _ _ _ _ h=>?_⟩
  ·rw [val] at h;cases h
  ·rw [lst] at h;cases h
 | succ f ih =>
  refine ⟨fun i up k p d ns j ns' hi W V hu h2 h=>?_,fun i up d ns j ns' hi W V hu h2 h=>?_⟩
  ·rw [val_step] at h
   split at h
   ·rename_i hx
    have hlt:=nx_lt (l:=l) (i:=i) (by rw [hx];decide)
    cases hs:str l (l.length+1) (i+1) [] with
    | error e=>rw [hs] at h;cases h
    | ok q =>
     obtain ⟨t,j'⟩:=q
     rw [hs] at h
     obtain ⟨a,b,-⟩:=str_ok l _ (i+1) [] t j' (by omega) hs
     cases h
     exact ad_one W V hu h2 rfl (fun e=>absurd (show (3:Int)=2 from e) (by decide)) (by omega) b
   ·split at h
    ·rename_i hx
     have hlt:i < l.length:=by
      apply nx_lt
      rcases hx with hx | hx | hx
      ·rw [hx];decide
      ·rw [hx];decide
      ·have:=of_decide_eq_true hx;omega
     cases hs:rdInt l i with
     | error e=>rw [hs] at h;cases h
     | ok q =>
      obtain ⟨t,j'⟩:=q
      rw [hs] at h
      obtain ⟨a,b⟩:=rdInt_ok l i t j' hlt hs
      cases h
      exact ad_one W V hu h2 rfl (fun e=>absurd (show (4:Int)=2 from e) (by decide)) a b
    ·split at h
     ·cases hs:rdTru l i with
      | error e=>rw [hs] at h;cases h
      | ok q =>
       obtain ⟨t,j'⟩:=q
       rw [hs] at h
       obtain ⟨a,b⟩:=rdTru_ok l i t j' hi hs
       cases h
       exact ad_one W V hu h2 rfl (fun e=>absurd (show (5:Int)=2 from e) (by decide)) a b
     ·split at h
      ·rename_i hx
       have hlt:=nx_lt (l:=l) (i:=i) (by rw [hx];decide)
       split at h
       ·cases h
       ·have A:=ad_one (i:=i) (j:=i+1) (n:=l.length) (x:=⟨1,k,[],0,[],p⟩) W V hu h2 rfl (fun e=>absurd (show (1:Int)=2 from e) (by decide)) (by omega) (by omega)
        obtain ⟨a1,a2,a3,a4,a5,a6,a7⟩:=ih.2 (i+1) ns.length (d+1) _ j ns' (by omega) A.wf A.wt (by rw [addN_len];omega) (by rw [kdAt_addN ns up _ hu,if_pos rfl];exact fun e=>absurd (show (1:Int)=2 from e) (by decide)) h
        have e1:=A.hi
        have e2:=A.lo
        exact ⟨a1,a2,by omega,by omega,fun q hq=>(a5 q (by omega)).trans (A.kd q hq),by omega,a7⟩
      ·cases h
  ·rw [lst_step] at h
   cases hg:gap l (l.length+1) i with
   | error e=>rw [hg] at h;cases h
   | ok j0 =>
    rw [hg] at h
    simp only [] at h
    obtain ⟨g1,g2⟩:=gap_ok l _ i j0 hi hg
    split at h
    ·rename_i hx
     have hlt:=nx_lt (l:=l) (i:=j0) (by rw [hx];decide)
     cases h
     exact ⟨W,V,Nat.le_refl _,by omega,fun _ _=>rfl,by omega,by omega⟩
    ·cases hv:val l f j0 up [] j0 d ns with
     | error e=>rw [hv] at h;cases h
     | ok q =>
      obtain ⟨j1,ns1⟩:=q
      rw [hv] at h
      simp only [] at h
      have A:=ih.1 j0 up [] j0 d ns j1 ns1 g2 W V hu h2 hv
      have e1:=A.hi
      have e2:=A.lo
      have e3:=A.fw
      have e4:=A.en
      cases hg2:gap l (l.length+1) j1 with
      | error e=>rw [hg2] at h;cases h
      | ok j2 =>
       rw [hg2] at h
       simp only [] at h
       obtain ⟨g3,g4⟩:=gap_ok l _ j1 j2 A.en hg2
       split at h
       ·rename_i hx
        have hlt:=nx_lt (l:=l) (i:=j2) (by rw [hx];decide)
        obtain ⟨a1,a2,a3,a4,a5,a6,a7⟩:=ih.2 (j2+1) up d ns1 j ns' (by omega) A.wf A.wt (by omega) (by rw [A.kd up hu];exact h2) h
        exact ⟨a1,a2,by omega,by omega,fun q hq=>(a5 q (by omega)).trans (A.kd q hq),by omega,a7⟩
       ·split at h
        ·rename_i hx
         have hlt:=nx_lt (l:=l) (i:=j2) (by rw [hx];decide)
         cases h
         exact ⟨A.wf,A.wt,A.lo,by omega,A.kd,by omega,by omega⟩
        ·cases h
end Go.Proofs.YtbgnflcebafjjaaGreatDoor
namespace Go.Proofs
open Go.Shelf
def Tryz.lays172_ren:Go.Shelf.Ren:=⟨fun | 129=>135 | 171=>93 | 172=>121 | 205=>169 | 243=>115 | 244=>142 | 245=>143 | 246=>138 | 247=>158 | 279=>159 | 280=>160 | 281=>161 | 282=>162 | 283=>151 | 284=>152 | 285=>153 | 286=>154 | 287=>168 | 316=>120 | 317=>164 | 318=>165 | 319=>166 | 320=>167 | 321=>172 | 322=>173 | 337=>170 | 338=>171 | n=>n,fun | 22=>41 | 27=>155 | 28=>31 | 31=>108 | 34=>54 | 35=>157 | 37=>74 | 40=>212 | 41=>71 | 42=>158 | 43=>156 | 46=>175 | 47=>174 | 48=>200 | 49=>258 | 51=>193 | 52=>192 | 53=>195 | 54=>194 | 55=>177 | 69=>87 | 70=>73 | 71=>75 | 72=>76 | 73=>79 | 74=>42 | 75=>43 | 76=>118 | 77=>119 | 78=>121 | 79=>180 | 80=>85 | 81=>90 | 83=>127 | 84=>196 | 85=>218 | 86=>219 | 94=>125 | 104=>34 | 105=>181 | 106=>182 | 108=>233 | 111=>91 | 112=>159 | 114=>211 | 119=>213 | 126=>198 | 127=>126 | 128=>199 | 131=>190 | 137=>214 | 138=>215 | 139=>216 | 143=>235 | 144=>236 | 145=>237 | 164=>93 | 165=>176 | 167=>217 | 168=>220 | 169=>221 | 170=>222 | 171=>207 | 172=>208 | 173=>209 | 174=>210 | 175=>229 | 176=>230 | 182=>185 | 183=>186 | 209=>231 | 210=>232 | 211=>226 | 212=>227 | 213=>228 | 214=>234 | 218=>201 | 219=>202 | 220=>203 | 222=>205 | 228=>223 | 229=>224 | 232=>238 | 233=>239 | 238=>240 | 239=>241 | 240=>242 | 241=>243 | 242=>244 | 243=>246 | 244=>101 | 245=>247 | 246=>248 | 247=>249 | 248=>250 | 249=>251 | n=>n,fun | 1=>6 | 3=>7 | 4=>8 | 15=>10 | 16=>11 | 17=>9 | 18=>12 | 19=>13 | n=>n⟩
set_option maxRecDepth 100000 in
theorem Tryz.lays172:Go.Proofs.LaysC.n172 Tryz.prog Tryz.lays172_ren:={
 mixed:=by kernel_rfl
 f129:=Tryz.func135.trans (congrArg some (by kernel_rfl))
 f171:=Tryz.func93.trans (congrArg some (by kernel_rfl))
 f172:=Tryz.func121.trans (congrArg some (by kernel_rfl))
 f205:=Tryz.func169.trans (congrArg some (by kernel_rfl))
 f243:=Tryz.func115.trans (congrArg some (by kernel_rfl))
 f244:=Tryz.func142.trans (congrArg some (by kernel_rfl))
 f245:=Tryz.func143.trans (congrArg some (by kernel_rfl))
 f246:=Tryz.func138.trans (congrArg some (by kernel_rfl))
 f247:=Tryz.func158.trans (congrArg some (by kernel_rfl))
 f279:=Tryz.func159.trans (congrArg some (by kernel_rfl))
 f280:=Tryz.func160.trans (congrArg some (by kernel_rfl))
 f281:=Tryz.func161.trans (congrArg some (by kernel_rfl))
 f282:=Tryz.func162.trans (congrArg some (by kernel_rfl))
 f283:=Tryz.func151.trans (congrArg some (by kernel_rfl))
 f284:=Tryz.func152.trans (congrArg some (by kernel_rfl))
 f285:=Tryz.func153.trans (congrArg some (by kernel_rfl))
 f286:=Tryz.func154.trans (congrArg some (by kernel_rfl))
 f287:=Tryz.func168.trans (congrArg some (by kernel_rfl))
 f316:=Tryz.func120.trans (congrArg some (by kernel_rfl))
 f317:=Tryz.func164.trans (congrArg some (by kernel_rfl))
 f318:=Tryz.func165.trans (congrArg some (by kernel_rfl))
 f319:=Tryz.func166.trans (congrArg some (by kernel_rfl))
 f320:=Tryz.func167.trans (congrArg some (by kernel_rfl))
 f321:=Tryz.func172.trans (congrArg some (by kernel_rfl))
 f322:=Tryz.func173.trans (congrArg some (by kernel_rfl))
 f337:=Tryz.func170.trans (congrArg some (by kernel_rfl))
 f338:=Tryz.func171.trans (congrArg some (by kernel_rfl))
 t0:=Tryz.underlying0
 a0:=Tryz.isAgg0
 z0:=Tryz.sizeOf0
 v0:=Tryz.zeroValue0
 t2:=Tryz.underlying2
 a2:=Tryz.isAgg2
 z2:=Tryz.sizeOf2
 v2:=Tryz.zeroValue2
 t3:=Tryz.underlying3
 a3:=Tryz.isAgg3
 z3:=Tryz.sizeOf3
 v3:=Tryz.zeroValue3
 t4:=Tryz.underlying4
 a4:=Tryz.isAgg4
 z4:=Tryz.sizeOf4
 v4:=Tryz.zeroValue4
 t5:=Tryz.underlying5
 a5:=Tryz.isAgg5
 z5:=Tryz.sizeOf5
 v5:=Tryz.zeroValue5
 t9:=Tryz.underlying9
 a9:=Tryz.isAgg9
 z9:=Tryz.sizeOf9
 v9:=Tryz.zeroValue9
 t20:=Tryz.underlying20
 a20:=Tryz.isAgg20
 z20:=Tryz.sizeOf20
 v20:=Tryz.zeroValue20
 t21:=Tryz.underlying21
 a21:=Tryz.isAgg21
 z21:=Tryz.sizeOf21
 v21:=Tryz.zeroValue21
 t37:=Tryz.underlying74
 a37:=Tryz.isAgg74
 z37:=Tryz.sizeOf74
 v37:=Tryz.zeroValue74
 t46:=Tryz.underlying175
 a46:=Tryz.isAgg175
 z46:=Tryz.sizeOf175
 v46:=Tryz.zeroValue175
 t51:=Tryz.underlying193
 a51:=Tryz.isAgg193
 z51:=Tryz.sizeOf193
 v51:=Tryz.zeroValue193
 t53:=Tryz.underlying195
 a53:=Tryz.isAgg195
 z53:=Tryz.sizeOf195
 v53:=Tryz.zeroValue195
 t75:=Tryz.underlying43
 a75:=Tryz.isAgg43
 z75:=Tryz.sizeOf43
 v75:=Tryz.zeroValue43
 t76:=Tryz.underlying118
 a76:=Tryz.isAgg118
 z76:=Tryz.sizeOf118
 v76:=Tryz.zeroValue118
 t85:=Tryz.underlying218
 a85:=Tryz.isAgg218
 z85:=Tryz.sizeOf218
 v85:=Tryz.zeroValue218
 t127:=Tryz.underlying126
 a127:=Tryz.isAgg126
 z127:=Tryz.sizeOf126
 v127:=Tryz.zeroValue126
 t143:=Tryz.underlying235
 a143:=Tryz.isAgg235
 z143:=Tryz.sizeOf235
 v143:=Tryz.zeroValue235
 t145:=Tryz.underlying237
 a145:=Tryz.isAgg237
 z145:=Tryz.sizeOf237
 v145:=Tryz.zeroValue237
 t167:=Tryz.underlying217
 a167:=Tryz.isAgg217
 z167:=Tryz.sizeOf217
 v167:=Tryz.zeroValue217
 t168:=Tryz.underlying220
 a168:=Tryz.isAgg220
 z168:=Tryz.sizeOf220
 v168:=Tryz.zeroValue220
 t171:=Tryz.underlying207
 a171:=Tryz.isAgg207
 z171:=Tryz.sizeOf207
 v171:=Tryz.zeroValue207
 t173:=Tryz.underlying209
 a173:=Tryz.isAgg209
 z173:=Tryz.sizeOf209
 v173:=Tryz.zeroValue209
 t175:=Tryz.underlying229
 a175:=Tryz.isAgg229
 z175:=Tryz.sizeOf229
 v175:=Tryz.zeroValue229
 t210:=Tryz.underlying232
 a210:=Tryz.isAgg232
 z210:=Tryz.sizeOf232
 v210:=Tryz.zeroValue232
 t212:=Tryz.underlying227
 a212:=Tryz.isAgg227
 z212:=Tryz.sizeOf227
 v212:=Tryz.zeroValue227
 t213:=Tryz.underlying228
 a213:=Tryz.isAgg228
 z213:=Tryz.sizeOf228
 t232:=Tryz.underlying238
 a232:=Tryz.isAgg238
 z232:=Tryz.sizeOf238
 v232:=Tryz.zeroValue238
 t233:=Tryz.underlying239
 a233:=Tryz.isAgg239
 z233:=Tryz.sizeOf239
 v233:=Tryz.zeroValue239
 g15:=by kernel_rfl
 g16:=by kernel_rfl
 g17:=by kernel_rfl
 g18:=by kernel_rfl
 g19:=by kernel_rfl
 t80:=Tryz.underlying85
 a80:=Tryz.isAgg85
 z80:=Tryz.sizeOf85
 v80:=Tryz.zeroValue85
 i0:=by kernel_rfl
 i2:=by kernel_rfl
 i3:=by kernel_rfl
 i4:=by kernel_rfl
 i5:=by kernel_rfl
 i9:=by kernel_rfl
 i20:=by kernel_rfl
 i21:=by kernel_rfl
 i37:=by kernel_rfl
 i46:=by kernel_rfl
 i51:=by kernel_rfl
 i53:=by kernel_rfl
 i75:=by kernel_rfl
 i76:=by kernel_rfl
 i80:=by kernel_rfl
 i85:=by kernel_rfl
 i127:=by kernel_rfl
 i143:=by kernel_rfl
 i145:=by kernel_rfl
 i167:=by kernel_rfl
 i168:=by kernel_rfl
 i171:=by kernel_rfl
 i173:=by kernel_rfl
 i175:=by kernel_rfl
 i210:=by kernel_rfl
 i212:=by kernel_rfl
 i232:=by kernel_rfl
 i233:=by kernel_rfl
 m15:=by kernel_rfl
 m16:=by kernel_rfl
 m17:=by kernel_rfl
 m18:=by kernel_rfl
 m19:=by kernel_rfl
 c0:=by kernel_rfl
 c2:=by kernel_rfl
 c3:=by kernel_rfl
 c4:=by kernel_rfl
 c5:=by kernel_rfl
 c9:=by kernel_rfl
 c20:=by kernel_rfl
 c21:=by kernel_rfl
 c37:=by kernel_rfl
 c46:=by kernel_rfl
 c51:=by kernel_rfl
 c53:=by kernel_rfl
 c75:=by kernel_rfl
 c76:=by kernel_rfl
 c80:=by kernel_rfl
 c85:=by kernel_rfl
 c127:=by kernel_rfl
 c143:=by kernel_rfl
 c145:=by kernel_rfl
 c167:=by kernel_rfl
 c168:=by kernel_rfl
 c171:=by kernel_rfl
 c173:=by kernel_rfl
 c175:=by kernel_rfl
 c210:=by kernel_rfl
 c212:=by kernel_rfl
 c213:=by kernel_rfl
 c232:=by kernel_rfl
 c233:=by kernel_rfl }
end Go.Proofs
namespace Go.Proofs.YtbgnflcebafjjaaGreatDoor
open Go.RowKit Go.Joins
set_option linter.unusedVariables false
theorem dec_dig:∀(d:List UInt8) (n:Nat),(∀c ∈ d,isDg (c.toNat:Int)=true)->Lib.decFrom n d=some (digN d n):=by
 intro d
 induction d with
 | nil=>intro n _;rfl
 | cons c r ih =>
  intro n h
  have hc:=of_decide_eq_true (h c (by simp))
  have h1:48<=c.toNat/\c.toNat<=57:=by omega
  have e:Lib.digitVal c=some (c.toNat - 48):=by unfold Lib.digitVal;rw [if_pos h1]
  have:=ih (10 * n+(c.toNat - 48)) (fun x hx=>h x (by simp [hx]))
  show (match Lib.digitVal c with | some d=>Lib.decFrom (n * 10+d) r | none=>none)=some (digN r (10 * n+(c.toNat - 48)))
  rw [e,<-this,Nat.mul_comm 10 n]
theorem decNat_dig (d:List UInt8) (hd:d ≠ []) (h:∀c ∈ d,isDg (c.toNat:Int)=true):Lib.decNat d=some (digN d 0):=by
 unfold Lib.decNat
 cases d with
 | nil=>exact absurd rfl hd
 | cons c r=>simpa using dec_dig (c :: r) 0 h
theorem atoi_plain (d:List UInt8) (hd:d ≠ []) (hl:d.length<=18) (h:∀c ∈ d,isDg (c.toNat:Int)=true):Lib.atoiAll d=.ok (digN d 0:Int):=by
 cases d with
 | nil=>exact absurd rfl hd
 | cons c r =>
  have hc:=of_decide_eq_true (h c (by simp))
  rw [Lib.atoiAll_plain c r (by omega) (by omega),Lib.signless_short hl,decNat_dig _ hd h]
  rfl
theorem atoi_plus (d:List UInt8) (hd:d ≠ []) (hl:d.length<=18) (h:∀c ∈ d,isDg (c.toNat:Int)=true):Lib.atoiAll (43 :: d)=.ok (digN d 0:Int):=by
 rw [Lib.atoiAll_plus,Lib.signless_short hl,decNat_dig _ hd h]
 rfl
theorem atoi_minus (d:List UInt8) (hd:d ≠ []) (hl:d.length<=18) (h:∀c ∈ d,isDg (c.toNat:Int)=true):Lib.atoiAll (45 :: d)=.ok (-(digN d 0:Int)):=by
 rw [Lib.atoiAll_minus,Lib.signed_short hl,decNat_dig _ hd h]
 rfl
end Go.Proofs.YtbgnflcebafjjaaGreatDoor
namespace Go.Proofs.YtbgnflcebafjjaaGreatDoor
open Go.RowKit Go.Joins
set_option linter.unusedVariables false
theorem toR_all (p:Int->Bool) (l:List UInt8) (i:Nat):∀c ∈ subT l i (toR p l i - i),p (c.toNat:Int)=true:=by
 intro c hc
 unfold subT toR runN at hc
 rw [Nat.add_sub_cancel_left] at hc
 have e:(l.drop i).take ((l.drop i).takeWhile (fun c=>p (c.toNat:Int))).length=(l.drop i).takeWhile (fun c=>p (c.toNat:Int)):=by
  have:=List.takeWhile_prefix (fun c:UInt8=>p (c.toNat:Int)) (l:=l.drop i)
  exact (List.prefix_iff_eq_take.1 this).symm
 rw [e] at hc
 exact (List.all_takeWhile (p:=fun c:UInt8=>p (c.toNat:Int)) (l:=l.drop i) |> List.all_eq_true.1) c hc
theorem subT_len (l:List UInt8) (i k:Nat) (h:i+k<=l.length):(subT l i k).length=k:=by
 unfold subT;rw [List.length_take,List.length_drop];omega
theorem subT_cons (l:List UInt8) (i k:Nat) (h:i < l.length):subT l i (k+1)=l[i] :: subT l (i+1) k:=by
 unfold subT
 rw [List.drop_eq_getElem_cons h,List.take_succ_cons]
theorem atoi_int (l:List UInt8) (i a j:Nat) (hj:j<=l.length) (haj:a < j) (hall:∀c ∈ subT l a (j - a),isDg (c.toNat:Int)=true) (h18:j - a<=18)
  (h:(isDg (nx l i)=true/\a=i)\/((nx l i=43\/nx l i=45)/\a=i+1)) :
  Lib.atoiAll (subT l i (j - i))=.ok (if nx l i=45 then -(digN (subT l a (j - a)) 0:Int) else (digN (subT l a (j - a)) 0:Int)):=by
 have hlen:=subT_len l a (j - a) (by omega)
 have hne:subT l a (j - a) ≠ []:=fun e=>by rw [e] at hlen;simp at hlen;omega
 rcases h with ⟨h1,rfl⟩ | ⟨h1,rfl⟩
 ·rw [if_neg (fun e=>by rw [e] at h1;exact absurd h1 (by decide))]
  exact atoi_plain _ hne (by omega) hall
 ·have hil:i < l.length:=by omega
  have e:j - i=(j - (i+1))+1:=by omega
  rw [e,subT_cons l i _ hil]
  have hx:=nx_at l i hil
  rcases h1 with h1 | h1
  ·have:l[i]=43:=by
    apply UInt8.toNat_inj.1
    have:(l[i].toNat:Int)=43:=by rw [<-hx];exact h1
    show l[i].toNat=43
    omega
   rw [this,if_neg (by rw [h1];decide)]
   exact atoi_plus _ hne (by omega) hall
  ·have:l[i]=45:=by
    apply UInt8.toNat_inj.1
    have:(l[i].toNat:Int)=45:=by rw [<-hx];exact h1
    show l[i].toNat=45
    omega
   rw [this,if_pos h1]
   exact atoi_minus _ hne (by omega) hall
end Go.Proofs.YtbgnflcebafjjaaGreatDoor
namespace Go.Proofs.YtbgnflcebafjjaaGreatDoor
open Go.RowKit Go.Joins
set_option linter.unusedVariables false
theorem gb_bytesT (w:World) (e:TypeId) (s:ByteArray):w.grownBy (Lib.bytesWorld w e s) none :=
 ⟨rfl,rfl,rfl,by rw [Lib.bytesWorld_size];omega,fun k hk _=>Lib.bytesWorld_at_old w e s k hk⟩
theorem tAtoi_any (x:List UInt8) (v:Int) (hx:x.length<=1048576) (h:Lib.atoiAll x=.ok v) (w:World) :
  Calls Tryz.prog 121 #[.string ⟨x.toArray⟩] w fun e w'=>e=.returned (.tuple #[.int .i64 v,.nilIface])/\w.grownBy w' none:=by
 have hz:(⟨x.toArray⟩:ByteArray).size=x.length:=by show x.toArray.size=_;simp
 refine (Any.strconv_Atoi_ok Tryz.lays172 ⟨x.toArray⟩ (by rw [hz];omega) v (by simpa using h) w).mono ?_
 rintro e w' ⟨rfl,rfl | ⟨t,rfl⟩⟩
 ·exact ⟨rfl,gb_refl _ _⟩
 ·refine ⟨rfl,?_⟩
  exact gb_bytesT _ _ _
def dgA (l:List UInt8) (i:Nat):Nat:=if isDg (nx l i)=true then i else i+1
theorem rdInt_eq (l:List UInt8) (i:Nat):rdInt l i =
  if toR isDg l (dgA l i)=dgA l i\/(1 < toR isDg l (dgA l i) - dgA l i/\nx l (dgA l i)=48) then .error (2,dgA l i)
  else if 18 < toR isDg l (dgA l i) - dgA l i then .error (3,i)
  else .ok (if nx l i=45 then -(digN (subT l (dgA l i) (toR isDg l (dgA l i) - dgA l i)) 0:Int) else (digN (subT l (dgA l i) (toR isDg l (dgA l i) - dgA l i)) 0:Int),toR isDg l (dgA l i)):=rfl
end Go.Proofs.YtbgnflcebafjjaaGreatDoor
