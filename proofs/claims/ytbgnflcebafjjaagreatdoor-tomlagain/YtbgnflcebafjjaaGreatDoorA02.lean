import Derived.Test.YtbgnflcebafjjaaGreatDoorA01
import Derived.Deep.RegionWith
import Derived.Shelf.Small.Strs
import Derived.Test.YtbgnflcebafjjaaGreatDoorProg
namespace Go.Proofs.YtbgnflcebafjjaaGreatDoor
open Go.RowKit Go.Joins
set_option linter.unusedVariables false
set_option maxRecDepth 100000 in
theorem tControl_any (c:Int) (w:World):Calls Tryz.prog 106 #[.int .i64 c] w fun e w'=>e=.returned (.bool (isCt c))/\w'=w:=by
 go_enter Tryz.func106,Tryz.ntmps106
 go_wp2
 all_goals go_ret
 all_goals (refine ⟨ret_bool ?_,rfl⟩;rw [Bool.eq_iff_iff];unfold isCt;simp;try omega)
set_option maxRecDepth 100000 in
theorem tBarred_any (c:Int) (w:World):Calls Tryz.prog 78 #[.int .i64 c] w fun e w'=>e=.returned (.bool (isBr c))/\w'=w:=by
 have CC:Hid (∀w,Calls Tryz.prog 106 #[.int .i64 c] w fun e w'=>e=.returned (.bool (isCt c))/\w'=w):=fun w=>tControl_any c w
 have HB:Hid (isBr c=(isCt c && decide (c ≠ 9))):=rfl
 obtain ⟨b,hb⟩:∃b,isCt c=b:=⟨_,rfl⟩
 rw [hb] at CC HB
 clear hb
 cases b with
 | false =>
  go_enter Tryz.func78,Tryz.ntmps78
  go_wp2_with (first | (go_at_call 106;refine (CC.out _).mono ?_;rintro e w' ⟨rfl,rfl⟩))
  go_ret
  refine ⟨ret_bool ?_,rfl⟩
  rw [HB.out];rfl
 | true =>
  go_enter Tryz.func78,Tryz.ntmps78
  go_wp2_with (first | (go_at_call 106;refine (CC.out _).mono ?_;rintro e w' ⟨rfl,rfl⟩))
  all_goals go_ret
  all_goals (refine ⟨ret_bool ?_,rfl⟩;rw [HB.out,Bool.eq_iff_iff];simp;try omega)
def FaultV (w:World) (v:Value) (p:Nat) (ty:TypeId) (pv:Value):Prop:=∃F,v=.iface 65 (.pointer (some ⟨F,0,none⟩))/\w.heap[F]?=some (.cells #[.int .i64 (p:Nat),.iface ty pv] 69 (0,0))
theorem FaultV.grow {w w':World} {v:Value} {p:Nat} {ty:TypeId} {pv:Value} (h:FaultV w v p ty pv) (hg:w.grownBy w' none):FaultV w' v p ty pv:=by
 obtain ⟨F,h1,h2⟩:=h
 exact ⟨F,h1,(hg.block F (Array.getElem?_eq_some_iff.1 h2).1 (by simp)).trans h2⟩
set_option maxRecDepth 100000 in
theorem tWrong_any (p:Nat) (ty:TypeId) (pv:Value) (w:World):Calls Tryz.prog 101 #[.iface ty pv,.int .i64 (p:Nat)] w fun e w'=>(∃v,e=.returned v/\FaultV w' v p ty pv)/\w.grownBy w' none:=by
 have hn:=heap_alloc_new w (.cells #[.int .i64 (p:Nat),.iface ty pv] 69)
 have hg:w.grownBy (w.alloc (.cells #[.int .i64 (p:Nat),.iface ty pv] 69)) none:=World.grownBy_alloc w _ none
 have HN:Hid ((w.alloc (.cells #[.int .i64 (p:Nat),.iface ty pv] 69)).heap[w.heap.size]?=some (.cells #[.int .i64 (p:Nat),.iface ty pv] 69 (0,0))):=hn
 have HG:Hid (w.grownBy (w.alloc (.cells #[.int .i64 (p:Nat),.iface ty pv] 69)) none):=hg
 clear hn hg
 go_enter Tryz.func101,Tryz.ntmps101
 go_wp2
 go_ret
 exact ⟨⟨_,rfl,_,rfl,HN.out⟩,HG.out⟩
def ErT (w:World) (ty:TypeId) (pv:Value):Prop:=w.cell? ⟨5,0,none⟩=some (.iface ty pv)
set_option maxRecDepth 100000 in
theorem tHere_any (R:Nat) (s:ByteArray) (i T:Nat) (ty:TypeId) (pv:Value) (w:World) (h:Rd w R s i T) (he:ErT w ty pv) :
  Calls Tryz.prog 79 #[.pointer (some ⟨R,0,none⟩)] w fun e w'=>(∃v,e=.returned v/\FaultV w' v i ty pv)/\w.grownBy w' none:=by
 have CW:Hid (∀w,Calls Tryz.prog 101 #[.iface ty pv,.int .i64 (i:Nat)] w fun e w'=>(∃v,e=.returned v/\FaultV w' v i ty pv)/\w.grownBy w' none):=fun w=>tWrong_any i ty pv w
 obtain ⟨-,c1,-,-⟩:=h.cells
 have c0:w.cell? ⟨5,0,none⟩=some (.iface ty pv):=he
 clear h he
 go_enter Tryz.func79,Tryz.ntmps79
 go_wp2
 go_region_with (first | (go_at_call 101;refine (CW.out _).mono ?_;rintro e w2 ⟨⟨v,rfl,hv⟩,hg2⟩))
 all_goals (
  go_wp2
  go_ret
  exact ⟨⟨v,rfl,hv⟩,gb_trans (show w.grownBy w.drew none from ⟨rfl,rfl,rfl,Nat.le_refl _,fun _ _ _=>rfl⟩) hg2⟩)
set_option maxRecDepth 100000 in
set_option maxHeartbeats 800000 in
theorem tTake_any (R:Nat) (s:ByteArray) (i T:Nat) (c:Int) (ty:TypeId) (pv:Value) (w:World) (h:Rd w R s i T) (hi:i<=s.size) (hs:s.size<=1048576) (hc:0<=c) (he:ErT w ty pv) :
  Calls Tryz.prog 45 #[.pointer (some ⟨R,0,none⟩),.int .i64 c] w fun e w'=>(nx s.data.toList i=c->e=.returned .nilIface/\Rd w' R s (i+1) T)/\(¬ nx s.data.toList i=c->(∃v,e=.returned v/\FaultV w' v i ty pv)/\Rd w' R s i T)/\w.grownBy w' (some R):=by
 have CN:Hid (Calls Tryz.prog 40 #[.pointer (some ⟨R,0,none⟩)] w fun e w'=>e=.returned (.int .i64 (nx s.data.toList i))/\w.grownBy w' none):=tNext_any R s i T w h hi hs
 have CH:Hid (∀w',w.grownBy w' none->Calls Tryz.prog 79 #[.pointer (some ⟨R,0,none⟩)] w' fun e w''=>(∃v,e=.returned v/\FaultV w'' v i ty pv)/\w'.grownBy w'' none):=fun w' hg=>tHere_any R s i T ty pv w' (h.grow hg) (hg.cell he (by simp))
 have HRD:Hid (Rd w R s i T):=h
 obtain ⟨x,hx⟩:∃x,nx s.data.toList i=x:=⟨_,rfl⟩
 rw [hx] at CN ⊢
 clear h he hx
 go_enter Tryz.func45,Tryz.ntmps45
 go_wp2_with (first | (go_at_call 40;refine CN.out.mono ?_))
 rintro e w2 ⟨rfl,hg2⟩
 have HG2:Hid (w.grownBy w2 none):=hg2
 obtain ⟨-,d1,-,df⟩:=(HRD.out.grow hg2).cells
 have df1:=df 1
 clear df hg2
 by_cases hxc:x=c
 ·have HXC:Hid (x=c):=hxc
  have HS:Hid (Rd (w2.setCell ⟨R,1,none⟩ (.int .i64 ((i:Int)+1))) R s (i+1) T):=(HRD.out.grow HG2.out).set (i+1)
  have hb:(x != c)=false:=by simp [hxc]
  clear hxc
  go_wp2
  refine bodyPost_ret (results_tmp (t:=4) rfl _ _ _) rfl ⟨fun _=>⟨rfl,HS.out⟩,fun hn=>absurd HXC.out hn,gb_set (gb_more (gb_refl w (some R)) HG2.out) 1 _⟩
 ·have hb:(x != c)=true:=by simp [hxc]
  have HXC:Hid (¬ x=c):=hxc
  clear hxc
  go_wp2_with (first | (go_at_call 79;refine (CH.out _ HG2.out).mono ?_;rintro e w3 ⟨⟨v,rfl,hv⟩,hg3⟩))
  refine bodyPost_ret (results_tmp (t:=4) rfl _ _ _) rfl ⟨fun hh=>absurd hh HXC.out,fun _=>⟨⟨v,rfl,hv⟩,(HRD.out.grow HG2.out).grow hg3⟩,gb_more (gb_more (gb_refl w (some R)) HG2.out) hg3⟩
theorem toR_end (p:Int->Bool) (l:List UInt8) (i:Nat) (h:l.length<=i):toR p l i=i:=by
 unfold toR runN
 rw [List.drop_eq_nil_of_le h];simp
theorem nx_end' {l:List UInt8} {i:Nat} (h:nx l i=-1):l.length<=i:=by
 apply Classical.byContradiction
 intro hn
 rw [nx_at l i (by omega)] at h
 omega
def CmPost (R:Nat) (s:ByteArray) (T:Nat) (ty:TypeId) (pv:Value) (r:Bool × Nat) (w:World) (e:Ending) (w':World):Prop:=(r.1=true->e=.returned .nilIface)/\(r.1=false->∃v,e=.returned v/\FaultV w' v r.2 ty pv)/\Rd w' R s r.2 T/\w.grownBy w' (some R)
set_option maxRecDepth 100000 in
set_option maxHeartbeats 1600000 in
theorem tComment_any (R:Nat) (s:ByteArray) (i T:Nat) (ty:TypeId) (pv:Value) (w:World) (h:Rd w R s i T) (hi:i<=s.size) (hs:s.size<=1048576) (he:ErT w ty pv) (hR:¬ R=5) :
  Calls Tryz.prog 44 #[.pointer (some ⟨R,0,none⟩)] w (CmPost R s T ty pv (cmt s.data.toList i) w):=by
 have CN:Hid (∀k w,Rd w R s k T->k<=s.size->Calls Tryz.prog 40 #[.pointer (some ⟨R,0,none⟩)] w fun e w'=>e=.returned (.int .i64 (nx s.data.toList k))/\w.grownBy w' none):=fun k w h1 h2=>tNext_any R s k T w h1 h2 hs
 have CB:Hid (∀c w,Calls Tryz.prog 78 #[.int .i64 c] w fun e w'=>e=.returned (.bool (isBr c))/\w'=w):=tBarred_any
 have CH:Hid (∀k w',w.grownBy w' (some R)->Rd w' R s k T->Calls Tryz.prog 79 #[.pointer (some ⟨R,0,none⟩)] w' fun e w''=>(∃v,e=.returned v/\FaultV w'' v k ty pv)/\w'.grownBy w'' none):=fun k w' hg hr=>tHere_any R s k T ty pv w' hr (hg.cell he (by simp;exact fun e=>hR e.symm))
 have hl:s.data.toList.length=s.size:=by simp
 have HNO:Hid (¬ nx s.data.toList i=35->cmt s.data.toList i=(true,i)):=cmt_no _ i
 have HYS:Hid (nx s.data.toList i=35->cmt s.data.toList i=if nx s.data.toList (toR inC s.data.toList i)=10\/nx s.data.toList (toR inC s.data.toList i)=-1 then (true,toR inC s.data.toList i) else (false,toR inC s.data.toList i)):=fun h=>by
  show _=_
  unfold cmt;rw [if_pos h]
 have HST:Hid (∀k,k < s.size->inC (nx s.data.toList k)=true->toR inC s.data.toList k=toR inC s.data.toList (k+1)):=fun k hk hb=>toR_step inC _ k (by omega) hb
 have HSP:Hid (∀k,inC (nx s.data.toList k)=false->toR inC s.data.toList k=k):=fun k hb=>toR_stop inC _ k hb
 have HEN:Hid (∀k,nx s.data.toList k=-1->toR inC s.data.toList k=k):=fun k hb=>toR_end inC _ k (nx_end' hb)
 have HLT:Hid (∀k,k<=s.size->¬ nx s.data.toList k=-1->k < s.size):=fun k hk hn=>by
  apply Classical.byContradiction
  intro hh
  exact hn (nx_end _ _ (by omega))
 have HRD:Hid (Rd w R s i T):=h
 have C1:Hid (Calls Tryz.prog 40 #[.pointer (some ⟨R,0,none⟩)] w fun e w'=>e=.returned (.int .i64 (nx s.data.toList i))/\w.grownBy w' none):=CN.out i w h hi
 obtain ⟨r,hr⟩:∃r,cmt s.data.toList i=r:=⟨_,rfl⟩
 rw [hr] at HNO HYS ⊢
 obtain ⟨x,hx⟩:∃x,nx s.data.toList i=x:=⟨_,rfl⟩
 rw [hx] at C1 HNO HYS
 obtain ⟨J,hJ⟩:∃J,toR inC s.data.toList i=J:=⟨_,rfl⟩
 have HJ:Hid (toR inC s.data.toList i=J):=hJ
 rw [hJ] at HYS
 clear h he hr hx hJ
 go_enter Tryz.func44,Tryz.ntmps44
 go_wp2_with (first | (go_at_call 40;refine C1.out.mono ?_))
 rintro e w1 ⟨rfl,hg1⟩
 have HG1:Hid (w.grownBy w1 (some R)):=gb_more (gb_refl w (some R)) hg1
 have HR1:Hid (Rd w1 R s i T):=HRD.out.grow hg1
 clear hg1
 by_cases hx:x=35
 ·have hb:(x != 35)=false:=by simp [hx]
  have HC:Hid (r=if nx s.data.toList J=10\/nx s.data.toList J=-1 then (true,J) else (false,J)):=HYS.out hx
  clear hx
  go_wp2
  go_loopw [] (fun wr=>∃k:Nat,Rd wr R s k T/\k<=s.size/\toR inC s.data.toList k=J/\w.grownBy wr (some R)) (fun wr=>s.size - (match wr.cell? ⟨R,1,none⟩ with | some (.int _ k)=>k.toNat | _=>0))
  case atStart=>exact ⟨i,HR1.out,hi,HJ.out,HG1.out⟩
  case round =>
   obtain ⟨k,hrd,hk,hto,hg⟩:=hrel
   have HRK:Hid (Rd wr R s k T):=hrd
   have HTO:Hid (toR inC s.data.toList k=J):=hto
   have HGK:Hid (w.grownBy wr (some R)):=hg
   have HME:Hid ((match wr.cell? ⟨R,1,none⟩ with | some (.int _ k)=>k.toNat | _=>0)=k):=by show _=_;rw [hrd.cells.2.1];simp
   have HS1:=HST.out k
   have HS2:=HSP.out k
   have HS3:=HEN.out k
   have HS4:=HLT.out k hk
   have HC2:Hid (∀w',wr.grownBy w' none->Calls Tryz.prog 40 #[.pointer (some ⟨R,0,none⟩)] w' fun e w''=>e=.returned (.int .i64 (nx s.data.toList k))/\w'.grownBy w'' none):=fun w' hg'=>CN.out k w' (HRK.out.grow hg') hk
   have HCJ:Hid (toR inC s.data.toList k=k->r=if nx s.data.toList k=10\/nx s.data.toList k=-1 then (true,k) else (false,k)):=fun h1=>by
    have e1:J=k:=HTO.out.symm.trans h1
    have h2:=HC.out
    rw [e1] at h2
    exact h2
   obtain ⟨c,hc⟩:∃c,nx s.data.toList k=c:=⟨_,rfl⟩
   rw [hc] at HS1 HS2 HS3 HS4 HC2 HCJ
   have H1:Hid (k < s.size->inC c=true->toR inC s.data.toList k=toR inC s.data.toList (k+1)):=HS1
   have H2:Hid (inC c=false->toR inC s.data.toList k=k):=HS2
   have H3:Hid (c=-1->toR inC s.data.toList k=k):=HS3
   have H4:Hid (¬ c=-1->k < s.size):=HS4
   have HIC:Hid (inC c=(decide (c ≠ 10) && !isBr c)):=rfl
   clear hrd hto hg HS1 HS2 HS3 HS4 hc
   by_cases he:c=-1
   ·have hbe:(c != -1)=false:=by simp [he]
    have HRR:Hid (r=(true,k)):=by
     show r=_
     rw [HCJ.out (H3.out he),if_pos (Or.inr he)]
    clear he
    go_wp2_with (first | (go_at_call 40;refine (HC2.out _ (gb_refl _ _)).mono ?_))
    rintro e w2 ⟨rfl,hg2⟩
    have HG2:Hid (wr.grownBy w2 none):=hg2
    clear hg2
    go_wp2
    refine bodyPost_ret (results_tmp (t:=2) rfl _ _ _) rfl ?_
    rw [HRR.out]
    exact ⟨fun _=>rfl,fun hh=>(by cases hh),HRK.out.grow HG2.out,gb_more HGK.out HG2.out⟩
   ·have hbe:(c != -1)=true:=by simp [he]
    have hkl:k < s.size:=H4.out he
    have HNE:Hid (¬ c=-1):=he
    clear he
    go_wp2_with (first | (go_at_call 40;refine (HC2.out _ (gb_refl _ _)).mono ?_))
    rintro e w2 ⟨rfl,hg2⟩
    have HG2:Hid (wr.grownBy w2 none):=hg2
    clear hg2
    go_wp2_with (first | (go_at_call 40;refine (HC2.out _ HG2.out).mono ?_))
    rintro e w3 ⟨rfl,hg3⟩
    have HG3:Hid (wr.grownBy w3 none):=gb_trans HG2.out hg3
    clear hg3
    by_cases h10:c=10
    ·have hb10:(c != 10)=false:=by simp [h10]
     have HRR:Hid (r=(true,k)):=by
      show r=_
      rw [HCJ.out (H2.out (by rw [HIC.out,h10];rfl)),if_pos (Or.inl h10)]
     clear h10
     go_wp2
     refine bodyPost_ret (results_tmp (t:=2) rfl _ _ _) rfl ?_
     rw [HRR.out]
     exact ⟨fun _=>rfl,fun hh=>(by cases hh),HRK.out.grow HG3.out,gb_more HGK.out HG3.out⟩
    ·have hb10:(c != 10)=true:=by simp [h10]
     have HN10:Hid (¬ c=10):=h10
     have CBc:Hid (∀w,Calls Tryz.prog 78 #[.int .i64 c] w fun e w'=>e=.returned (.bool (isBr c))/\w'=w):=fun w=>CB.out c w
     obtain ⟨b,hb2⟩:∃b,isBr c=b:=⟨_,rfl⟩
     rw [hb2] at CBc HIC
     clear h10 hb2
     go_wp2_with (first | (go_at_call 40;refine (HC2.out _ HG3.out).mono ?_))
     rintro e w4 ⟨rfl,hg4⟩
     have HG4:Hid (wr.grownBy w4 none):=gb_trans HG3.out hg4
     clear hg4
     cases b with
     | true =>
      have HRR:Hid (r=(false,k)):=by
       show r=_
       rw [HCJ.out (H2.out (by rw [HIC.out];simp)),if_neg (by rintro (h | h);exact HN10.out h;exact HNE.out h)]
      go_wp2_with (first | (go_at_call 78;refine (CBc.out _).mono ?_;rintro e w' ⟨rfl,rfl⟩) | (go_at_call 79;refine (CH.out k _ (gb_more HGK.out HG4.out) (HRK.out.grow HG4.out)).mono ?_;rintro e w5 ⟨⟨v,rfl,hv⟩,hg5⟩))
      refine bodyPost_ret (results_tmp (t:=2) rfl _ _ _) rfl ?_
      rw [HRR.out]
      exact ⟨fun hh=>(by cases hh),fun _=>⟨v,rfl,hv⟩,(HRK.out.grow HG4.out).grow hg5,gb_more (gb_more HGK.out HG4.out) hg5⟩
     | false =>
      have HN:Hid (toR inC s.data.toList (k+1)=J):=(H1.out hkl (by rw [HIC.out,decide_eq_true HN10.out];rfl)).symm.trans HTO.out
      obtain ⟨-,d1,-,df⟩:=(HRK.out.grow HG4.out).cells
      have df1:=df 1
      clear df
      have HS5:Hid (Rd (w4.setCell ⟨R,1,none⟩ (.int .i64 ((k:Int)+1))) R s (k+1) T):=(HRK.out.grow HG4.out).set (k+1)
      go_wp2_with (first | (go_at_call 78;refine (CBc.out _).mono ?_;rintro e w' ⟨rfl,rfl⟩))
      refine ⟨⟨k+1,HS5.out,by omega,HN.out,gb_set (gb_more HGK.out HG4.out) 1 _⟩,?_⟩
      rw [HME.out,HS5.out.cells.2.1]
      simp
      omega
 ·have hb:(x != 35)=true:=by simp [hx]
  have HRR:Hid (r=(true,i)):=HNO.out hx
  clear hx
  go_wp2
  refine bodyPost_ret (results_tmp (t:=2) rfl _ _ _) rfl ?_
  rw [HRR.out]
  exact ⟨fun _=>rfl,fun hh=>(by cases hh),HR1.out,HG1.out⟩
theorem cmt_le (l:List UInt8) (i:Nat) (hi:i<=l.length):i<=(cmt l i).2/\(cmt l i).2<=l.length:=by
 have:=toR_le inC l i hi
 unfold cmt
 repeat' split
 all_goals (simp only [];omega)
theorem bl_le (l:List UInt8) (i:Nat) (hi:i<=l.length):i<=bl l i/\bl l i<=l.length:=toR_le isBl l i hi
theorem gap_step (l:List UInt8) (f i:Nat):gap l (f+1) i=if (cmt l (bl l i)).1=false then .error (2,(cmt l (bl l i)).2) else if nx l (cmt l (bl l i)).2=10 then gap l f ((cmt l (bl l i)).2+1) else .ok (cmt l (bl l i)).2:=rfl
theorem gb_two {w w1 w2:World} {r:Option Nat} (h:w.grownBy w1 r) (hg:w1.grownBy w2 r):w.grownBy w2 r :=
 ⟨hg.os.trans h.os,hg.tape.trans h.tape,hg.output.trans h.output,Nat.le_trans h.size hg.size,fun k hk hn=>(hg.block k (Nat.lt_of_lt_of_le hk h.size) hn).trans (h.block k hk hn)⟩
def GpPost (R:Nat) (s:ByteArray) (T:Nat) (ty:TypeId) (pv:Value) (g:Rs Nat) (w:World) (e:Ending) (w':World):Prop:=(∀j,g=.ok j->e=.returned .nilIface/\Rd w' R s j T)/\(∀c p,g=.error (c,p)->∃v,e=.returned v/\FaultV w' v p ty pv)/\w.grownBy w' (some R)
set_option maxRecDepth 100000 in
set_option maxHeartbeats 1600000 in
theorem tGap_any (R:Nat) (s:ByteArray) (i T:Nat) (ty:TypeId) (pv:Value) (w:World) (h:Rd w R s i T) (hi:i<=s.size) (hs:s.size<=1048576) (he:ErT w ty pv) (hR:¬ R=5) :
  Calls Tryz.prog 122 #[.pointer (some ⟨R,0,none⟩)] w (GpPost R s T ty pv (gap s.data.toList (s.data.toList.length+1) i) w):=by
 have CN:Hid (∀k w,Rd w R s k T->k<=s.size->Calls Tryz.prog 40 #[.pointer (some ⟨R,0,none⟩)] w fun e w'=>e=.returned (.int .i64 (nx s.data.toList k))/\w.grownBy w' none):=fun k w h1 h2=>tNext_any R s k T w h1 h2 hs
 have CS:Hid (∀k w,Rd w R s k T->k<=s.size->Calls Tryz.prog 39 #[.pointer (some ⟨R,0,none⟩)] w fun e w'=>e=.returned (.tuple #[])/\Rd w' R s (bl s.data.toList k) T/\w.grownBy w' (some R)):=fun k w h1 h2=>tSkip_any R s k T w h1 h2 hs
 have CC:Hid (∀k w',Rd w' R s k T->k<=s.size->w.grownBy w' (some R)->Calls Tryz.prog 44 #[.pointer (some ⟨R,0,none⟩)] w' (CmPost R s T ty pv (cmt s.data.toList k) w')):=fun k w' h1 h2 hg=>tComment_any R s k T ty pv w' h1 h2 hs (hg.cell he (by simp;exact fun e=>hR e.symm)) hR
 have hl:s.data.toList.length=s.size:=by simp
 have HBL:Hid (∀k,k<=s.size->k<=bl s.data.toList k/\bl s.data.toList k<=s.size):=fun k hk=>by rw [<-hl];exact bl_le _ k (by omega)
 have HCL:Hid (∀k,k<=s.size->k<=(cmt s.data.toList k).2/\(cmt s.data.toList k).2<=s.size):=fun k hk=>by rw [<-hl];exact cmt_le _ k (by omega)
 have HGS:Hid (∀f k,gap s.data.toList (f+1) k=if (cmt s.data.toList (bl s.data.toList k)).1=false then .error (2,(cmt s.data.toList (bl s.data.toList k)).2) else if nx s.data.toList (cmt s.data.toList (bl s.data.toList k)).2=10 then gap s.data.toList f ((cmt s.data.toList (bl s.data.toList k)).2+1) else .ok (cmt s.data.toList (bl s.data.toList k)).2):=fun f k=>gap_step _ f k
 have HLT:Hid (∀k,k<=s.size->nx s.data.toList k=10->k < s.size):=fun k hk hn=>by
  apply Classical.byContradiction
  intro hh
  rw [nx_end _ _ (by omega)] at hn
  exact absurd hn (by decide)
 have HRD:Hid (Rd w R s i T):=h
 obtain ⟨G,hG⟩:∃G,gap s.data.toList (s.data.toList.length+1) i=G:=⟨_,rfl⟩
 have HG0:Hid (gap s.data.toList (s.data.toList.length+1) i=G):=hG
 rw [hG]
 clear h he hG
 go_enter Tryz.func122,Tryz.ntmps122
 go_wp2
 go_loopw [] (fun wr=>∃k f:Nat,Rd wr R s k T/\k<=s.size/\s.size - k < f/\gap s.data.toList f k=G/\w.grownBy wr (some R)) (fun wr=>s.size - (match wr.cell? ⟨R,1,none⟩ with | some (.int _ k)=>k.toNat | _=>0))
 case atStart=>exact ⟨i,s.data.toList.length+1,HRD.out,hi,by omega,HG0.out,gb_refl _ _⟩
 case round =>
  obtain ⟨k,f,hrd,hk,hf,hgp,hg⟩:=hrel
  obtain ⟨f,rfl⟩:∃f',f=f'+1:=⟨f - 1,by omega⟩
  have HRK:Hid (Rd wr R s k T):=hrd
  have HGK:Hid (w.grownBy wr (some R)):=hg
  have HME:Hid ((match wr.cell? ⟨R,1,none⟩ with | some (.int _ k)=>k.toNat | _=>0)=k):=by show _=_;rw [hrd.cells.2.1];simp
  have C1:Hid (Calls Tryz.prog 39 #[.pointer (some ⟨R,0,none⟩)] wr fun e w'=>e=.returned (.tuple #[])/\Rd w' R s (bl s.data.toList k) T/\wr.grownBy w' (some R)):=CS.out k wr hrd hk
  rw [HGS.out] at hgp
  obtain ⟨hb1,hb2⟩:=HBL.out k hk
  have hc12:=HCL.out (bl s.data.toList k) hb2
  have C2:Hid (∀w',Rd w' R s (bl s.data.toList k) T->w.grownBy w' (some R)->Calls Tryz.prog 44 #[.pointer (some ⟨R,0,none⟩)] w' (CmPost R s T ty pv (cmt s.data.toList (bl s.data.toList k)) w')):=fun w' h1 h2=>CC.out _ w' h1 hb2 h2
  obtain ⟨j,hj⟩:∃j,bl s.data.toList k=j:=⟨_,rfl⟩
  rw [hj] at C1 C2 hgp hb1 hb2 hc12
  obtain ⟨q,hq⟩:∃q,cmt s.data.toList j=q:=⟨_,rfl⟩
  rw [hq] at C2 hgp hc12
  obtain ⟨ok,m⟩:=q
  obtain ⟨hm1,hm2⟩:=hc12
  simp only [] at hm1 hm2 hgp
  have HGP:Hid ((if ok=false then Except.error (2,m) else if nx s.data.toList m=10 then gap s.data.toList f (m+1) else Except.ok m)=G):=hgp
  have C3:Hid (∀w',Rd w' R s m T->Calls Tryz.prog 40 #[.pointer (some ⟨R,0,none⟩)] w' fun e w''=>e=.returned (.int .i64 (nx s.data.toList m))/\w'.grownBy w'' none):=fun w' h1=>CN.out m w' h1 hm2
  have HL2:Hid (nx s.data.toList m=10->m < s.size):=HLT.out m hm2
  obtain ⟨x,hx⟩:∃x,nx s.data.toList m=x:=⟨_,rfl⟩
  rw [hx] at C3 HGP HL2
  clear hrd hg hgp hj hq hx
  go_wp2_with (first | (go_at_call 39;refine C1.out.mono ?_))
  rintro e w1 ⟨rfl,hr1,hg1⟩
  have HR1:Hid (Rd w1 R s j T):=hr1
  have HG1:Hid (w.grownBy w1 (some R)):=gb_two HGK.out hg1
  clear hr1 hg1
  go_wp2_with (first | (go_at_call 44;refine (C2.out _ HR1.out HG1.out).mono ?_))
  rintro e w2 ⟨h1,h2,h3,h4⟩
  have HR2:Hid (Rd w2 R s m T):=h3
  have HG2:Hid (w.grownBy w2 (some R)):=gb_two HG1.out h4
  clear h3 h4
  cases ok with
  | false =>
   obtain ⟨v,rfl,F,rfl,hF⟩:=h2 rfl
   have HGE:Hid (Except.error (2,m)=G):=by
    have:=HGP.out
    rw [if_pos (by trivial)] at this
    exact this
   have HFV:Hid (FaultV w2 (.iface 65 (.pointer (some ⟨F,0,none⟩))) m ty pv):=⟨F,rfl,hF⟩
   clear h1 h2 hF
   go_wp2
   refine bodyPost_ret (results_tmp (t:=2) rfl _ _ _) rfl ?_
   refine ⟨fun j hj=>?_,fun c p hp=>?_,HG2.out⟩
   ·rw [<-HGE.out] at hj;cases hj
   ·rw [<-HGE.out] at hp
    cases hp
    exact ⟨_,rfl,HFV.out⟩
  | true =>
   obtain rfl:=h1 rfl
   clear h1 h2
   go_wp2_with (first | (go_at_call 40;refine (C3.out _ HR2.out).mono ?_))
   rintro e w3 ⟨rfl,hg3⟩
   have HR3:Hid (Rd w3 R s m T):=HR2.out.grow hg3
   have HG3:Hid (w.grownBy w3 (some R)):=gb_more HG2.out hg3
   clear hg3
   by_cases h10:x=10
   ·have hb:(x != 10)=false:=by simp [h10]
    have hml:=HL2.out h10
    have HGN:Hid (gap s.data.toList f (m+1)=G):=by
     have:=HGP.out
     rw [if_neg (by simp),if_pos h10] at this
     exact this
    obtain ⟨-,d1,-,df⟩:=HR3.out.cells
    have df1:=df 1
    have HS5:Hid (Rd (w3.setCell ⟨R,1,none⟩ (.int .i64 ((m:Int)+1))) R s (m+1) T):=HR3.out.set (m+1)
    clear df h10
    go_wp2
    refine ⟨⟨m+1,f,HS5.out,by omega,by omega,HGN.out,gb_set HG3.out 1 _⟩,?_⟩
    rw [HME.out,HS5.out.cells.2.1]
    simp
    omega
   ·have hb:(x != 10)=true:=by simp [h10]
    have HGE:Hid (Except.ok m=G):=by
     have:=HGP.out
     rw [if_neg (by simp),if_neg h10] at this
     exact this
    clear h10
    go_wp2
    refine bodyPost_ret (results_tmp (t:=2) rfl _ _ _) rfl ?_
    refine ⟨fun j hj=>?_,fun c p hp=>?_,HG3.out⟩
    ·rw [<-HGE.out] at hj
     cases hj
     exact ⟨rfl,HR3.out⟩
    ·rw [<-HGE.out] at hp;cases hp
set_option maxRecDepth 100000 in
theorem tBare_any (c:Int) (w:World):Calls Tryz.prog 42 #[.int .i64 c] w fun e w'=>e=.returned (.bool (isBa c))/\w'=w:=by
 have CS:Hid (∀w,Calls Tryz.prog 73 #[.int .i64 c] w fun e w'=>e=.returned (.bool (isSm c))/\w'=w):=fun w=>tSmall_any c w
 have CD:Hid (∀w,Calls Tryz.prog 74 #[.int .i64 c] w fun e w'=>e=.returned (.bool (isDg c))/\w'=w):=fun w=>tDigit_any c w
 have HB:Hid (isBa c=(isSm c || decide (65<=c/\c<=90) || isDg c || decide (c=95) || decide (c=45))):=rfl
 obtain ⟨b,hb⟩:∃b,isSm c=b:=⟨_,rfl⟩
 obtain ⟨d,hd⟩:∃d,isDg c=d:=⟨_,rfl⟩
 rw [hb] at CS HB
 rw [hd] at CD HB
 clear hb hd
 cases b with
 | true =>
  go_enter Tryz.func42,Tryz.ntmps42
  go_wp2_with (first | (go_at_call 73;refine (CS.out _).mono ?_;rintro e w' ⟨rfl,rfl⟩) | (go_at_call 74;refine (CD.out _).mono ?_;rintro e w' ⟨rfl,rfl⟩))
  go_ret
  refine ⟨ret_bool ?_,rfl⟩
  rw [HB.out];rfl
 | false =>
  cases d with
  | true =>
   go_enter Tryz.func42,Tryz.ntmps42
   go_wp2_with (first | (go_at_call 73;refine (CS.out _).mono ?_;rintro e w' ⟨rfl,rfl⟩) | (go_at_call 74;refine (CD.out _).mono ?_;rintro e w' ⟨rfl,rfl⟩))
   all_goals go_ret
   all_goals (refine ⟨ret_bool ?_,rfl⟩;rw [HB.out,Bool.eq_iff_iff];simp;try omega)
  | false =>
   go_enter Tryz.func42,Tryz.ntmps42
   go_wp2_with (first | (go_at_call 73;refine (CS.out _).mono ?_;rintro e w' ⟨rfl,rfl⟩) | (go_at_call 74;refine (CD.out _).mono ?_;rintro e w' ⟨rfl,rfl⟩))
   all_goals go_ret
   all_goals (refine ⟨ret_bool ?_,rfl⟩;rw [HB.out,Bool.eq_iff_iff];simp;try omega)
theorem hexV_bound (c:Int):-1<=hexV c/\hexV c < 16:=by
 unfold hexV isDg
 simp only [decide_eq_true_eq]
 repeat' split
 all_goals omega
set_option maxRecDepth 100000 in
theorem tHex_any (c:Int) (hc:-1<=c/\c < 256) (w:World):Calls Tryz.prog 155 #[.int .i64 c] w fun e w'=>e=.returned (.int .i64 (hexV c))/\w'=w:=by
 have CD:Hid (∀w,Calls Tryz.prog 74 #[.int .i64 c] w fun e w'=>e=.returned (.bool (isDg c))/\w'=w):=fun w=>tDigit_any c w
 have HX:Hid (hexV c=if isDg c=true then c - 48 else if 97<=c/\c<=102 then c - 87 else if 65<=c/\c<=70 then c - 55 else -1):=rfl
 obtain ⟨d,hd⟩:∃d,isDg c=d:=⟨_,rfl⟩
 rw [hd] at CD HX
 clear hd
 obtain ⟨h1,h2⟩:=hc
 obtain ⟨y,hy⟩:∃y,hexV c=y:=⟨_,rfl⟩
 rw [hy] at HX ⊢
 clear hy
 cases d with
 | true =>
  go_enter Tryz.func155,Tryz.ntmps155
  go_wp2_with (first | (go_at_call 74;refine (CD.out _).mono ?_;rintro e w' ⟨rfl,rfl⟩))
  go_ret
  refine ⟨ret_int ?_,rfl⟩
  rw [HX.out];simp
 | false =>
  go_enter Tryz.func155,Tryz.ntmps155
  go_wp2_with (first | (go_at_call 74;refine (CD.out _).mono ?_;rintro e w' ⟨rfl,rfl⟩))
  all_goals go_ret
  all_goals (refine ⟨ret_int ?_,rfl⟩;rw [HX.out];simp;try omega)
structure Es (w:World) (E:Int->TypeId × Value):Prop where
 te:w.cell? ⟨5,0,none⟩=some (.iface (E 2).1 (E 2).2)
 ra:w.cell? ⟨1,0,none⟩=some (.iface (E 3).1 (E 3).2)
 ma:w.cell? ⟨2,0,none⟩=some (.iface (E 4).1 (E 4).2)
 tw:w.cell? ⟨3,0,none⟩=some (.iface (E 5).1 (E 5).2)
structure Far (R:Nat):Prop where
 te:¬ R=5
 ra:¬ R=1
 ma:¬ R=2
 tw:¬ R=3
theorem Es.grow {w w':World} {E:Int->TypeId × Value} {R:Nat} (h:Es w E) (hR:Far R) (hg:w.grownBy w' (some R)):Es w' E :=
 ⟨hg.cell h.te (by simp;exact fun e=>hR.te e.symm),hg.cell h.ra (by simp;exact fun e=>hR.ra e.symm),hg.cell h.ma (by simp;exact fun e=>hR.ma e.symm),hg.cell h.tw (by simp;exact fun e=>hR.tw e.symm)⟩
def FaultE (w:World) (v:Value) (E:Int->TypeId × Value) (c:Int) (p:Nat):Prop:=FaultV w v p (E c).1 (E c).2
def NuPost (R:Nat) (s:ByteArray) (T:Nat) (E:Int->TypeId × Value) (g:Rs (Int × Nat)) (w:World) (e:Ending) (w':World):Prop:=(∀n j,g=.ok (n,j)->e=.returned (.tuple #[.int .i64 n,.nilIface])/\Rd w' R s j T)/\(∀c p,g=.error (c,p)->∃v,e=.returned (.tuple #[.int .i64 0,v])/\FaultE w' v E c p/\∃j,Rd w' R s j T)/\w.grownBy w' (some R)
theorem rdTru_eq (l:List UInt8) (i:Nat):rdTru l i=if subT l i (toR isSm l i - i)=[116,114,117,101] then .ok (1,toR isSm l i) else if subT l i (toR isSm l i - i)=[102,97,108,115,101] then .ok (0,toR isSm l i) else .error (2,i):=rfl
set_option maxRecDepth 100000 in
set_option maxHeartbeats 1600000 in
theorem tTruth_any (R:Nat) (s:ByteArray) (i T:Nat) (E:Int->TypeId × Value) (w:World) (h:Rd w R s i T) (hi:i<=s.size) (hs:s.size<=1048576) (he:Es w E) (hR:Far R) :
  Calls Tryz.prog 104 #[.pointer (some ⟨R,0,none⟩)] w (NuPost R s T E (rdTru s.data.toList i) w):=by
 have CN:Hid (∀k w,Rd w R s k T->k<=s.size->Calls Tryz.prog 40 #[.pointer (some ⟨R,0,none⟩)] w fun e w'=>e=.returned (.int .i64 (nx s.data.toList k))/\w.grownBy w' none):=fun k w h1 h2=>tNext_any R s k T w h1 h2 hs
 have CB:Hid (∀c w,Calls Tryz.prog 73 #[.int .i64 c] w fun e w'=>e=.returned (.bool (isSm c))/\w'=w):=tSmall_any
 have CW:Hid (∀w,Calls Tryz.prog 101 #[.iface (E 2).1 (E 2).2,.int .i64 (i:Nat)] w fun e w'=>(∃v,e=.returned v/\FaultV w' v i (E 2).1 (E 2).2)/\w.grownBy w' none):=fun w=>tWrong_any i _ _ w
 have HTE:Hid (∀w',w.grownBy w' (some R)->w'.cell? ⟨5,0,none⟩=some (.iface (E 2).1 (E 2).2)):=fun w' hg=>(he.grow hR hg).te
 have HFE:Hid (∀w' v,FaultV w' v i (E 2).1 (E 2).2->FaultE w' v E 2 i):=fun _ _ h=>h
 obtain ⟨ty,hty⟩:∃ty,(E 2).1=ty:=⟨_,rfl⟩
 obtain ⟨pv,hpv⟩:∃pv,(E 2).2=pv:=⟨_,rfl⟩
 rw [hty,hpv] at CW HTE HFE
 have hl:s.data.toList.length=s.size:=by simp
 have HST:Hid (∀k,k < s.size->isSm (nx s.data.toList k)=true->toR isSm s.data.toList k=toR isSm s.data.toList (k+1)):=fun k hk hb=>toR_step isSm _ k (by omega) hb
 have HSP:Hid (∀k,isSm (nx s.data.toList k)=false->toR isSm s.data.toList k=k):=fun k hb=>toR_stop isSm _ k hb
 have HLT:Hid (∀k,k<=s.size->isSm (nx s.data.toList k)=true->k < s.size):=fun k hk hb=>by
  apply Classical.byContradiction
  intro hn
  rw [nx_end _ _ (by omega)] at hb
  exact absurd hb (by decide)
 have HRE:Hid (rdTru s.data.toList i=if subT s.data.toList i (toR isSm s.data.toList i - i)=[116,114,117,101] then .ok (1,toR isSm s.data.toList i) else if subT s.data.toList i (toR isSm s.data.toList i - i)=[102,97,108,115,101] then .ok (0,toR isSm s.data.toList i) else .error (2,i)):=rdTru_eq _ i
 have hij:=toR_le isSm s.data.toList i (by omega)
 rw [hl] at hij
 obtain ⟨J,hJ⟩:∃J,toR isSm s.data.toList i=J:=⟨_,rfl⟩
 have HJ:Hid (toR isSm s.data.toList i=J):=hJ
 obtain ⟨G,hG⟩:∃G,rdTru s.data.toList i=G:=⟨_,rfl⟩
 rw [hJ] at HRE hij
 rw [hG] at HRE ⊢
 obtain ⟨hij1,hij2⟩:=hij
 have H0:Hid (Rd w R s i T):=h
 obtain ⟨X,hX⟩:∃X:ByteArray,X=⟨(subT s.data.toList i (J - i)).toArray⟩:=⟨_,rfl⟩
 have s1:∀wx,(Instr.slice 9 (.string s) (some (.int .i64 (i:Int))) (some (.int .i64 (J:Int))) none).run Tryz.prog wx=.ok (.string X) wx:=fun wx=>by rw [hX];exact run_sub s i J hij1 hij2 wx
 have HXE:Hid (X.toList=subT s.data.toList i (J - i)):=by show _=_;rw [hX,ByteArray.toList_eq]
 obtain ⟨c0,c1,-,-⟩:=h.cells
 clear h hJ hG hX hty hpv he
 go_enter Tryz.func104,Tryz.ntmps104
 go_wp2
 go_loopw [] (fun wr=>∃k:Nat,Rd wr R s k T/\k<=s.size/\toR isSm s.data.toList k=J/\w.grownBy wr (some R)) (fun wr=>s.size - (match wr.cell? ⟨R,1,none⟩ with | some (.int _ k)=>k.toNat | _=>0))
 case atStart=>exact ⟨i,H0.out,hi,HJ.out,gb_refl _ _⟩
 case round =>
  obtain ⟨k,hrd,hk,hbl,hg⟩:=hrel
  have HRD:Hid (Rd wr R s k T):=hrd
  have HBL:Hid (toR isSm s.data.toList k=J):=hbl
  have HG:Hid (w.grownBy wr (some R)):=hg
  have C1:Hid (Calls Tryz.prog 40 #[.pointer (some ⟨R,0,none⟩)] wr fun e w'=>e=.returned (.int .i64 (nx s.data.toList k))/\wr.grownBy w' none):=CN.out k wr hrd hk
  have hme:(match wr.cell? ⟨R,1,none⟩ with | some (.int _ k)=>k.toNat | _=>0)=k:=by rw [hrd.cells.2.1];simp
  have HME:Hid ((match wr.cell? ⟨R,1,none⟩ with | some (.int _ k)=>k.toNat | _=>0)=k):=hme
  have HS1:Hid (isSm (nx s.data.toList k)=true->toR isSm s.data.toList k=toR isSm s.data.toList (k+1)):=fun hb=>HST.out k (HLT.out k hk hb) hb
  have HS2:Hid (isSm (nx s.data.toList k)=false->toR isSm s.data.toList k=k):=HSP.out k
  have HL2:Hid (isSm (nx s.data.toList k)=true->k < s.size):=HLT.out k hk
  obtain ⟨c,hc⟩:∃c,nx s.data.toList k=c:=⟨_,rfl⟩
  rw [hc] at C1 HS1 HS2 HL2
  have CB1:Hid (∀w,Calls Tryz.prog 73 #[.int .i64 c] w fun e w'=>e=.returned (.bool (isSm c))/\w'=w):=fun w=>CB.out c w
  obtain ⟨b,hb⟩:∃b,isSm c=b:=⟨_,rfl⟩
  rw [hb] at CB1 HS1 HS2 HL2
  clear hrd hbl hg hme hc hb c0 c1
  cases b with
  | false =>
   have HKJ:Hid (k=J):=(HS2.out (by trivial)).symm.trans HBL.out
   go_wp2_with (first | (go_at_call 40;refine C1.out.mono ?_;rintro e w2 ⟨rfl,hg2⟩) | (go_at_call 73;refine (CB1.out _).mono ?_;rintro e w' ⟨rfl,rfl⟩))
   have HR2:Hid (Rd w' R s J T):=by rw [<-HKJ.out];exact HRD.out.grow hg2
   have HG2:Hid (w.grownBy w' (some R)):=gb_more HG.out hg2
   obtain ⟨d0,d1,-,-⟩:=HR2.out.cells
   have dte:=HTE.out _ HG2.out
   clear hg2
   have HRE2:Hid (G=if X.toList=[116,114,117,101] then .ok (1,J) else if X.toList=[102,97,108,115,101] then .ok (0,J) else .error (2,i)):=by show _=_;rw [HXE.out];exact HRE.out
   by_cases h1:X.toList=[116,114,117,101]
   ·have hb:(X.toList == [116,114,117,101])=true:=by simp [h1]
    have HGG:Hid (G=.ok (1,J)):=by show G=_;rw [HRE2.out,if_pos h1]
    clear h1
    go_quiet (fail)
    go_wp2
    refine bodyPost_ret (results_tmp2 (t:=2) (u:=3) rfl _ _ _) rfl ?_
    rw [HGG.out]
    exact ⟨fun n j hh=>(by cases hh;exact ⟨rfl,HR2.out⟩),fun c p hh=>(by cases hh),gb_drew HG2.out _⟩
   ·have hb:(X.toList == [116,114,117,101])=false:=by simp [h1]
    by_cases h2:X.toList=[102,97,108,115,101]
    ·have hb2:(X.toList == [102,97,108,115,101])=true:=by simp [h2]
     have HGG:Hid (G=.ok (0,J)):=by show G=_;rw [HRE2.out,if_neg h1,if_pos h2]
     clear h1 h2
     go_quiet (fail)
     go_wp2
     refine bodyPost_ret (results_tmp2 (t:=2) (u:=3) rfl _ _ _) rfl ?_
     rw [HGG.out]
     exact ⟨fun n j hh=>(by cases hh;exact ⟨rfl,HR2.out⟩),fun c p hh=>(by cases hh),gb_drew HG2.out _⟩
    ·have hb2:(X.toList == [102,97,108,115,101])=false:=by simp [h2]
     have HGG:Hid (G=.error (2,i)):=by show G=_;rw [HRE2.out,if_neg h1,if_neg h2]
     clear h1 h2
     go_quiet (fail)
     go_wp2_with (go_at_call 101;refine (CW.out _).mono ?_;rintro e w3 ⟨⟨v,rfl,hv⟩,hg3⟩)
     refine bodyPost_ret (results_tmp2 (t:=2) (u:=3) rfl _ _ _) rfl ?_
     rw [HGG.out]
     exact ⟨fun n j hh=>(by cases hh),fun c p hh=>(by cases hh;exact ⟨v,rfl,HFE.out _ _ hv,J,Rd.grow (w:=World.drewN w' _) HR2.out hg3⟩),gb_more (gb_drew HG2.out _) hg3⟩
  | true =>
   have hkl:k < s.size:=HL2.out (by trivial)
   have HN:Hid (toR isSm s.data.toList (k+1)=J):=(HS1.out (by trivial)).symm.trans HBL.out
   go_wp2_with (first | (go_at_call 40;refine C1.out.mono ?_;rintro e w2 ⟨rfl,hg2⟩;obtain ⟨-,d1,-,df⟩:=(HRD.out.grow hg2).cells;have df1:=df 1) | (go_at_call 73;refine (CB1.out _).mono ?_;rintro e w' ⟨rfl,rfl⟩))
   have HS3:Hid (Rd (w'.setCell ⟨R,1,none⟩ (.int .i64 ((k:Int)+1))) R s (k+1) T):=(HRD.out.grow hg2).set (k+1)
   refine ⟨⟨k+1,HS3.out,by omega,HN.out,gb_set (gb_more HG.out hg2) 1 _⟩,?_⟩
   rw [HME.out,HS3.out.cells.2.1]
   simp
   omega
def surI (n:Int):Bool:=decide (55296<=n/\n<=57343)
def sur (n:Nat):Bool:=surI (n:Nat)
set_option maxRecDepth 100000 in
theorem tValidI (n:Int) (h0:0<=n) (hn:n < 65536) (w:World):Calls Tryz.prog 156 #[.int .i32 n] w fun e w'=>e=.returned (.bool (!surI n))/\w'=w:=by
 have HX:Hid (surI n=decide (55296<=n/\n<=57343)):=rfl
 obtain ⟨y,hy⟩:∃y,surI n=y:=⟨_,rfl⟩
 rw [hy] at HX ⊢
 clear hy
 go_enter Tryz.func156,Tryz.ntmps156
 go_wp2
 all_goals go_ret
 all_goals (refine ⟨ret_bool ?_,rfl⟩;rw [HX.out];simp;try omega)
theorem tValid_any (n:Nat) (hn:n < 65536) (w:World):Calls Tryz.prog 156 #[.int .i32 (n:Nat)] w fun e w'=>e=.returned (.bool (!sur n))/\w'=w:=tValidI (n:Nat) (by omega) (by omega) w
def numE (p:Nat):Rs (Nat × Nat)->Rs (Nat × Nat)
 | .error e=>.error e
 | .ok (n,j)=>if sur n=true then .error (2,p) else .ok (n,j)
def numB (l:List UInt8) (i p:Nat):Rs (Nat × Nat):=numE p (four l 4 i 0)
theorem four_step (l:List UInt8) (k i n:Nat):four l (k+1) i n=if hexV (nx l i) < 0 then .error (2,i) else four l k (i+1) (16 * n+(hexV (nx l i)).toNat):=rfl
theorem or16 (c d:Nat) (hc:c < 4096) (hd:d < 16):bits BinOp.or IntKind.i32 ((c:Int) * 16) (d:Int)=((16 * c+d:Nat):Int):=by
 have e1:(c:Int) * 16=((c * 16:Nat):Int):=by simp
 have e2:c * 16 ||| d=16 * c+d:=by
  have:=Nat.shiftLeft_add_eq_or_of_lt (a:=c) (b:=d) (i:=4) (by omega)
  rw [Nat.shiftLeft_eq] at this
  have e:(2:Nat) ^ 4=16:=rfl
  rw [e] at this
  omega
 have e3:(BitVec.ofInt 32 ((c:Int) * 16) ||| BitVec.ofInt 32 (d:Int)).toNat=16 * c+d:=by
  rw [e1,BitVec.ofInt_natCast,BitVec.ofInt_natCast,BitVec.toNat_or,BitVec.toNat_ofNat,BitVec.toNat_ofNat,Nat.mod_eq_of_lt (by omega),Nat.mod_eq_of_lt (by omega),e2]
 show IntKind.i32.wrap (((BitVec.ofInt 32 ((c:Int) * 16) ||| BitVec.ofInt 32 (d:Int)).toNat:Nat):Int)=_
 rw [e3]
 simp [IntKind.wrap,IntKind.bits,IntKind.signed]
 omega
theorem hexV_end:hexV (-1)=-1:=by decide
def RuPost (R:Nat) (s:ByteArray) (T:Nat) (E:Int->TypeId × Value) (g:Rs (Nat × Nat)) (w:World) (e:Ending) (w':World):Prop:=(∀n j,g=.ok (n,j)->e=.returned (.tuple #[.int .i32 (n:Nat),.nilIface])/\Rd w' R s j T)/\(∀c p,g=.error (c,p)->∃v,e=.returned (.tuple #[.int .i32 0,v])/\FaultE w' v E c p/\∃j,Rd w' R s j T)/\w.grownBy w' (some R)
set_option maxRecDepth 100000 in
set_option maxHeartbeats 1600000 in
theorem tNumbered_any (R:Nat) (s:ByteArray) (i T p:Nat) (E:Int->TypeId × Value) (w:World) (h:Rd w R s i T) (hi:i<=s.size) (hs:s.size<=1048576) (he:Es w E) (hR:Far R) :
  Calls Tryz.prog 139 #[.pointer (some ⟨R,0,none⟩),.int .i64 (p:Nat)] w (RuPost R s T E (numB s.data.toList i p) w):=by
 have CN:Hid (∀k w,Rd w R s k T->k<=s.size->Calls Tryz.prog 40 #[.pointer (some ⟨R,0,none⟩)] w fun e w'=>e=.returned (.int .i64 (nx s.data.toList k))/\w.grownBy w' none):=fun k w h1 h2=>tNext_any R s k T w h1 h2 hs
 have CX:Hid (∀c,-1<=c/\c < 256->∀w,Calls Tryz.prog 155 #[.int .i64 c] w fun e w'=>e=.returned (.int .i64 (hexV c))/\w'=w):=tHex_any
 have CV:Hid (∀n:Nat,n < 65536->∀w,Calls Tryz.prog 156 #[.int .i32 (n:Nat)] w fun e w'=>e=.returned (.bool (!sur n))/\w'=w):=tValid_any
 have CW:Hid (∀w,Calls Tryz.prog 101 #[.iface (E 2).1 (E 2).2,.int .i64 (p:Nat)] w fun e w'=>(∃v,e=.returned v/\FaultV w' v p (E 2).1 (E 2).2)/\w.grownBy w' none):=fun w=>tWrong_any p _ _ w
 have HTE:Hid (∀w',w.grownBy w' (some R)->w'.cell? ⟨5,0,none⟩=some (.iface (E 2).1 (E 2).2)):=fun w' hg=>(he.grow hR hg).te
 have HFE:Hid (∀w' v q,FaultV w' v q (E 2).1 (E 2).2->FaultE w' v E 2 q):=fun _ _ _ h=>h
 obtain ⟨ty,hty⟩:∃ty,(E 2).1=ty:=⟨_,rfl⟩
 obtain ⟨pv,hpv⟩:∃pv,(E 2).2=pv:=⟨_,rfl⟩
 rw [hty,hpv] at CW HTE HFE
 have CH:Hid (∀k w',w.grownBy w' (some R)->Rd w' R s k T->Calls Tryz.prog 79 #[.pointer (some ⟨R,0,none⟩)] w' fun e w''=>(∃v,e=.returned v/\FaultV w'' v k ty pv)/\w'.grownBy w'' none):=fun k w' hg hr=>tHere_any R s k T ty pv w' hr (HTE.out w' hg)
 have hl:s.data.toList.length=s.size:=by simp
 have HFS:Hid (∀k i n,four s.data.toList (k+1) i n=if hexV (nx s.data.toList i) < 0 then .error (2,i) else four s.data.toList k (i+1) (16 * n+(hexV (nx s.data.toList i)).toNat)):=four_step _
 have HHB:Hid (∀c,-1<=hexV c/\hexV c < 16):=hexV_bound
 have HNB:Hid (∀i,-1<=nx s.data.toList i/\nx s.data.toList i < 256):=nx_bound _
 have HLT:Hid (∀k,k<=s.size->0<=hexV (nx s.data.toList k)->k < s.size):=fun k hk hb=>by
  apply Classical.byContradiction
  intro hn
  rw [nx_end _ _ (by omega),hexV_end] at hb
  omega
 obtain ⟨F,hF⟩:∃F,four s.data.toList 4 i 0=F:=⟨_,rfl⟩
 have HF:Hid (four s.data.toList 4 i 0=F):=hF
 obtain ⟨G,hG⟩:∃G,numB s.data.toList i p=G:=⟨_,rfl⟩
 have HGF:Hid (G=numE p F):=by show _=_;rw [<-hG,<-hF];rfl
 rw [hG]
 have H0:Hid (Rd w R s i T):=h
 clear h hF hG hty hpv he
 go_enter Tryz.func139,Tryz.ntmps139
 go_wp2
 go_loopw [6,8] (fun vc vk wr=>∃k c j:Nat,vc=.int .i32 (c:Nat)/\vk=.int .i64 (k:Nat)/\k<=4/\c < 16 ^ k/\four s.data.toList (4 - k) j c=F/\Rd wr R s j T/\j<=s.size/\w.grownBy wr (some R)) (fun _ vk _=>4 - (intOf vk).toNat)
 case atStart=>exact ⟨0,0,i,rfl,rfl,by omega,by omega,HF.out,H0.out,hi,gb_refl _ _⟩
 case round =>
  obtain ⟨k,c,j,rfl,rfl,hk,hc,hf,hrd,hj,hg⟩:=hrel
  have HRD:Hid (Rd _ R s j T):=hrd
  have HG:Hid (w.grownBy _ (some R)):=hg
  by_cases hk4:k=4
  ·subst hk4
   have hc4:c < 65536:=by omega
   have HFF:Hid (F=.ok (c,j)):=hf.symm
   have HGG:Hid (G=if sur c=true then .error (2,p) else .ok (c,j)):=by
    show _=_
    rw [HGF.out,HFF.out];rfl
   have CV1:Hid (∀w,Calls Tryz.prog 156 #[.int .i32 (c:Nat)] w fun e w'=>e=.returned (.bool (!sur c))/\w'=w):=CV.out c hc4
   have dte:=HTE.out _ hg
   obtain ⟨b,hb⟩:∃b,sur c=b:=⟨_,rfl⟩
   rw [hb] at CV1 HGG
   clear hb hrd hg hf hc hk
   cases b with
   | true =>
    go_wp2_with (first | (go_at_call 156;refine (CV1.out _).mono ?_;rintro e w' ⟨rfl,rfl⟩) | (go_at_call 101;refine (CW.out _).mono ?_;rintro e w3 ⟨⟨v,rfl,hv⟩,hg3⟩))
    refine bodyPost_ret (results_tmp2 (t:=4) (u:=5) rfl _ _ _) rfl ?_
    rw [HGG.out]
    exact ⟨fun n j hh=>(by cases hh),fun c p hh=>(by cases hh;exact ⟨v,rfl,HFE.out _ _ _ hv,_,HRD.out.grow hg3⟩),gb_more HG.out hg3⟩
   | false =>
    go_wp2_with (first | (go_at_call 156;refine (CV1.out _).mono ?_;rintro e w' ⟨rfl,rfl⟩))
    refine bodyPost_ret (results_tmp2 (t:=4) (u:=5) rfl _ _ _) rfl ?_
    rw [HGG.out]
    exact ⟨fun n j hh=>(by cases hh;exact ⟨rfl,HRD.out⟩),fun c p hh=>(by cases hh),HG.out⟩
  ·have hk3:k < 4:=by omega
   obtain ⟨m,hm⟩:∃m,4 - k=m+1:=⟨3 - k,by omega⟩
   have hm2:4 - (k+1)=m:=by omega
   rw [hm,HFS.out] at hf
   have C1:Hid (Calls Tryz.prog 40 #[.pointer (some ⟨R,0,none⟩)] _ fun e w'=>e=.returned (.int .i64 (nx s.data.toList j))/\World.grownBy _ w' none):=CN.out j _ hrd hj
   have hxb:=HHB.out (nx s.data.toList j)
   have C2:Hid (∀w,Calls Tryz.prog 155 #[.int .i64 (nx s.data.toList j)] w fun e w'=>e=.returned (.int .i64 (hexV (nx s.data.toList j)))/\w'=w):=CX.out _ (HNB.out j)
   have HJL:Hid (0<=hexV (nx s.data.toList j)->j < s.size):=HLT.out j hj
   obtain ⟨d,hd⟩:∃d,hexV (nx s.data.toList j)=d:=⟨_,rfl⟩
   rw [hd] at C2 hf hxb HJL
   obtain ⟨x,hx⟩:∃x,nx s.data.toList j=x:=⟨_,rfl⟩
   rw [hx] at C1 C2
   obtain ⟨hd1,hd2⟩:=hxb
   have HFF:Hid ((if d < 0 then .error (2,j) else four s.data.toList m (j+1) (16 * c+d.toNat))=F):=hf
   have hc4:c < 4096:=Nat.lt_of_lt_of_le hc (Nat.pow_le_pow_right (by decide) (show k<=3 by omega))
   have HC:Hid (c < 16 ^ k):=hc
   clear hd hx hf hrd hg hm hk4 hk hc
   by_cases hd0:d < 0
   ·have HGG:Hid (G=.error (2,j)):=by
     show _=_
     have:=HFF.out
     rw [if_pos hd0] at this
     rw [HGF.out,<-this];rfl
    go_wp2_with (first | (go_at_call 40;refine C1.out.mono ?_;rintro e w2 ⟨rfl,hg2⟩) | (go_at_call 155;refine (C2.out _).mono ?_;rintro e w' ⟨rfl,rfl⟩) | (go_at_call 79;refine (CH.out j _ (gb_more HG.out hg2) (HRD.out.grow hg2)).mono ?_;rintro e w5 ⟨⟨v,rfl,hv⟩,hg5⟩))
    refine bodyPost_ret (results_tmp2 (t:=4) (u:=5) rfl _ _ _) rfl ?_
    rw [HGG.out]
    exact ⟨fun n j hh=>(by cases hh),fun c p hh=>(by cases hh;exact ⟨v,rfl,HFE.out _ _ _ hv,_,(HRD.out.grow hg2).grow hg5⟩),gb_more (gb_more HG.out hg2) hg5⟩
   ·have hjl:j < s.size:=HJL.out (by omega)
    obtain ⟨d,rfl⟩:∃d':Nat,d=(d':Int):=⟨d.toNat,by omega⟩
    have HFN:Hid (four s.data.toList m (j+1) (16 * c+d)=F):=by
     have:=HFF.out
     rw [if_neg hd0] at this
     show _=_
     simpa using this
    have hd3:¬ ((d:Int) < 0):=hd0
    go_wp2_with (first | (go_at_call 40;refine C1.out.mono ?_;rintro e w2 ⟨rfl,hg2⟩;obtain ⟨-,d1,-,df⟩:=(HRD.out.grow hg2).cells;have df1:=df 1) | (go_at_call 155;refine (C2.out _).mono ?_;rintro e w' ⟨rfl,rfl⟩))
    rw [or16 c d hc4 (by omega)]
    have HS3:Hid (Rd (w'.setCell ⟨R,1,none⟩ (.int .i64 ((j:Int)+1))) R s (j+1) T):=(HRD.out.grow hg2).set (j+1)
    refine ⟨⟨k+1,16 * c+d,j+1,rfl,by simp,by omega,?_,by rw [hm2];exact HFN.out,HS3.out,by omega,gb_set (gb_more HG.out hg2) 1 _⟩,?_⟩
    ·have:=HC.out
     rw [Nat.pow_succ]
     omega
    ·simp [intOf]
     omega
end Go.Proofs.YtbgnflcebafjjaaGreatDoor
namespace Go.Proofs
open Go.Shelf
def Tryz.lays137_ren:Go.Shelf.Ren:=⟨fun | 137=>114 | 217=>137 | 266=>150 | n=>n,fun | 22=>41 | 27=>155 | 28=>31 | 31=>108 | 34=>54 | 35=>157 | 37=>74 | 40=>212 | 41=>71 | 42=>158 | 43=>156 | 46=>175 | 47=>174 | 48=>200 | 49=>258 | 51=>193 | 52=>192 | 53=>195 | 54=>194 | 55=>177 | 69=>87 | 70=>73 | 71=>75 | 72=>76 | 73=>79 | 74=>42 | 75=>43 | 76=>118 | 77=>119 | 78=>121 | 79=>180 | 80=>85 | 81=>90 | 83=>127 | 84=>196 | 85=>218 | 86=>219 | 94=>125 | 104=>34 | 105=>181 | 106=>182 | 108=>233 | 111=>91 | 112=>159 | 114=>211 | 119=>213 | 126=>198 | 127=>126 | 128=>199 | 131=>190 | 137=>214 | 138=>215 | 139=>216 | 143=>235 | 144=>236 | 145=>237 | 164=>93 | 165=>176 | 167=>217 | 168=>220 | 169=>221 | 170=>222 | 171=>207 | 172=>208 | 173=>209 | 174=>210 | 175=>229 | 176=>230 | 182=>185 | 183=>186 | 209=>231 | 210=>232 | 211=>226 | 212=>227 | 213=>228 | 214=>234 | 218=>201 | 219=>202 | 220=>203 | 222=>205 | 228=>223 | 229=>224 | 232=>238 | 233=>239 | 238=>240 | 239=>241 | 240=>242 | 241=>243 | 242=>244 | 243=>246 | 244=>101 | 245=>247 | 246=>248 | 247=>249 | 248=>250 | 249=>251 | n=>n,fun | 1=>6 | 3=>7 | 4=>8 | 15=>10 | 16=>11 | 17=>9 | 18=>12 | 19=>13 | n=>n⟩
theorem Tryz.lays137:Go.Proofs.Lays.n137 Tryz.prog Tryz.lays137_ren:={
 mixed:=by kernel_rfl
 f137:=Tryz.func114.trans (congrArg some (by kernel_rfl))
 f217:=Tryz.func137.trans (congrArg some (by kernel_rfl))
 f266:=Tryz.func150.trans (congrArg some (by kernel_rfl))
 t3:=Tryz.underlying3
 a3:=Tryz.isAgg3
 z3:=Tryz.sizeOf3
 v3:=Tryz.zeroValue3
 t5:=Tryz.underlying5
 a5:=Tryz.isAgg5
 z5:=Tryz.sizeOf5
 v5:=Tryz.zeroValue5
 t9:=Tryz.underlying9
 a9:=Tryz.isAgg9
 z9:=Tryz.sizeOf9
 v9:=Tryz.zeroValue9 }
end Go.Proofs
