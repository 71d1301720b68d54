import Derived.Test.YtbgnflcebafjjaaGreatDoorA16
import Derived.RangeFuncNested
import Derived.RangeFuncBound
import Derived.RangeFuncCalls
import Derived.RangeFuncLeaves
import Derived.Shelf.Abstract
import Derived.Shelf.RegionOpen
import Derived.OwnWalkIn
import Derived.TacticsInMore
import Derived.LoopNIn
import Derived.LoopIn
namespace Go.Proofs.YtbgnflcebafjjaaGreatDoor
open Go.RowKit Go.Maps Go.WideMaps Go.Joins
set_option linter.unusedVariables false
set_option maxRecDepth 100000 in
set_option maxHeartbeats 6400000 in
theorem pHeader (B p:Nat) (NV:Value) (out path:List UInt8) (t:Nat) (ky:List UInt8) (dbl:Bool) (ab:Nat) (w:World) (hP:Pn w B p NV out path) (hab:ab<=path.length) (hky:ky.length<=1048576) (hsz:out.length+(hdT out (pathN path ab ky) dbl).length<=70368744177664) :
  Calls Tryz.prog 34 #[.pointer (some ⟨p,0,none⟩),.agg #[.int .i64 (t:Nat),.string ⟨ky.toArray⟩,.bool dbl,.int .i64 (ab:Nat)]] w fun e w'=>e=.returned (.tuple #[])/\Pn w' B p NV (out++hdT out (pathN path ab ky) dbl) (pathN path ab ky)/\PF B w w':=by
 have hbx:=heap_alloc_new w (.cells #[.int .i64 (t:Nat),.string ⟨ky.toArray⟩,.bool dbl,.int .i64 (ab:Nat)] 83)
 have hga:w.grownBy (w.alloc (.cells #[.int .i64 (t:Nat),.string ⟨ky.toArray⟩,.bool dbl,.int .i64 (ab:Nat)] 83)) none:=World.grownBy_alloc _ _ none
 obtain ⟨w1,hw1⟩:∃W,w.alloc (.cells #[.int .i64 (t:Nat),.string ⟨ky.toArray⟩,.bool dbl,.int .i64 (ab:Nat)] 83)=W:=⟨_,rfl⟩
 obtain ⟨bx,hbxe⟩:∃b,w.heap.size=b:=⟨_,rfl⟩
 have HF1:Hid (PF B w w1):=by rw [<-hw1];exact PF.gb hga hP.pf
 have hP1:Pn w1 B p NV out path:=by rw [<-hw1];exact hP.gb hga
 rw [hw1,hbxe] at hbx
 have HBX:Hid (w1.heap[bx]?=some (.cells #[.int .i64 (t:Nat),.string ⟨ky.toArray⟩,.bool dbl,.int .i64 (ab:Nat)] 83 (0,0))):=hbx
 have b3:w1.cell? ⟨bx,3,none⟩=some (.int .i64 (ab:Nat)):=by rw [Lib.cell_of_heap hbx];rfl
 have hPN:(pathN path ab ky).length=ab+(if 0 < ab then 1 else 0)+(kt ky).length:=by unfold pathN;rw [List.length_append,List.length_append,List.length_take];split <;> simp <;> omega
 have hpsz:(pathN path ab ky).length<=(hdT out (pathN path ab ky) dbl).length:=by unfold hdT;simp only [List.length_append];omega
 obtain ⟨i0,hi0,hii⟩:=Option.map_eq_some_iff.1 infoU8
 simp only [Prod.mk.injEq] at hii
 obtain ⟨hz0,hz1,hzb⟩:=hii
 obtain ⟨hB,ad,bf,pv,hp,had,hbf,hpv,hap,hnil⟩:=hP1
 obtain ⟨o,c,rfl⟩:=own_slice hpv
 have hcap:ab<=c/\c<=maxLen:=by
  rcases hpv.2 with ⟨hv,hn⟩ | ⟨g,cap,cur,hv,h1,h2,h3,h4,h5,h6⟩
  ·injection hv with _ _ hc
   unfold maxLen
   omega
  ·injection hv with _ _ hc
   subst hc
   exact ⟨by omega,h4⟩
 obtain ⟨hac,hcm⟩:=hcap
 have hBw1:B<=w1.heap.size:=Nat.le_of_lt (Nat.lt_of_le_of_lt hB (blk_lt hp))
 obtain ⟨-,-,-,c3,cf⟩:=hp.cells
 have cf3:=cf 3
 have HCUT:Hid (∀w2,w1.grownBy w2 none->Pn (w2.setCell ⟨p,3,none⟩ (.slice o ab c)) B p NV out (path.take ab)/\PF B w1 (w2.setCell ⟨p,3,none⟩ (.slice o ab c))/\(w2.setCell ⟨p,3,none⟩ (.slice o ab c)).heap[bx]?=w1.heap[bx]?):=fun w2 hg=>by
  have hrow:=own_cut hpv ab hab
  rw [cells_take] at hrow
  have hl:(path.take ab).length=ab:=by rw [List.length_take];omega
  have hrow2:w2.ownsRow B 5 1 (.slice o ab c) (path.take ab).length (Lib.byteCells (path.take ab)):=by
   rw [hl]
   exact own_block hrow fun g cur _ hc=>hg.block g (blk_lt hc) (by simp)
  obtain ⟨-,-,h3,h4⟩:=Pn.path (w:=w) hB hp had hbf hpv hap hnil hrow2 (gb_wide hg _) (Or.inl (by cases o <;> rfl)) hBw1
  exact ⟨h3,h4,h4.oth _ _ _ _ hbx (by decide) (by decide)⟩
 have ha0:(0:Int)<=(ab:Int):=by omega
 have hacI:(ab:Int)<=(c:Int):=by omega
 have hcI:(c:Int)<=(c:Int):=Int.le_refl _
 have HAB:Hid (ab<=path.length):=hab
 obtain ⟨P3,hP3⟩:∃P3,pathN path ab ky=P3:=⟨_,rfl⟩
 rw [hP3] at hPN hpsz hsz ⊢
 clear hP hga hp had hbf hpv hap hnil hbx
 go_enter Tryz.func34,Tryz.ntmps34
 go_upto_region 1 with fail
 try rw [hw1]
 try rw [hbxe]
 clear hw1 hbxe
 go_cut [] from 6 (fun wx=>Pn wx B p NV out (path.take ab)/\PF B w1 wx/\wx.heap[bx]?=w1.heap[bx]?)
 case first =>
  cases o with
  | none =>
   go_region
   all_goals (
    go_wp2_with fail
    go_meet
    exact HCUT.out _ (gb_drew0 _ _))
  | some oa =>
   go_region
   all_goals (
    go_wp2_with fail
    go_meet
    exact HCUT.out _ (gb_drew0 _ _))
 case rest =>
  obtain ⟨hp2,hf2,hb2⟩:=hcut
  have HF2:Hid (PF B w wc):=HF1.out.two hf2
  have HB2:Hid (wc.heap[bx]?=some (.cells #[.int .i64 (t:Nat),.string ⟨ky.toArray⟩,.bool dbl,.int .i64 (ab:Nat)] 83 (0,0))):=hb2.trans HBX.out
  have HP2:Hid (Pn wc B p NV out (path.take ab)):=hp2
  have hlA:(path.take ab).length=ab:=by rw [List.length_take];have:=HAB.out;omega
  obtain ⟨A,hA⟩:∃A,path.take ab=A:=⟨_,rfl⟩
  have HPN:Hid (P3=A++(if 0 < ab then [46] else [])++kt ky):=by show _=_;rw [<-hP3];unfold pathN;rw [hA]
  rw [hA] at HP2 hlA
  clear hp2 hf2 hb2 b3 c3 cf cf3 HCUT HF1 HBX HAB hA
  have b3:wc.cell? ⟨bx,3,none⟩=some (.int .i64 (ab:Nat)):=by rw [Lib.cell_of_heap HB2.out];rfl
  have hBw:B<=wc.heap.size:=HP2.out.pf
  go_upto_if 18 with fail
  go_cut [] from 6 (fun wx=>Pn wx B p NV out (A++(if 0 < ab then [46] else []))/\PF B wc wx)
  case first =>
   by_cases h0:0 < ab
   ·have h0I:(0:Int) < (ab:Int):=by omega
    obtain ⟨-,ad2,bf2,pv2,hp2,had2,hbf2,hpv2,hap2,hnil2⟩:=HP2.out
    have d3:=hp2.cells.2.2.2.1
    have hone:=u8_one 46
    have hga2:wc.grownBy (wc.alloc (.cells #[.int .u8 46] 5)) none:=World.grownBy_alloc _ _ none
    rw [hlA] at hpv2
    go_wp2_with (first | (at_builtin;refine wpList_append_lies _ rfl _ _ 74 rfl B 5 i0 _ 1 1 Tryz.underlying74 hi0 hz0 hz1 hzb rfl (by decide) _ _ _ rfl (hpv2.alloc _) _ 1 1 [.int .u8 46] rfl rfl (World.news_of_block (heap_alloc_new _ _)) hone (by decide) (by unfold maxLen;omega) (by omega) (by simp;omega) _ rfl ?_))
    intro g cap w2 hv2 hg2 hat hlt2
    have hv2':w2.ownsRow B 5 1 (.slice (some ⟨g,0,none⟩) (ab+1) cap) (A++[46]).length (Lib.byteCells (A++[46])):=by
     rw [cells_app,List.length_append,hlA]
     exact hv2
    obtain ⟨e3,ef,hn,hf⟩:=Pn.path (w:=w) hB ((hga2.block p (blk_lt hp2) (by simp)).trans hp2) had2 (hbf2.alloc _) (by rw [hlA];exact hpv2.alloc _) hap2 hnil2 hv2' hg2 (hat.imp (fun e=>e.symm) fun e=>⟨g,rfl,Nat.le_of_eq (by rw [World.size_alloc];exact e.symm)⟩) (by simp;omega)
    have HN:Hid (Pn (w2.setCell ⟨p,3,none⟩ (.slice (some ⟨g,0,none⟩) (ab+1) cap)) B p NV out (A++[46])/\PF B wc (w2.setCell ⟨p,3,none⟩ (.slice (some ⟨g,0,none⟩) (ab+1) cap))):=⟨hn,(PF.gb hga2 hBw).two hf⟩
    clear hv2 hv2' hg2 hat hn hf hlt2 hp2 had2 hbf2 hpv2 hap2 hnil2 hga2 d3
    go_wp2
    go_meet
    rw [if_pos h0]
    exact HN.out
   ·have h0I:¬ (0:Int) < (ab:Int):=by omega
    go_wp2
    go_meet
    rw [if_neg h0,List.append_nil]
    exact ⟨HP2.out,PF.refl _ _⟩
  case rest =>
   obtain ⟨hp3,hf3⟩:=hcut
   have HF3:Hid (PF B w wc):=HF2.out.two hf3
   have HB3:Hid (wc.heap[bx]?=some (.cells #[.int .i64 (t:Nat),.string ⟨ky.toArray⟩,.bool dbl,.int .i64 (ab:Nat)] 83 (0,0))):=(hf3.oth _ _ _ _ HB2.out (by decide) (by decide)).trans HB2.out
   obtain ⟨A2,hA2⟩:∃A2,A++(if 0 < ab then [46] else [])=A2:=⟨_,rfl⟩
   have hPNe:=HPN.out
   rw [hA2] at hPNe hp3
   have hl3:P3.length=A2.length+(kt ky).length:=by rw [hPNe,List.length_append]
   have HP3E:Hid (P3=A2++kt ky):=hPNe
   clear HF2 HB2 HP2 HPN hPN hPNe hP3 hA2 hlA b3 hf3
   have b1:wc.cell? ⟨bx,1,none⟩=some (.string ⟨ky.toArray⟩):=by rw [Lib.cell_of_heap HB3.out];rfl
   have hBw3:B<=wc.heap.size:=hp3.pf
   have HP3:Hid (Pn wc B p NV out A2):=hp3
   obtain ⟨-,ad3,bf3,pv3,hp3,had3,hbf3,hpv3,hap3,hnil3⟩:=hp3
   have d3:=hp3.cells.2.2.2.1
   obtain ⟨K,hK⟩:∃K:ByteArray,⟨ky.toArray⟩=K:=⟨_,rfl⟩
   obtain ⟨QT,hQT⟩:∃Q:ByteArray,⟨(kt ky).toArray⟩=Q:=⟨_,rfl⟩
   have hQs:QT.size=(kt ky).length:=by rw [<-hQT];show (kt ky).toArray.size=_;simp
   have hQc:Lib.strCells QT=Lib.byteCells (kt ky):=by rw [<-hQT,str_cells]
   have CQ:Hid (Calls Tryz.prog 61 #[.string K] wc.drew fun e w'=>e=.returned (.string QT)/\wc.drew.grownBy w' none):=by
    have:=tKeyText_any ⟨ky.toArray⟩ wc.drew (by show ky.toArray.size<=_;simpa using hky)
    rw [hK] at this
    have e:K.data.toList=ky:=by rw [<-hK]
    rw [e,hQT] at this
    exact this
   have HR6:Hid (∀w6,wc.drew.grownBy w6 none->w6.ownsRow B 5 1 pv3 A2.length (Lib.byteCells A2)/\B<=w6.heap.size/\w6.cell? ⟨p,3,none⟩=some pv3):=fun w6 hg=>by
    have hg':=gb_trans (gb_drew0 wc none) hg
    exact ⟨own_block hpv3 fun g cur _ hc=>hg'.block g (blk_lt hc) (by simp),Nat.le_trans hBw3 hg'.size,hg'.cell d3 (by simp)⟩
   have HK:Hid (∀w6 v' w7,wc.drew.grownBy w6 none->w7.ownsRow B 5 1 v' (A2.length+QT.size) (Lib.byteCells A2++Lib.strCells QT)->w6.grownBy w7 pv3.ownBlock->(v'.ownBlock=pv3.ownBlock\/v'.ownBlock=some w6.heap.size)->w7.cell? ⟨p,3,none⟩=some pv3/\w7.frozen? ⟨p,3,none⟩=false/\Hid (Pn (w7.setCell ⟨p,3,none⟩ v') B p NV out P3/\PF B wc (w7.setCell ⟨p,3,none⟩ v'))/\w7.cell? ⟨bx,1,none⟩=some (.string K)/\(w7.setCell ⟨p,3,none⟩ v').cell? ⟨bx,1,none⟩=some (.string K)):=fun w6 v' w7 hg hv hg7 hat=>by
    have hg':=gb_trans (gb_drew0 wc none) hg
    obtain ⟨h1,h2,h3,h4⟩:=Pn.path (w:=w) (path:=A2) (path':=P3) hB ((hg'.block p (blk_lt hp3) (by simp)).trans hp3) had3 (own_block hbf3 fun g cur _ hc=>hg'.block g (blk_lt hc) (by simp)) (own_block hpv3 fun g cur _ hc=>hg'.block g (blk_lt hc) (by simp)) hap3 hnil3 (by rw [hl3,<-hQs,HP3E.out,cells_app,<-hQc];exact hv) hg7 (hat.imp id fun e=>⟨_,e,Nat.le_refl _⟩) (Nat.le_trans hBw3 hg'.size)
    have hbx7:=(((PF.gb hg' hBw3).two (PF.app (own_block hpv3 fun g cur _ hc=>hg'.block g (blk_lt hc) (by simp)) hg7 (Nat.le_trans hBw3 hg'.size))).oth _ _ _ _ HB3.out (by decide) (by decide)).trans HB3.out
    have hbx8:=(((PF.gb hg' hBw3).two h4).oth _ _ _ _ HB3.out (by decide) (by decide)).trans HB3.out
    exact ⟨h1,h2,⟨h3,(PF.gb hg' hBw3).two h4⟩,by rw [Lib.cell_of_heap hbx7,<-hK];rfl,by rw [Lib.cell_of_heap hbx8,<-hK];rfl⟩
   rw [hK] at b1
   have hstr:A2.length+QT.size<=140737488355328:=by omega
   clear hK hQT hQs hQc hp3 had3 hbf3 hpv3 hap3 hnil3 hky
   go_upto_region 4 with fail
   go_cut [] from 6 (fun wx=>Pn wx B p NV out P3/\PF B wc wx)
   case first =>
    go_region_law (first | (refine step_str_at (by rfl) _ _ _ _ (by rfl) B 5 i0 Tryz.underlying74 Tryz.underlying9 hi0 hz0 hz1 hzb pv3 A2.length (Lib.byteCells A2) (by rfl) (HR6.out _ hg6).1 QT (by rfl) hstr (HR6.out _ hg6).2.1 ?_;intro v7 w7 hv7 hg7 hat7;obtain ⟨k1,k2,k3,k4,k5⟩:=HK.out _ _ _ hg6 hv7 hg7 hat7;obtain ⟨o7,c7,rfl⟩:=own_slice hv7) | (go_simp;go_at_call 61;refine CQ.out.mono ?_;rintro e w6 ⟨rfl,hg6⟩;have q3:=(HR6.out _ hg6).2.2))
    all_goals (
     go_wp2_with fail
     go_meet
     exact k3.out)
   case rest =>
    obtain ⟨hp4,hf4⟩:=hcut
    have HF4:Hid (PF B w wc):=HF3.out.two hf4
    have HB4:Hid (wc.heap[bx]?=some (.cells #[.int .i64 (t:Nat),.string ⟨ky.toArray⟩,.bool dbl,.int .i64 (ab:Nat)] 83 (0,0))):=(hf4.oth _ _ _ _ HB3.out (by decide) (by decide)).trans HB3.out
    have HP4:Hid (Pn wc B p NV out P3):=hp4
    clear hp4 hf4 HF3 HB3 HP3 HK HR6 CQ b1 d3 HP3E hstr hBw3
    have CL:Hid (Calls Tryz.prog 65 #[.pointer (some ⟨p,1,none⟩)] wc fun e w'=>e=.returned (.int .i64 (out.length:Nat))/\w'=wc):=bLen B p NV out P3 wc HP4.out
    have CB:Hid (out.length+1<=70368744177664->Calls Tryz.prog 63 #[.pointer (some ⟨p,1,none⟩),.int .u8 10] wc fun e w'=>e=.returned .nilIface/\Pn w' B p NV (out++[10]) P3/\PF B wc w'):=fun hl=>bWriteB B p NV out P3 10 wc HP4.out hl
    obtain ⟨n0,hn0⟩:∃n0,out.length=n0:=⟨_,rfl⟩
    have hN0:n0=0 ↔ out=[]:=by rw [<-hn0];exact List.length_eq_zero_iff
    have hsz2:out.length+(if out=[] then 0 else 1)+(if dbl then 2 else 1)+P3.length+(if dbl then 3 else 2)<=70368744177664:=by
     have e:(hdT out P3 dbl).length=(if out=[] then 0 else 1)+(if dbl then 2 else 1)+P3.length+(if dbl then 3 else 2):=by
      unfold hdT
      simp only [List.length_append]
      congr 1
      ·congr 1
       congr 1
       ·split <;> rfl
       ·split <;> rfl
      ·split <;> rfl
     omega
    rw [hn0] at CL
    have HN0:Hid (out.length=n0):=hn0
    clear hn0
    go_upto_if 43 with (first | (go_at_call 65;refine CL.out.mono ?_;rintro e w5 ⟨rfl,rfl⟩))
    go_cut [] from 6 (fun wx=>Pn wx B p NV (out++(if out=[] then [] else [10])) P3/\PF B w5 wx)
    case first =>
     by_cases h0:out=[]
     ·have h0I:¬ (0:Int) < (n0:Int):=by have:=hN0.2 h0;omega
      go_wp2
      go_meet
      rw [if_pos h0,List.append_nil]
      exact ⟨HP4.out,PF.refl _ _⟩
     ·have h0I:(0:Int) < (n0:Int):=by have:=mt hN0.1 h0;omega
      rw [if_neg h0] at hsz2
      go_wp2_with (first | (go_at_call 63;refine (CB.out (by omega)).mono ?_))
      first | rintro e w5' rfl hp5 hf5 | rintro e w5' ⟨rfl,hp5,hf5⟩
      go_wp2
      go_meet
      rw [if_neg h0]
      exact ⟨hp5,hf5⟩
    case rest =>
     obtain ⟨hp5,hf5⟩:=hcut
     have HF5:Hid (PF B w wc):=HF4.out.two hf5
     have hb5:=(hf5.oth _ _ _ _ HB4.out (by decide) (by decide)).trans HB4.out
     have b2:wc.cell? ⟨bx,2,none⟩=some (.bool dbl):=by rw [Lib.cell_of_heap hb5];rfl
     obtain ⟨X,hX⟩:∃X,out++(if out=[] then [] else [10])=X:=⟨_,rfl⟩
     have hXl:X.length=out.length+(if out=[] then 0 else 1):=by rw [<-hX,List.length_append];congr 1;split <;> rfl
     rw [hX] at hp5
     have HX:Hid (out++(if out=[] then [] else [10])=X):=hX
     have HP5:Hid (Pn wc B p NV X P3):=hp5
     have HPE:Hid (P3 ≠ []):=by
      show _ ≠ _
      intro e
      have h1:=(kt_len ky).1
      rw [e] at hl3
      simp only [List.length_nil] at hl3
      omega
     have CW:Hid (∀(Y:List UInt8) w,Pn w B p NV X P3->Y ≠ []->X.length+Y.length<=70368744177664->Calls Tryz.prog 60 #[.pointer (some ⟨p,1,none⟩),.string ⟨Y.toArray⟩] w fun e w'=>(∃k:Int,e=.returned (.tuple #[.int .i64 k,.nilIface]))/\Pn w' B p NV (X++Y) P3/\PF B w w'):=fun Y w h h0 hl=>bWriteS B p NV X P3 Y w h h0 hl
     rw [<-hXl] at hsz2
     clear hp5 hf5 hb5 hX CL CB HF4 HB4 HP4
     cases dbl with
     | true =>
      simp only [if_true] at hsz2
      go_wp2_with (first | (go_at_call 60;refine (CW.out [91,91] _ HP5.out (by simp) (by simp;omega)).mono ?_))
      rintro e w6 ⟨⟨k6,rfl⟩,hp6,hf6⟩
      obtain ⟨pv6,e6,CP⟩:=bWriteP B p NV (X++[91,91]) P3 w6.drew (hp6.gb (gb_drew0 w6 none)) HPE.out (by simp;omega)
      have CP6:Hid (Calls Tryz.prog 66 #[.pointer (some ⟨p,1,none⟩),pv6] w6.drew fun e w'=>(∃k:Int,e=.returned (.tuple #[.int .i64 k,.nilIface]))/\Pn w' B p NV (X++[91,91]++P3) P3/\PF B w6.drew w'):=CP
      have q6:w6.cell? ⟨p,3,none⟩=some pv6:=e6
      have HF6:Hid (PF B w w6.drew):=(HF5.out.two hf6).two (PF.gb (gb_drew0 w6 none) hp6.pf)
      clear hp6 hf6 CP e6
      go_wp2
      go_region_law (go_simp;go_at_call 66;refine CP6.out.mono ?_;rintro e w7 ⟨⟨k7,rfl⟩,hp7,hf7⟩)
      go_wp2_with (first | (go_at_call 60;refine (bWriteS B p NV (X++[91,91]++P3) P3 [93,93,10] _ hp7 (by simp) (by simp;omega)).mono ?_))
      rintro e w8 ⟨⟨k8,rfl⟩,hp8,hf8⟩
      go_wp2
      refine bodyPost_end (results_none rfl _ _ _) rfl ?_
      refine ⟨rfl,?_,(HF6.out.two hf7).two hf8⟩
      unfold hdT
      rw [<-HX.out] at hp8
      simpa using hp8
     | false =>
      simp only [Bool.false_eq_true,if_false] at hsz2
      go_wp2_with (first | (go_at_call 60;refine (CW.out [91] _ HP5.out (by simp) (by simp;omega)).mono ?_))
      rintro e w6 ⟨⟨k6,rfl⟩,hp6,hf6⟩
      obtain ⟨pv6,e6,CP⟩:=bWriteP B p NV (X++[91]) P3 w6.drew (hp6.gb (gb_drew0 w6 none)) HPE.out (by simp;omega)
      have CP6:Hid (Calls Tryz.prog 66 #[.pointer (some ⟨p,1,none⟩),pv6] w6.drew fun e w'=>(∃k:Int,e=.returned (.tuple #[.int .i64 k,.nilIface]))/\Pn w' B p NV (X++[91]++P3) P3/\PF B w6.drew w'):=CP
      have q6:w6.cell? ⟨p,3,none⟩=some pv6:=e6
      have HF6:Hid (PF B w w6.drew):=(HF5.out.two hf6).two (PF.gb (gb_drew0 w6 none) hp6.pf)
      clear hp6 hf6 CP e6
      go_wp2
      go_region_law (go_simp;go_at_call 66;refine CP6.out.mono ?_;rintro e w7 ⟨⟨k7,rfl⟩,hp7,hf7⟩)
      go_wp2_with (first | (go_at_call 60;refine (bWriteS B p NV (X++[91]++P3) P3 [93,10] _ hp7 (by simp) (by simp;omega)).mono ?_))
      rintro e w8 ⟨⟨k8,rfl⟩,hp8,hf8⟩
      go_wp2
      refine bodyPost_end (results_none rfl _ _ _) rfl ?_
      refine ⟨rfl,?_,(HF6.out.two hf7).two hf8⟩
      unfold hdT
      rw [<-HX.out] at hp8
      simpa using hp8
end Go.Proofs.YtbgnflcebafjjaaGreatDoor
namespace Go.Proofs.YtbgnflcebafjjaaGreatDoor
open Go.RowKit Go.Maps Go.WideMaps Go.Joins Go.Shelf
set_option linter.unusedVariables false
attribute [local go_sem] Oper.semAt_some
structure VF (B:Nat) (w w':World):Prop where
 bel:Below B w w'
 oth:∀(b:Nat) (cs:Array Value) (t:TypeId) (fz:Nat × Nat),w.heap[b]?=some (.cells cs t fz)->¬ t=83->¬ t=80->w'.heap[b]?=w.heap[b]?
theorem VF.two {B:Nat} {w w1 w2:World} (h:VF B w w1) (h':VF B w1 w2):VF B w w2 :=
 ⟨h.bel.trans h'.bel,fun b cs t fz hb h1 h2=>by
  have e1:=h.oth b cs t fz hb h1 h2
  exact (h'.oth b cs t fz (e1.trans hb) h1 h2).trans e1⟩
theorem VF.refl (B:Nat) (w:World):VF B w w:=⟨Below.refl B w,fun _ _ _ _ _ _ _=>rfl⟩
theorem VF.gb {B:Nat} {w w':World} (hg:w.grownBy w' none) (hB:B<=w.heap.size):VF B w w' :=
 ⟨⟨hg.os,hg.tape,hg.output,hg.size,fun k hk=>hg.block k (by omega) (by simp)⟩,fun b cs t fz hb _ _=>hg.block b (blk_lt hb) (by simp)⟩
theorem VF.row {B:Nat} {w w':World} {t:TypeId} {g:Nat} {cur:Array Value} {fz:Nat × Nat} (hg:w.grownBy w' (some g)) (hB:B<=w.heap.size) (hgB:B<=g) (hb:w.heap[g]?=some (.cells cur t fz)) (ht:t=83\/t=80):VF B w w' :=
 ⟨⟨hg.os,hg.tape,hg.output,hg.size,fun k hk=>hg.block k (by omega) (by simp;omega)⟩,fun b cs t' fz' hb' h1 h2=>hg.block b (blk_lt hb') (by
  simp only [ne_eq,Option.some.injEq]
  refine ne_typ hb' hb ?_
  rcases ht with rfl | rfl
  ·exact h1
  ·exact h2)⟩
theorem VF.obj {B:Nat} {w w':World} {row:Option Nat} (hg:w.grownBy w' row) (hB:B<=w.heap.size) (hr:∀r,row=some r->B<=r/\∃o:Obj,w.heap[r]?=some o/\o.isCells=false):VF B w w' :=
 ⟨⟨hg.os,hg.tape,hg.output,hg.size,fun k hk=>hg.block k (by omega) (fun e=>by have:=(hr k e.symm).1;omega)⟩,fun b cs t fz hb _ _=>hg.block b (blk_lt hb) (fun e=>by
  obtain ⟨o,ho,hc⟩:=(hr b e.symm).2
  rw [hb] at ho
  cases ho
  cases hc)⟩
theorem vfK_b {B:Nat} {w:World} (hn:B<=w.heap.size) (W:World) (l:Nat) (o o':Obj) (hl:w.heap.size<=l) (h:W.heap[l]?=some o) (ho:o.isCells=false) (_:o.isWalk=false):VF B W (W.putObj l o') :=
 VF.obj (grownBy_putObj' W l o') (by have:=(Array.getElem?_eq_some_iff.1 h).1;omega) (fun r e=>by cases e;exact ⟨by omega,o,h,ho⟩)
theorem vf_own {β:Type} {B B':Nat} {w:World} (hB:B<=w.heap.size) (hB':B<=B'):OwnFrom B' (fun (_:β) W=>VF B w W) :=
 fun _ X Y row hs hg hr=>hs.two (VF.obj hg (Nat.le_trans hB hs.bel.size) (fun r e=>⟨by have:=(hr r e).1;omega,(hr r e).2⟩))
def KI (B:Nat) (w:World) (v:Value) (l:List Nat):Prop:=∃o c,v=.slice o l.length c/\∀i (hi:i < l.length),∃g,o=some ⟨g,0,none⟩/\w.cell? ⟨g,i,none⟩=some (.int .i64 (l[i]:Nat))/\(g < B\/∃cs fz,w.heap[g]?=some (.cells cs 3 fz))
theorem KI.vf {B:Nat} {w w':World} {v:Value} {l:List Nat} (h:KI B w v l) (hv:VF B w w'):KI B w' v l:=by
 obtain ⟨o,c,h1,h2⟩:=h
 refine ⟨o,c,h1,fun i hi=>?_⟩
 obtain ⟨g,h3,h4,h5⟩:=h2 i hi
 have hb:w'.heap[g]?=w.heap[g]?:=by
  rcases h5 with h5 | ⟨cs,fz,h5⟩
  ·exact hv.bel.block g h5
  ·exact hv.oth _ _ _ _ h5 (by decide) (by decide)
 refine ⟨g,h3,(World.cell?_of_block (a:=⟨g,i,none⟩) hb).trans h4,?_⟩
 rw [hb]
 exact h5
theorem KI.nu {w0 w:World} {v:Value} {l:List Nat} (h:NuS w0 v l) (hb:Below w0.heap.size w0 w):KI w0.heap.size w v l:=by
 obtain ⟨o,c,h1,h2⟩:=h
 refine ⟨o,c,h1,fun i hi=>?_⟩
 obtain ⟨g,h3,h4⟩:=h2 i hi
 have hlt:=block_lt_of_cell h4
 exact ⟨g,h3,(World.cell?_of_block (a:=⟨g,i,none⟩) (hb.block g hlt)).trans h4,Or.inl hlt⟩
theorem KI.own {B B':Nat} {w:World} {v:Value} {l:List Nat} (h:w.ownsRow B' 3 1 v l.length (l.map fun q=>.int .i64 (q:Nat))):KI B w v l:=by
 obtain ⟨o,c,h1,h2⟩:=NuS.of h
 refine ⟨o,c,h1,fun i hi=>?_⟩
 obtain ⟨g,h3,h4⟩:=h2 i hi
 refine ⟨g,h3,h4,Or.inr ?_⟩
 subst h1 h3
 obtain ⟨-,cur,hc⟩:=own_typ h (g:=g) rfl
 exact ⟨cur,(0,0),hc⟩
theorem op_in {P:Program} {o:Oper} {a:Act} {w:World} {K:Act->World->Prop} {R:Act->World->Prop} {Q:Exit->Act->World->Prop} {l n:Nat} (hd:∀c,o.op ≠ .defer c) (h:o.wp P a w K (fun e a w=>e=.normal/\R a w)):o.wpIn (Fence.wide.inRound l) n P a w K Q:=by
 unfold Oper.wp at h
 refine ⟨fun _ _=>trivial,?_⟩
 rw [show (Fence.wide.inRound l).round=some l from rfl,Oper.semAt_some l _ _ hd]
 generalize (execOp a.eval o).run P w=r at h
 cases r with
 | ok x w' =>
  cases x with
  | value v=>exact h
  | skip=>exact h
  | defer d=>exact h
  | enter f args =>
   refine ⟨fun hh=>by simp [Fence.wide] at hh,CallsIn.inRound l (callsIn_wide.2 (Calls.mono h ?_))⟩
   intro e w'' he
   cases e with
   | returned v=>exact he
   | panicked c=>exact absurd he.1 (by simp)
   | outgrown=>obtain ⟨_,_,he,_⟩:=he;exact absurd he (by simp)
  | row row args =>
   refine ⟨fun hh=>by simp [Fence.wide] at hh,fun c cs _=>?_⟩
   obtain ⟨v,w'',h1,h2⟩:=h c cs
   exact ⟨v,w'',h1,stepsIn_wide.2 h2⟩
  | _=>exact h.elim
 | halt x w' =>
  cases x with
  | panic v=>exact absurd h.1 (by simp)
  | _=>exact h.elim
theorem any_in {P:Program} {md:Region.Mode} {ops:Array Oper} {R:Act->World->Prop} {Q:Exit->Act->World->Prop} {l n:Nat} (hd:∀(i:Nat) (o:Oper),ops[i]?=some o->∀c,o.op ≠ .defer c) (hQ:∀a w,R a w->Q .normal a w):∀(fuel:Nat) (listed:Array Bool) (a:Act) (w:World),wpAny P md ops (fun e a w=>e=.normal/\R a w) fuel listed a w->wpAnyIn (Fence.wide.inRound l) n P md ops Q fuel listed a w
 | 0,_,_,_,h=>⟨h.1,hQ _ _ h.2.2⟩
 | fuel+1,listed,a,w,h=>by
  refine ⟨fun h0=>hQ _ _ (h.1 h0).2,fun i hi=>?_⟩
  have hop:=h.2 i hi
  unfold wpOp at hop
  unfold wpOpIn
  cases ho:ops[i]? with
  | none =>
   rw [ho] at hop
   exact any_in hd hQ fuel _ _ _ hop
  | some o =>
   rw [ho] at hop
   simp only [] at hop ⊢
   split
   ·rename_i hw
    rw [if_pos hw] at hop
    rcases hop with hop | ⟨-,a',w',he,-⟩
    ·exact op_in (R:=R) (hd i o ho) (Oper.wp_mono (fun a w h=>any_in hd hQ fuel _ a w h) hop)
    ·exact absurd he (by simp)
   ·rename_i hw
    rw [if_neg hw] at hop
    exact ⟨fun _ _=>trivial,any_in hd hQ fuel _ _ _ hop⟩
theorem back_any (o:Option Addr) (n c:Nat) (w:World):Calls Tryz.prog 64 #[.slice o n c] w fun e w'=>e=.returned (.func (.func 95) #[] #[.pointer (some ⟨w.heap.size,0,none⟩)])/\w'=w.alloc (.cells #[.slice o n c] 31):=by
 go_enter Tryz.func64,Tryz.ntmps64
 go_wp2
 go_ret
 exact ⟨rfl,rfl⟩
abbrev Rd2 (L:Nat):=Int × Fin L
def rdV {L:Nat} (x:Rd2 L):Array Value:=#[.int .i64 x.1,.int .i64 (x.2.val:Nat)]
set_option maxRecDepth 100000 in
set_option maxHeartbeats 3200000 in
theorem back1 (n l bm B L:Nat) (hn:1<=n) (v:Value) (ks:List Nat) (hL:ks.length<=1048576) (hks:∀q ∈ ks,q < L) (J Jx:List (Rd2 L)->World->Prop)
  (hY:∀pre x W,J pre W->pre.length < ks.length->YieldAt Fence.wide (n - 1) Tryz.prog l (rdV x) W fun e W'=>(e=.returned (.bool true)/\J (pre++[x]) W'/\VF B W W')\/(e=.returned (.bool false)/\Jx (pre++[x]) W')) (W:World) (hbm:W.heap[bm]?=some (.cells #[v] 31 (0,0))) (hki:KI B W v ks) (h0:J [] W) :
  CallsIn Fence.wide n Tryz.prog 95 #[.func (.yield l) #[] #[],.pointer (some ⟨bm,0,none⟩)] W fun e W'=>(∃v,e=.returned v)/\((∃xs,xs.map (fun x:Rd2 L=>x.2.val)=ks.reverse/\J xs W')\/(∃pre,True/\Jx pre W')):=by
 refine callsIn_of_wp Tryz.func95 rfl trivial ?_ rfl
 simp only [Tryz.ntmps95,List.size_toArray,List.length_cons,List.length_nil,Nat.reduceAdd,Nat.reduceSub,Array.replicate_succ,Array.replicate_zero,List.push_toArray,List.append_toArray,List.nil_append,List.cons_append]
 have HKI:Hid (KI B W v ks):=hki
 obtain ⟨o,c,rfl,-⟩:=hki
 obtain ⟨m,hm⟩:∃m,ks.length=m:=⟨_,rfl⟩
 rw [hm] at HKI hY hL hbm
 have HBM:Hid (W.heap[bm]?=some (.cells #[.slice o m c] 31 (0,0))):=hbm
 have m0:W.cell? ⟨bm,0,none⟩=some (.slice o m c):=by rw [Lib.cell_of_heap hbm];rfl
 have HM:Hid (ks.length=m):=hm
 clear hbm hm
 gi_wp2
 clear m0
 gi_loopw [3] (fun vi wr=>∃(i:Nat) (xs:List (Rd2 L)),vi=.int .i64 ((i:Int) - 1)/\i<=m/\xs.map (fun x:Rd2 L=>x.2.val)=(ks.drop i).reverse/\J xs wr/\VF B W wr) (fun vi _=>(intOf vi+1).toNat)
 case atStart=>exact ⟨m,[],by go_num,Nat.le_refl _,by rw [List.drop_of_length_le (by rw [HM.out];exact Nat.le_refl _)];rfl,h0,VF.refl _ _⟩
 case round =>
  obtain ⟨i,xs,rfl,hi,hxs,hJ,hvf⟩:=hrel
  have hbr:=(hvf.oth _ _ _ _ HBM.out (by decide) (by decide)).trans HBM.out
  have hkr:=HKI.out.vf hvf
  have HVF:Hid (VF B W wr):=hvf
  clear hvf
  by_cases hlt:0 < i
  ·obtain ⟨j,rfl⟩:∃j,i=j+1:=⟨i - 1,by omega⟩
   have hjl:j < ks.length:=by rw [HM.out];omega
   obtain ⟨o',c',hv,hat⟩:=hkr
   injection hv with h1 hm2 h2
   clear hm2
   subst h1 h2
   obtain ⟨g,ho,e0,-⟩:=hat j hjl
   subst ho
   obtain ⟨q,hq⟩:∃q,ks[j]=q:=⟨_,rfl⟩
   have hqL:q < L:=hks q (by rw [<-hq];exact List.getElem_mem hjl)
   have hxl:xs.length < m:=by
    have:=congrArg List.length hxs
    rw [List.length_map,List.length_reverse,List.length_drop,HM.out] at this
    omega
   rw [hq] at e0
   obtain ⟨fn,tmps,assign,body,hy,hR⟩:=hY xs ((j:Int),⟨q,hqL⟩) wr hJ hxl
   have HXS:Hid ((xs++[((j:Int),(⟨q,hqL⟩:Fin L))]).map (fun x:Rd2 L=>x.2.val)=(ks.drop j).reverse):=by
    show _=_
    rw [List.map_append,hxs,List.drop_eq_getElem_cons hjl,List.reverse_cons,hq]
    rfl
   have m1:wr.cell? ⟨bm,0,none⟩=some (.slice (some ⟨g,0,none⟩) m c):=by rw [Lib.cell_of_heap hbr];rfl
   have hsub:((j+1:Nat):Int) - 1=(j:Int):=by omega
   have hj0:(0:Int)<=(j:Int):=by omega
   have hjm:(j:Int) < (m:Int):=by omega
   unfold rdV at hy
   dsimp only at hy
   rw [hsub]
   clear hat hbr hq hxs hJ hxl
   gi_wp2
   refine hR.mono ?_
   rintro e W3 (⟨rfl,hJ3,hk3⟩ | ⟨rfl,hJx3⟩)
   ·have HJ3:Hid (J (xs++[((j:Int),(⟨q,hqL⟩:Fin L))]) W3/\VF B W W3):=⟨hJ3,HVF.out.two hk3⟩
    clear hJ3 hk3
    gi_wp2
    go_roundw
    case rel =>
     exact ⟨j,xs++[((j:Int),(⟨q,hqL⟩:Fin L))],by go_num,by omega,HXS.out,HJ3.out.1,HJ3.out.2⟩
    case measure=>simp [intOf]
   ·have HJ3:Hid (Jx (xs++[((j:Int),(⟨q,hqL⟩:Fin L))]) W3):=hJx3
    clear hJx3
    gi_wp2
    refine bodyPost_ret (results_none rfl _ _ _) rfl ?_
    exact ⟨⟨_,rfl⟩,.inr ⟨_,trivial,HJ3.out⟩⟩
  ·have hi0:i=0:=by omega
   subst hi0
   have HJ3:Hid (∃xs,xs.map (fun x:Rd2 L=>x.2.val)=ks.reverse/\J xs wr):=⟨xs,by rw [hxs,List.drop_zero],hJ⟩
   clear hxs hJ hkr hbr
   gi_wp2
   go_end0
   exact ⟨⟨_,rfl⟩,.inl HJ3.out⟩
theorem back_stops (n bm B L:Nat) (hn:1<=n) (v:Value) (ks:List Nat) (hL:ks.length<=1048576) (hks:∀q ∈ ks,q < L) (w:World) (hbm:w.heap[bm]?=some (.cells #[v] 31 (0,0))) (hki:KI B w v ks) (hB:B<=w.heap.size) :
  SeqStopsK Fence.wide n Tryz.prog 95 #[.pointer (some ⟨bm,0,none⟩)] (fun x:Rd2 L=>rdV x) (VF B) (fun xs=>xs.map (fun x:Rd2 L=>x.2.val)=ks.reverse) (fun _=>True) ks.length w:=fun l J Jx W hW _ _ hY h0=>by
 have hvf:VF B w W:=⟨hW.mono hB,fun b cs t fz hb _ _=>hW.block b (blk_lt hb)⟩
 exact back1 n l bm B L hn v ks hL hks J Jx hY W ((hvf.oth _ _ _ _ hbm (by decide) (by decide)).trans hbm) (hki.vf hvf) h0
structure Vt where
 t:Nat
 ky:List UInt8
 dbl:Bool
 ab:Nat
def vC (v:Vt):List Value:=[.int .i64 (v.t:Nat),.string ⟨v.ky.toArray⟩,.bool v.dbl,.int .i64 (v.ab:Nat)]
def vCs (l:List Vt):List Value:=l.flatMap vC
def vs1 (ns:List Tn) (pl q:Nat):List Vt :=
 if kdAt ns q=0 then [⟨q,kyAt ns q,false,pl⟩] else if kdAt ns q=2 then (ksAt ns q).reverse.map fun m=>⟨m,kyAt ns q,true,pl⟩ else []
def belT (ns:List Tn) (t pl:Nat):List Vt:=(srt ns t).reverse.flatMap (vs1 ns pl)
theorem vCs_len (l:List Vt):(vCs l).length=l.length * 4:=by
 induction l with
 | nil=>rfl
 | cons a r ih =>
  unfold vCs at ih ⊢
  rw [List.flatMap_cons,List.length_append,ih,List.length_cons]
  show 4+_=_
  omega
theorem vCs_app (a b:List Vt):vCs (a++b)=vCs a++vCs b:=List.flatMap_append
theorem vs1_len (ns:List Tn) (own:List Nat) (W:WF ns own) (pl q:Nat):(vs1 ns pl q).length<=ns.length+1:=by
 unfold vs1
 split
 ·simp
 ·split
  ·have:=W.len q
   simp
   omega
  ·simp
theorem infoV:(Tryz.prog.info? 83).map (fun i=>(i.zero,i.size,i.bytes))=some (some (.agg #[.int .i64 0,.string ⟨#[]⟩,.bool false,.int .i64 0]),4,40):=by kernel_rfl
theorem v_one (v:Vt):∀u ∈ vC v,u.oneCell'=true:=by
 intro u hu
 simp only [vC,List.mem_cons,List.not_mem_nil,or_false] at hu
 rcases hu with rfl | rfl | rfl | rfl <;> rfl
theorem v_push {W w1:World} {B tb:Nat} {v v':Value} {td:List Vt} {x:Vt} {tmp:Obj} (hv:Boxed W tb 80 v) (hrow:W.ownsRow B 83 4 v td.length (vCs td)) (hn:B<=W.heap.size) (hB:B<=tb)
  (hown:w1.ownsRow B 83 4 v' (td.length+1) (vCs td++vC x)) (hg:(W.alloc tmp).grownBy w1 v.ownBlock) :
  Boxed w1 tb 80 v/\Hid ((∃v',Boxed (w1.setCell ⟨tb,0,none⟩ v') tb 80 v'/\True)/\Boxed (w1.setCell ⟨tb,0,none⟩ v') tb 80 v'/\(w1.setCell ⟨tb,0,none⟩ v').ownsRow B 83 4 v' (td++[x]).length (vCs (td++[x]))/\KeepsOthers W (w1.setCell ⟨tb,0,none⟩ v')/\VF B W (w1.setCell ⟨tb,0,none⟩ v')/\VF B W w1):=by
 obtain ⟨h1,h2,h3,h4,h5⟩:=hv.appended (by decide) hrow hn hB hown hg
 have v1:VF B W (W.alloc tmp):=VF.gb (World.grownBy_alloc _ _ none) hn
 have v2:VF B (W.alloc tmp) w1:=by
  have hn2:B<=(W.alloc tmp).heap.size:=Nat.le_trans hn v1.bel.size
  cases hb:v.ownBlock with
  | none=>rw [hb] at hg;exact VF.gb hg hn2
  | some g =>
   rw [hb] at hg
   obtain ⟨hq,cc,hcc⟩:=own_typ (hrow.alloc tmp) hb
   exact VF.row hg hn2 hq hcc (Or.inl rfl)
 refine ⟨h1,⟨_,h2,trivial⟩,h2,?_,h4,?_,v1.two v2⟩
 ·rw [List.length_append,vCs_app]
  have e:vCs [x]=vC x:=by simp [vCs]
  rw [e]
  exact h3
 ·exact (v1.two v2).two (VF.row (gb_setc w1 tb 0 v') (Nat.le_trans hn (v1.two v2).bel.size) hB h1 (Or.inr rfl))
theorem flat_le {α β:Type} (f:α->List β) (m:Nat) (h:∀x,(f x).length<=m):∀l:List α,(l.flatMap f).length<=l.length * m
 | []=>by simp
 | a :: r=>by
  rw [List.flatMap_cons,List.length_append,List.length_cons,Nat.add_mul,Nat.one_mul]
  have:=flat_le f m h r
  have:=h a
  omega
end Go.Proofs.YtbgnflcebafjjaaGreatDoor
