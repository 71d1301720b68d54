import Derived.Test.YtpeghomkaphdcaaGreatDoorM19
import Derived.Deep.Cut
import Derived.Deep.RegionHeld3
import Derived.Deep.RegionWith
import Derived.Test.YtpeghomkaphdcaaGreatDoorM14
import Derived.Test.YtpeghomkaphdcaaGreatDoorM18
import Derived.Test.YtpeghomkaphdcaaGreatDoorM02
namespace Go.Proofs.YtpeghomkaphdcaaGreatDoor
open Go.RowKit
set_option linter.unusedVariables false
theorem ent_in {L:List En} {n:ByteArray} {k:Int} (h:EntI L n k) (hy:hasNm L n=true):∃j,∃hj:j < L.length,k=(j:Int)/\L[j].nm=n/\hasNm (L.take j) n=false:=by
 rcases h with ⟨_,h⟩ | h
 ·rw [hy] at h;cases h
 ·exact h
def SD (A A2:Nat) (v u:ByteArray) (w':World):Prop:=w'.cell? ⟨A,1,none⟩=some (.string v)/\w'.cell? ⟨A2,1,none⟩=some (.string u)
theorem SD.grow {A A2:Nat} {v u:ByteArray} {w w':World} (h:SD A A2 v u w) (hg:w.grownBy w' none):SD A A2 v u w':=⟨hg.cell h.1 (by simp),hg.cell h.2 (by simp)⟩
set_option maxRecDepth 100000 in
set_option maxHeartbeats 1600000 in
theorem refLine_both (o o':Option Addr) (c c':Nat) (L M:List En) (n:ByteArray) (w:World) (h:EnS w (.slice o L.length c) L) (h':EnS w (.slice o' M.length c') M) (hL:L.length<=1048576) (hM:M.length<=1048576) (h1:hasNm L n=true) (h2:hasNm M n=true) (hn:n.size<=1048576) (hV:∀x ∈ L,x.ve.size<=1048576) (hV':∀x ∈ M,x.ve.size<=1048576) :
  Calls Tryz.prog 31 #[.slice o L.length c,.slice o' M.length c',.string n] w fun e w'=>(∃T:ByteArray,e=.returned (.string T)/\T.data.toList=lineT (fnd L n) (fnd M n) n)/\w.grownBy w' none:=by
 have CEL:Hid (∀w',w.grownBy w' none->Calls Tryz.prog 29 #[.slice o L.length c,.string n] w' fun e w''=>∃c:Int,e=.returned (.int .i64 c)/\EntI L n c/\w'.grownBy w'' none):=fun w' hg=>entryOf_any _ L n w' (h.grow hg) hL
 have CEM:Hid (∀w',w.grownBy w' none->Calls Tryz.prog 29 #[.slice o' M.length c',.string n] w' fun e w''=>∃c:Int,e=.returned (.int .i64 c)/\EntI M n c/\w'.grownBy w'' none):=fun w' hg=>entryOf_any _ M n w' (h'.grow hg) hM
 have HL:Hid (EnS w (.slice o L.length c) L):=h
 have HM:Hid (EnS w (.slice o' M.length c') M):=h'
 have HV:Hid (∀x ∈ L,x.ve.size<=1048576):=hV
 have HV':Hid (∀x ∈ M,x.ve.size<=1048576):=hV'
 have H1:Hid (hasNm L n=true):=h1
 have H2:Hid (hasNm M n=true):=h2
 obtain ⟨nl,hnl⟩:∃k,L.length=k:=⟨_,rfl⟩
 obtain ⟨nm,hnm⟩:∃k,M.length=k:=⟨_,rfl⟩
 have HNL:Hid (L.length=nl):=hnl
 have HNM:Hid (M.length=nm):=hnm
 rw [hnl] at CEL HL ⊢
 rw [hnm] at CEM HM ⊢
 obtain ⟨T0,hT0⟩:∃T,lineT (fnd L n) (fnd M n) n=T:=⟨_,rfl⟩
 have HT0:Hid (lineT (fnd L n) (fnd M n) n=T0):=hT0
 rw [hT0]
 clear h h' hV hV' h1 h2 hnl hnm hT0
 have HG:Hid (w.grownBy w none):=gb_refl _ _
 go_enter Tryz.func31,Tryz.ntmps31
 go_wp2_with (first | (go_at_call 29;refine (CEL.out _ HG.out).mono ?_))
 rintro e w1 ⟨k1,rfl,hk1,hg1⟩
 replace HG:Hid (w.grownBy w1 none):=gb_trans HG.out hg1
 have HK1:Hid (EntI L n k1):=hk1
 clear hg1 hk1
 go_wp2_with (first | (go_at_call 29;refine (CEM.out _ HG.out).mono ?_))
 rintro e w2 ⟨k2,rfl,hk2,hg2⟩
 replace HG:Hid (w.grownBy w2 none):=gb_trans HG.out hg2
 have HK2:Hid (EntI M n k2):=hk2
 clear hg2 hk2
 obtain ⟨i,hi,e1,hin,hif⟩:=ent_in HK1.out H1.out
 obtain ⟨j,hj,e2,hjn,hjf⟩:=ent_in HK2.out H2.out
 subst e1 e2
 have hx1:fnd L n=some L[i]:=fnd_at L n i hi hin hif
 have hx2:fnd M n=some M[j]:=fnd_at M n j hj hjn hjf
 have hes1:EnS w2 (.slice o L.length c) L:=by rw [HNL.out];exact HL.out.grow HG.out
 have hes2:EnS w2 (.slice o' M.length c') M:=by rw [HNM.out];exact HM.out.grow HG.out
 obtain ⟨b,rfl,hcp,hat⟩:=ens_at hes1 hi
 obtain ⟨d,rfl,hcp',hat'⟩:=ens_at hes2 hj
 have hv:=HV.out _ (List.getElem_mem hi)
 have hv':=HV'.out _ (List.getElem_mem hj)
 obtain ⟨x,hx⟩:∃y,L[i]=y:=⟨_,rfl⟩
 obtain ⟨y,hy⟩:∃y,M[j]=y:=⟨_,rfl⟩
 obtain ⟨e0,e1,e2,sv,e3,hsv⟩:EnAt w2 (b.add (i * 4)) x:=by rw [<-hx];exact hat i hi
 obtain ⟨f0,f1,f2,su,f3,hsu⟩:EnAt w2 (d.add (j * 4)) y:=by rw [<-hy];exact hat' j hj
 obtain ⟨so,sc,rfl⟩:=txs_slice hsv
 obtain ⟨uo,uc,rfl⟩:=txs_slice hsu
 rw [hx] at hv hx1
 rw [hy] at hv' hx2
 have HXY:Hid (T0=lineT (some x) (some y) n):=by show _=_;rw [<-HT0.out,hx1,hx2]
 obtain ⟨xn,xv,xd,xN⟩:=x
 obtain ⟨yn,yv,yd,yN⟩:=y
 simp only [] at e0 e1 e2 e3 f0 f1 f2 f3 hv hv'
 obtain ⟨xk,hxk⟩:∃k,xN.length=k:=⟨_,rfl⟩
 obtain ⟨yk,hyk⟩:∃k,yN.length=k:=⟨_,rfl⟩
 rw [hxk] at e3
 rw [hyk] at f3
 have hiI:(i:Int) < (nl:Int):=by have:=HNL.out;omega
 have hic:i < c:=by omega
 have hjI:(j:Int) < (nm:Int):=by have:=HNM.out;omega
 have hjc:j < c':=by omega
 have gA:=gb_alloc (gb_refl w2 none) (.cells #[.string xn,.string xv,.string xd,.slice so xk sc] 42)
 have t0:=gA.cell f0 (by simp)
 have t1:=gA.cell f1 (by simp)
 have t2:=gA.cell f2 (by simp)
 have t3:=gA.cell f3 (by simp)
 have hbx:=heap_alloc_new w2 (.cells #[.string xn,.string xv,.string xd,.slice so xk sc] 42)
 obtain ⟨W3,hW3⟩:∃W,w2.alloc (.cells #[.string xn,.string xv,.string xd,.slice so xk sc] 42)=W:=⟨_,rfl⟩
 rw [hW3] at t0 t1 t2 t3 hbx gA
 have hby:=heap_alloc_new W3 (.cells #[.string yn,.string yv,.string yd,.slice uo yk uc] 42)
 have gB:=gb_alloc (gb_refl W3 none) (.cells #[.string yn,.string yv,.string yd,.slice uo yk uc] 42)
 have hlt:w2.heap.size < W3.heap.size:=(Array.getElem?_eq_some_iff.1 hbx).1
 obtain ⟨W4,hW4⟩:∃W,W3.alloc (.cells #[.string yn,.string yv,.string yd,.slice uo yk uc] 42)=W:=⟨_,rfl⟩
 rw [hW4] at hby gB
 obtain ⟨A,hA⟩:∃A,w2.heap.size=A:=⟨_,rfl⟩
 obtain ⟨A2,hA2⟩:∃A,W3.heap.size=A:=⟨_,rfl⟩
 rw [hA] at hbx hlt
 rw [hA2] at hby
 obtain ⟨-,a1,a2,-⟩:=en_block ((gB.block A hlt (by simp)).trans hbx)
 obtain ⟨-,b1,b2,-⟩:=en_block hby
 have HG4:Hid (w.grownBy W4 none):=gb_trans HG.out (gb_trans gA gB)
 clear hes1 hes2 hat hat' hx hy hx1 hx2 hin hif hjn hjf hsv hsu hbx hby gA gB hxk hyk hcp hcp' f0 f1 f2 f3
 have p1:=pre_100 xv
 have p2:=pre_100 yv
 have VS1:Hid (∀w,Calls Tryz.prog 50 #[.string xv] w fun e w'=>e=.returned (valV (verO xv))/\w.grownBy w' none):=fun w=>refVersion_any xv w (by omega)
 have VT1:Hid (∀w,Calls Tryz.prog 50 #[.string yv] w fun e w'=>e=.returned (valV (verO yv))/\w.grownBy w' none):=fun w=>refVersion_any yv w (by omega)
 have CC:Hid (∀w,Calls Tryz.prog 49 #[valV (verO xv),valV (verO yv)] w fun e w'=>e=.returned (.int .i64 (wayV xv yv))/\w.grownBy w' none):=fun w=>by
  refine (rcompare_any _ _ _ _ _ _ _ _ _ _ w (by show (verO xv).pre.toArray.size<=_;simp;omega) (by show (verO yv).pre.toArray.size<=_;simp;omega)).mono ?_
  rintro e w' ⟨rfl,h⟩
  refine ⟨?_,⟨h.os,h.tape,h.output,h.size,fun k hk _=>h.block k hk⟩⟩
  simp [wayV,cutV]
 obtain ⟨Vs,hVs⟩:∃v,valV (verO xv)=v:=⟨_,rfl⟩
 obtain ⟨Vt,hVt⟩:∃v,valV (verO yv)=v:=⟨_,rfl⟩
 obtain ⟨R,hR⟩:∃R,wayV xv yv=R:=⟨_,rfl⟩
 have HVR:Hid (wayV xv yv=R):=hR
 rw [hR] at CC
 rw [hVs] at VS1 CC
 rw [hVt] at VT1 CC
 clear p1 p2 hVs hVt hR
 go_upto_region 9 with fail
 by_cases hq:xv=yv/\xd=yd
 ·have HT:Hid (T0=[]):=by show T0=_;rw [HXY.out];exact line_yes _ _ _ hq
  have q1:=txt_eq hq.1
  have q2:=txt_eq hq.2
  clear hq
  go_wp2
  refine bodyPost_ret (results_tmp (t:=6) rfl _ _ _) rfl ⟨⟨_,rfl,HT.out.symm⟩,HG4.out⟩
 ·have HLT:Hid (T0=(verbT xv yv).data.toList++([32]++(n.data.toList++([32]++(xv.data.toList++([32]++(yv.data.toList++[10]))))))):=by show T0=_;rw [HXY.out];exact line_no _ _ _ hq
  have ht:(xv.toList == yv.toList)=false\/(xv.toList == yv.toList)=true/\(xd.toList == yd.toList)=false:=by
   by_cases h1:xv=yv
   ·exact Or.inr ⟨txt_eq h1,txt_ne fun h2=>hq ⟨h1,h2⟩⟩
   ·exact Or.inl (txt_ne h1)
  clear hq
  rcases ht with ht | ⟨ht,ht2⟩
  ·skip
   go_upto_region 11 with fail
   clear a2 b2 ht
   go_region_held3 (fun w'=>w'.cell? ⟨A,1,none⟩=some (.string xv)/\w'.cell? ⟨A2,1,none⟩=some (.string yv)) ((first | exact SD.grow (by assumption) (by assumption) | go_keep)) (first | (go_at_call_of 50 xv;refine (VS1.out _).mono ?_;rintro e u1 ⟨rfl,hg1⟩) | (go_at_call_of 50 yv;refine (VT1.out _).mono ?_;rintro e u2 ⟨rfl,hg2⟩) | (go_at_call 49;refine (CC.out _).mono ?_;rintro e u3 ⟨rfl,hg3⟩))
   rename_i hHH
   obtain ⟨a1',b1'⟩:=hHH
   have HGF:Hid (w.grownBy u3 none):=gb_trans HG4.out (gb_trans (gb_undrew hg1) (gb_trans hg2 hg3))
   clear hg1 hg2 hg3 VS1 VT1 CC
   have hrg:=wayV_rng xv yv
   rw [HVR.out] at hrg
   rcases hrg with hr | hr | hr
   ·subst hr
    have HVB:Hid ((verbT xv yv).data.toList++[32]=[114,97,105,115,101,32]):=by
     show _=_
     unfold verbT
     rw [HVR.out,if_pos (by decide)];rfl
    have d1:∀wx,(Op.stringOp .add ⟨#[114,97,105,115,101,32]⟩ n).run Tryz.prog wx=.ok (.string (cat ⟨#[114,97,105,115,101,32]⟩ n)) wx:=fun wx=>add_cat _ _ wx (by show 6+_<=_;omega)
    have m1:=cat_list ⟨#[114,97,105,115,101,32]⟩ n
    have y1:(cat ⟨#[114,97,105,115,101,32]⟩ n).size=6+n.size:=cat_size _ _
    generalize cat ⟨#[114,97,105,115,101,32]⟩ n=S0 at d1 m1 y1
    have c1:∀wx,(Op.stringOp .add S0 ⟨#[32]⟩).run Tryz.prog wx=.ok (.string (cat S0 ⟨#[32]⟩)) wx:=fun wx=>add_cat _ _ wx (by show _+1<=_;omega)
    have l1:=cat_list S0 ⟨#[32]⟩
    have z1:(cat S0 ⟨#[32]⟩).size=S0.size+1:=cat_size _ _
    generalize cat S0 ⟨#[32]⟩=S1 at c1 l1 z1
    have c2:∀wx,(Op.stringOp .add S1 xv).run Tryz.prog wx=.ok (.string (cat S1 xv)) wx:=fun wx=>add_cat _ _ wx (by omega)
    have l2:=cat_list S1 xv
    have z2:(cat S1 xv).size=S1.size+xv.size:=cat_size _ _
    generalize cat S1 xv=S2 at c2 l2 z2
    have c3:∀wx,(Op.stringOp .add S2 ⟨#[32]⟩).run Tryz.prog wx=.ok (.string (cat S2 ⟨#[32]⟩)) wx:=fun wx=>add_cat _ _ wx (by show _+1<=_;omega)
    have l3:=cat_list S2 ⟨#[32]⟩
    have z3:(cat S2 ⟨#[32]⟩).size=S2.size+1:=cat_size _ _
    generalize cat S2 ⟨#[32]⟩=S3 at c3 l3 z3
    have c4:∀wx,(Op.stringOp .add S3 yv).run Tryz.prog wx=.ok (.string (cat S3 yv)) wx:=fun wx=>add_cat _ _ wx (by omega)
    have l4:=cat_list S3 yv
    have z4:(cat S3 yv).size=S3.size+yv.size:=cat_size _ _
    generalize cat S3 yv=S4 at c4 l4 z4
    have c5:∀wx,(Op.stringOp .add S4 ⟨#[10]⟩).run Tryz.prog wx=.ok (.string (cat S4 ⟨#[10]⟩)) wx:=fun wx=>add_cat _ _ wx (by show _+1<=_;omega)
    have l5:=cat_list S4 ⟨#[10]⟩
    have z5:(cat S4 ⟨#[10]⟩).size=S4.size+1:=cat_size _ _
    generalize cat S4 ⟨#[10]⟩=S5 at c5 l5 z5
    have HF:Hid (S5.data.toList=T0):=by
     show _=_
     rw [HLT.out,l5,l4,l3,l2,l1,m1]
     have:=HVB.out
     rw [show (verbT xv yv).data.toList++([32]++(n.data.toList++([32]++(xv.data.toList++([32]++(yv.data.toList++[10]))))))=((verbT xv yv).data.toList++[32])++(n.data.toList++([32]++(xv.data.toList++([32]++(yv.data.toList++[10]))))) by simp,this]
     simp
    clear l1 l2 l3 l4 l5 m1 y1 z1 z2 z3 z4 z5
    go_wp2
    refine bodyPost_ret (results_tmp (t:=6) rfl _ _ _) rfl ⟨⟨_,rfl,HF.out⟩,HGF.out⟩
   ·subst hr
    have HVB:Hid ((verbT xv yv).data.toList++[32]=[99,104,97,110,103,101,32]):=by
     show _=_
     unfold verbT
     rw [HVR.out,if_neg (by decide),if_neg (by decide)];rfl
    have d1:∀wx,(Op.stringOp .add ⟨#[99,104,97,110,103,101,32]⟩ n).run Tryz.prog wx=.ok (.string (cat ⟨#[99,104,97,110,103,101,32]⟩ n)) wx:=fun wx=>add_cat _ _ wx (by show 7+_<=_;omega)
    have m1:=cat_list ⟨#[99,104,97,110,103,101,32]⟩ n
    have y1:(cat ⟨#[99,104,97,110,103,101,32]⟩ n).size=7+n.size:=cat_size _ _
    generalize cat ⟨#[99,104,97,110,103,101,32]⟩ n=S0 at d1 m1 y1
    have c1:∀wx,(Op.stringOp .add S0 ⟨#[32]⟩).run Tryz.prog wx=.ok (.string (cat S0 ⟨#[32]⟩)) wx:=fun wx=>add_cat _ _ wx (by show _+1<=_;omega)
    have l1:=cat_list S0 ⟨#[32]⟩
    have z1:(cat S0 ⟨#[32]⟩).size=S0.size+1:=cat_size _ _
    generalize cat S0 ⟨#[32]⟩=S1 at c1 l1 z1
    have c2:∀wx,(Op.stringOp .add S1 xv).run Tryz.prog wx=.ok (.string (cat S1 xv)) wx:=fun wx=>add_cat _ _ wx (by omega)
    have l2:=cat_list S1 xv
    have z2:(cat S1 xv).size=S1.size+xv.size:=cat_size _ _
    generalize cat S1 xv=S2 at c2 l2 z2
    have c3:∀wx,(Op.stringOp .add S2 ⟨#[32]⟩).run Tryz.prog wx=.ok (.string (cat S2 ⟨#[32]⟩)) wx:=fun wx=>add_cat _ _ wx (by show _+1<=_;omega)
    have l3:=cat_list S2 ⟨#[32]⟩
    have z3:(cat S2 ⟨#[32]⟩).size=S2.size+1:=cat_size _ _
    generalize cat S2 ⟨#[32]⟩=S3 at c3 l3 z3
    have c4:∀wx,(Op.stringOp .add S3 yv).run Tryz.prog wx=.ok (.string (cat S3 yv)) wx:=fun wx=>add_cat _ _ wx (by omega)
    have l4:=cat_list S3 yv
    have z4:(cat S3 yv).size=S3.size+yv.size:=cat_size _ _
    generalize cat S3 yv=S4 at c4 l4 z4
    have c5:∀wx,(Op.stringOp .add S4 ⟨#[10]⟩).run Tryz.prog wx=.ok (.string (cat S4 ⟨#[10]⟩)) wx:=fun wx=>add_cat _ _ wx (by show _+1<=_;omega)
    have l5:=cat_list S4 ⟨#[10]⟩
    have z5:(cat S4 ⟨#[10]⟩).size=S4.size+1:=cat_size _ _
    generalize cat S4 ⟨#[10]⟩=S5 at c5 l5 z5
    have HF:Hid (S5.data.toList=T0):=by
     show _=_
     rw [HLT.out,l5,l4,l3,l2,l1,m1]
     have:=HVB.out
     rw [show (verbT xv yv).data.toList++([32]++(n.data.toList++([32]++(xv.data.toList++([32]++(yv.data.toList++[10]))))))=((verbT xv yv).data.toList++[32])++(n.data.toList++([32]++(xv.data.toList++([32]++(yv.data.toList++[10]))))) by simp,this]
     simp
    clear l1 l2 l3 l4 l5 m1 y1 z1 z2 z3 z4 z5
    go_wp2
    refine bodyPost_ret (results_tmp (t:=6) rfl _ _ _) rfl ⟨⟨_,rfl,HF.out⟩,HGF.out⟩
   ·subst hr
    have HVB:Hid ((verbT xv yv).data.toList++[32]=[108,111,119,101,114,32]):=by
     show _=_
     unfold verbT
     rw [HVR.out,if_neg (by decide),if_pos (by decide)];rfl
    have d1:∀wx,(Op.stringOp .add ⟨#[108,111,119,101,114,32]⟩ n).run Tryz.prog wx=.ok (.string (cat ⟨#[108,111,119,101,114,32]⟩ n)) wx:=fun wx=>add_cat _ _ wx (by show 6+_<=_;omega)
    have m1:=cat_list ⟨#[108,111,119,101,114,32]⟩ n
    have y1:(cat ⟨#[108,111,119,101,114,32]⟩ n).size=6+n.size:=cat_size _ _
    generalize cat ⟨#[108,111,119,101,114,32]⟩ n=S0 at d1 m1 y1
    have c1:∀wx,(Op.stringOp .add S0 ⟨#[32]⟩).run Tryz.prog wx=.ok (.string (cat S0 ⟨#[32]⟩)) wx:=fun wx=>add_cat _ _ wx (by show _+1<=_;omega)
    have l1:=cat_list S0 ⟨#[32]⟩
    have z1:(cat S0 ⟨#[32]⟩).size=S0.size+1:=cat_size _ _
    generalize cat S0 ⟨#[32]⟩=S1 at c1 l1 z1
    have c2:∀wx,(Op.stringOp .add S1 xv).run Tryz.prog wx=.ok (.string (cat S1 xv)) wx:=fun wx=>add_cat _ _ wx (by omega)
    have l2:=cat_list S1 xv
    have z2:(cat S1 xv).size=S1.size+xv.size:=cat_size _ _
    generalize cat S1 xv=S2 at c2 l2 z2
    have c3:∀wx,(Op.stringOp .add S2 ⟨#[32]⟩).run Tryz.prog wx=.ok (.string (cat S2 ⟨#[32]⟩)) wx:=fun wx=>add_cat _ _ wx (by show _+1<=_;omega)
    have l3:=cat_list S2 ⟨#[32]⟩
    have z3:(cat S2 ⟨#[32]⟩).size=S2.size+1:=cat_size _ _
    generalize cat S2 ⟨#[32]⟩=S3 at c3 l3 z3
    have c4:∀wx,(Op.stringOp .add S3 yv).run Tryz.prog wx=.ok (.string (cat S3 yv)) wx:=fun wx=>add_cat _ _ wx (by omega)
    have l4:=cat_list S3 yv
    have z4:(cat S3 yv).size=S3.size+yv.size:=cat_size _ _
    generalize cat S3 yv=S4 at c4 l4 z4
    have c5:∀wx,(Op.stringOp .add S4 ⟨#[10]⟩).run Tryz.prog wx=.ok (.string (cat S4 ⟨#[10]⟩)) wx:=fun wx=>add_cat _ _ wx (by show _+1<=_;omega)
    have l5:=cat_list S4 ⟨#[10]⟩
    have z5:(cat S4 ⟨#[10]⟩).size=S4.size+1:=cat_size _ _
    generalize cat S4 ⟨#[10]⟩=S5 at c5 l5 z5
    have HF:Hid (S5.data.toList=T0):=by
     show _=_
     rw [HLT.out,l5,l4,l3,l2,l1,m1]
     have:=HVB.out
     rw [show (verbT xv yv).data.toList++([32]++(n.data.toList++([32]++(xv.data.toList++([32]++(yv.data.toList++[10]))))))=((verbT xv yv).data.toList++[32])++(n.data.toList++([32]++(xv.data.toList++([32]++(yv.data.toList++[10]))))) by simp,this]
     simp
    clear l1 l2 l3 l4 l5 m1 y1 z1 z2 z3 z4 z5
    go_wp2
    refine bodyPost_ret (results_tmp (t:=6) rfl _ _ _) rfl ⟨⟨_,rfl,HF.out⟩,HGF.out⟩
  ·skip
   go_upto_region 11 with fail
   clear a2 b2 ht
   go_region_held3 (fun w'=>w'.cell? ⟨A,1,none⟩=some (.string xv)/\w'.cell? ⟨A2,1,none⟩=some (.string yv)) ((first | exact SD.grow (by assumption) (by assumption) | go_keep)) (first | (go_at_call_of 50 xv;refine (VS1.out _).mono ?_;rintro e u1 ⟨rfl,hg1⟩) | (go_at_call_of 50 yv;refine (VT1.out _).mono ?_;rintro e u2 ⟨rfl,hg2⟩) | (go_at_call 49;refine (CC.out _).mono ?_;rintro e u3 ⟨rfl,hg3⟩))
   rename_i hHH
   obtain ⟨a1',b1'⟩:=hHH
   have HGF:Hid (w.grownBy u3 none):=gb_trans HG4.out (gb_trans (gb_undrew hg1) (gb_trans hg2 hg3))
   clear hg1 hg2 hg3 VS1 VT1 CC
   have hrg:=wayV_rng xv yv
   rw [HVR.out] at hrg
   rcases hrg with hr | hr | hr
   ·subst hr
    have HVB:Hid ((verbT xv yv).data.toList++[32]=[114,97,105,115,101,32]):=by
     show _=_
     unfold verbT
     rw [HVR.out,if_pos (by decide)];rfl
    have d1:∀wx,(Op.stringOp .add ⟨#[114,97,105,115,101,32]⟩ n).run Tryz.prog wx=.ok (.string (cat ⟨#[114,97,105,115,101,32]⟩ n)) wx:=fun wx=>add_cat _ _ wx (by show 6+_<=_;omega)
    have m1:=cat_list ⟨#[114,97,105,115,101,32]⟩ n
    have y1:(cat ⟨#[114,97,105,115,101,32]⟩ n).size=6+n.size:=cat_size _ _
    generalize cat ⟨#[114,97,105,115,101,32]⟩ n=S0 at d1 m1 y1
    have c1:∀wx,(Op.stringOp .add S0 ⟨#[32]⟩).run Tryz.prog wx=.ok (.string (cat S0 ⟨#[32]⟩)) wx:=fun wx=>add_cat _ _ wx (by show _+1<=_;omega)
    have l1:=cat_list S0 ⟨#[32]⟩
    have z1:(cat S0 ⟨#[32]⟩).size=S0.size+1:=cat_size _ _
    generalize cat S0 ⟨#[32]⟩=S1 at c1 l1 z1
    have c2:∀wx,(Op.stringOp .add S1 xv).run Tryz.prog wx=.ok (.string (cat S1 xv)) wx:=fun wx=>add_cat _ _ wx (by omega)
    have l2:=cat_list S1 xv
    have z2:(cat S1 xv).size=S1.size+xv.size:=cat_size _ _
    generalize cat S1 xv=S2 at c2 l2 z2
    have c3:∀wx,(Op.stringOp .add S2 ⟨#[32]⟩).run Tryz.prog wx=.ok (.string (cat S2 ⟨#[32]⟩)) wx:=fun wx=>add_cat _ _ wx (by show _+1<=_;omega)
    have l3:=cat_list S2 ⟨#[32]⟩
    have z3:(cat S2 ⟨#[32]⟩).size=S2.size+1:=cat_size _ _
    generalize cat S2 ⟨#[32]⟩=S3 at c3 l3 z3
    have c4:∀wx,(Op.stringOp .add S3 yv).run Tryz.prog wx=.ok (.string (cat S3 yv)) wx:=fun wx=>add_cat _ _ wx (by omega)
    have l4:=cat_list S3 yv
    have z4:(cat S3 yv).size=S3.size+yv.size:=cat_size _ _
    generalize cat S3 yv=S4 at c4 l4 z4
    have c5:∀wx,(Op.stringOp .add S4 ⟨#[10]⟩).run Tryz.prog wx=.ok (.string (cat S4 ⟨#[10]⟩)) wx:=fun wx=>add_cat _ _ wx (by show _+1<=_;omega)
    have l5:=cat_list S4 ⟨#[10]⟩
    have z5:(cat S4 ⟨#[10]⟩).size=S4.size+1:=cat_size _ _
    generalize cat S4 ⟨#[10]⟩=S5 at c5 l5 z5
    have HF:Hid (S5.data.toList=T0):=by
     show _=_
     rw [HLT.out,l5,l4,l3,l2,l1,m1]
     have:=HVB.out
     rw [show (verbT xv yv).data.toList++([32]++(n.data.toList++([32]++(xv.data.toList++([32]++(yv.data.toList++[10]))))))=((verbT xv yv).data.toList++[32])++(n.data.toList++([32]++(xv.data.toList++([32]++(yv.data.toList++[10]))))) by simp,this]
     simp
    clear l1 l2 l3 l4 l5 m1 y1 z1 z2 z3 z4 z5
    go_wp2
    refine bodyPost_ret (results_tmp (t:=6) rfl _ _ _) rfl ⟨⟨_,rfl,HF.out⟩,HGF.out⟩
   ·subst hr
    have HVB:Hid ((verbT xv yv).data.toList++[32]=[99,104,97,110,103,101,32]):=by
     show _=_
     unfold verbT
     rw [HVR.out,if_neg (by decide),if_neg (by decide)];rfl
    have d1:∀wx,(Op.stringOp .add ⟨#[99,104,97,110,103,101,32]⟩ n).run Tryz.prog wx=.ok (.string (cat ⟨#[99,104,97,110,103,101,32]⟩ n)) wx:=fun wx=>add_cat _ _ wx (by show 7+_<=_;omega)
    have m1:=cat_list ⟨#[99,104,97,110,103,101,32]⟩ n
    have y1:(cat ⟨#[99,104,97,110,103,101,32]⟩ n).size=7+n.size:=cat_size _ _
    generalize cat ⟨#[99,104,97,110,103,101,32]⟩ n=S0 at d1 m1 y1
    have c1:∀wx,(Op.stringOp .add S0 ⟨#[32]⟩).run Tryz.prog wx=.ok (.string (cat S0 ⟨#[32]⟩)) wx:=fun wx=>add_cat _ _ wx (by show _+1<=_;omega)
    have l1:=cat_list S0 ⟨#[32]⟩
    have z1:(cat S0 ⟨#[32]⟩).size=S0.size+1:=cat_size _ _
    generalize cat S0 ⟨#[32]⟩=S1 at c1 l1 z1
    have c2:∀wx,(Op.stringOp .add S1 xv).run Tryz.prog wx=.ok (.string (cat S1 xv)) wx:=fun wx=>add_cat _ _ wx (by omega)
    have l2:=cat_list S1 xv
    have z2:(cat S1 xv).size=S1.size+xv.size:=cat_size _ _
    generalize cat S1 xv=S2 at c2 l2 z2
    have c3:∀wx,(Op.stringOp .add S2 ⟨#[32]⟩).run Tryz.prog wx=.ok (.string (cat S2 ⟨#[32]⟩)) wx:=fun wx=>add_cat _ _ wx (by show _+1<=_;omega)
    have l3:=cat_list S2 ⟨#[32]⟩
    have z3:(cat S2 ⟨#[32]⟩).size=S2.size+1:=cat_size _ _
    generalize cat S2 ⟨#[32]⟩=S3 at c3 l3 z3
    have c4:∀wx,(Op.stringOp .add S3 yv).run Tryz.prog wx=.ok (.string (cat S3 yv)) wx:=fun wx=>add_cat _ _ wx (by omega)
    have l4:=cat_list S3 yv
    have z4:(cat S3 yv).size=S3.size+yv.size:=cat_size _ _
    generalize cat S3 yv=S4 at c4 l4 z4
    have c5:∀wx,(Op.stringOp .add S4 ⟨#[10]⟩).run Tryz.prog wx=.ok (.string (cat S4 ⟨#[10]⟩)) wx:=fun wx=>add_cat _ _ wx (by show _+1<=_;omega)
    have l5:=cat_list S4 ⟨#[10]⟩
    have z5:(cat S4 ⟨#[10]⟩).size=S4.size+1:=cat_size _ _
    generalize cat S4 ⟨#[10]⟩=S5 at c5 l5 z5
    have HF:Hid (S5.data.toList=T0):=by
     show _=_
     rw [HLT.out,l5,l4,l3,l2,l1,m1]
     have:=HVB.out
     rw [show (verbT xv yv).data.toList++([32]++(n.data.toList++([32]++(xv.data.toList++([32]++(yv.data.toList++[10]))))))=((verbT xv yv).data.toList++[32])++(n.data.toList++([32]++(xv.data.toList++([32]++(yv.data.toList++[10]))))) by simp,this]
     simp
    clear l1 l2 l3 l4 l5 m1 y1 z1 z2 z3 z4 z5
    go_wp2
    refine bodyPost_ret (results_tmp (t:=6) rfl _ _ _) rfl ⟨⟨_,rfl,HF.out⟩,HGF.out⟩
   ·subst hr
    have HVB:Hid ((verbT xv yv).data.toList++[32]=[108,111,119,101,114,32]):=by
     show _=_
     unfold verbT
     rw [HVR.out,if_neg (by decide),if_pos (by decide)];rfl
    have d1:∀wx,(Op.stringOp .add ⟨#[108,111,119,101,114,32]⟩ n).run Tryz.prog wx=.ok (.string (cat ⟨#[108,111,119,101,114,32]⟩ n)) wx:=fun wx=>add_cat _ _ wx (by show 6+_<=_;omega)
    have m1:=cat_list ⟨#[108,111,119,101,114,32]⟩ n
    have y1:(cat ⟨#[108,111,119,101,114,32]⟩ n).size=6+n.size:=cat_size _ _
    generalize cat ⟨#[108,111,119,101,114,32]⟩ n=S0 at d1 m1 y1
    have c1:∀wx,(Op.stringOp .add S0 ⟨#[32]⟩).run Tryz.prog wx=.ok (.string (cat S0 ⟨#[32]⟩)) wx:=fun wx=>add_cat _ _ wx (by show _+1<=_;omega)
    have l1:=cat_list S0 ⟨#[32]⟩
    have z1:(cat S0 ⟨#[32]⟩).size=S0.size+1:=cat_size _ _
    generalize cat S0 ⟨#[32]⟩=S1 at c1 l1 z1
    have c2:∀wx,(Op.stringOp .add S1 xv).run Tryz.prog wx=.ok (.string (cat S1 xv)) wx:=fun wx=>add_cat _ _ wx (by omega)
    have l2:=cat_list S1 xv
    have z2:(cat S1 xv).size=S1.size+xv.size:=cat_size _ _
    generalize cat S1 xv=S2 at c2 l2 z2
    have c3:∀wx,(Op.stringOp .add S2 ⟨#[32]⟩).run Tryz.prog wx=.ok (.string (cat S2 ⟨#[32]⟩)) wx:=fun wx=>add_cat _ _ wx (by show _+1<=_;omega)
    have l3:=cat_list S2 ⟨#[32]⟩
    have z3:(cat S2 ⟨#[32]⟩).size=S2.size+1:=cat_size _ _
    generalize cat S2 ⟨#[32]⟩=S3 at c3 l3 z3
    have c4:∀wx,(Op.stringOp .add S3 yv).run Tryz.prog wx=.ok (.string (cat S3 yv)) wx:=fun wx=>add_cat _ _ wx (by omega)
    have l4:=cat_list S3 yv
    have z4:(cat S3 yv).size=S3.size+yv.size:=cat_size _ _
    generalize cat S3 yv=S4 at c4 l4 z4
    have c5:∀wx,(Op.stringOp .add S4 ⟨#[10]⟩).run Tryz.prog wx=.ok (.string (cat S4 ⟨#[10]⟩)) wx:=fun wx=>add_cat _ _ wx (by show _+1<=_;omega)
    have l5:=cat_list S4 ⟨#[10]⟩
    have z5:(cat S4 ⟨#[10]⟩).size=S4.size+1:=cat_size _ _
    generalize cat S4 ⟨#[10]⟩=S5 at c5 l5 z5
    have HF:Hid (S5.data.toList=T0):=by
     show _=_
     rw [HLT.out,l5,l4,l3,l2,l1,m1]
     have:=HVB.out
     rw [show (verbT xv yv).data.toList++([32]++(n.data.toList++([32]++(xv.data.toList++([32]++(yv.data.toList++[10]))))))=((verbT xv yv).data.toList++[32])++(n.data.toList++([32]++(xv.data.toList++([32]++(yv.data.toList++[10]))))) by simp,this]
     simp
    clear l1 l2 l3 l4 l5 m1 y1 z1 z2 z3 z4 z5
    go_wp2
    refine bodyPost_ret (results_tmp (t:=6) rfl _ _ _) rfl ⟨⟨_,rfl,HF.out⟩,HGF.out⟩
end Go.Proofs.YtpeghomkaphdcaaGreatDoor
namespace Go.Proofs.YtpeghomkaphdcaaGreatDoor
open Go.RowKit Go.Maps
set_option linter.unusedVariables false
theorem atKey_int {H:Type} {D:DataW H} {kl:Lit} {j c:Int} (h:∀z,D.atKey kl z=.lit (.int .i64 j)) (hat:D.atKey kl (.lit (.int .i64 0))=.lit (.int .i64 c)):c=j:=by
 rw [h] at hat
 injection hat with hat
 injection hat with _ hat
 exact hat.symm
set_option maxRecDepth 100000 in
set_option maxHeartbeats 6400000 in
theorem bFaultOf_at (a:Addr) (cap:Nat) (L:List En) (i B nn:Nat) (w:World) (hi:i < L.length) (hcap:L.length<=cap) (h:∀j (hj:j < L.length),EnAt w (a.add (j * 4)) L[j]) (hown:w.ownsMap Tryz.prog 9 (plainElem (H:=Unit) Tryz.prog 3) B nn (frD L L.length)) (hL:L.length<=1048576) (hV:∀x ∈ L,x.nm.size<=1048576/\x.ve.size<=1048576/\x.dg.size<=1048576) (hN:∀x ∈ L,x.nd.length<=1048576) (hS:∀x ∈ L,∀y ∈ x.nd,y.size<=1048576) :
  Calls Tryz.prog 18 #[.slice (some a) L.length cap,.int .i64 i,.map (some B)] w fun e w'=>e=.returned (.int .i64 (errE L i))/\w.grownBy w' none:=by
 rw [errE_at L i hi]
 have HOWN:Hid (∀w',w.grownBy w' none->w'.ownsMap Tryz.prog 9 (plainElem (H:=Unit) Tryz.prog 3) B nn (frD L L.length)):=fun w' hg=>hown.kept hg (by simp)
 obtain ⟨j,hjL,hjat,hjlt⟩:=fr_first L i hi
 have HHAS:Hid (∀n,Maps.has (frD L L.length) (keyT n)=hasNm L n):=fun n=>by rw [fr_has L n L.length (Nat.le_refl _),List.take_length]
 obtain ⟨x,hx⟩:∃x,L[i]=x:=⟨_,rfl⟩
 have hmem:x ∈ L:=by rw [<-hx];exact List.getElem_mem _
 obtain ⟨e0,e1,e2,sv,e3,hsv⟩:EnAt w (a.add (i * 4)) x:=by rw [<-hx];exact h i hi
 rw [hx] at hjat hjlt ⊢
 have HJ:Hid ((∀z,(frD L L.length).atKey (keyT x.nm) z=.lit (.int .i64 (j:Int)))/\(j < i ↔ hasNm (L.take i) x.nm=true)):=⟨hjat,hjlt⟩
 have H1:Hid (TxS w sv x.nd):=hsv
 obtain ⟨so,sc,rfl⟩:=txs_slice hsv
 have hnl:=hN x hmem
 have hV1:=hV x hmem
 have CI:Hid (∀w,TxS w (.slice so x.nd.length sc) x.nd->Calls Tryz.prog 32 #[.agg #[.string x.nm,.string x.ve,.string x.dg,.slice so x.nd.length sc]] w fun e w'=>e=.returned (.bool (goodE x))/\w.grownBy w' none):=fun w h=>isEntry_any x _ w h hnl ⟨by omega,by omega,by omega⟩ (fun y hy=>by have:=hS x hmem y hy;omega)
 have CT:Hid (∀w,TxS w (.slice so x.nd.length sc) x.nd->Calls Tryz.prog 33 #[.slice so x.nd.length sc] w fun e w'=>e=.returned (.bool (twS x.nd x.nd.length))/\w.grownBy w' none):=fun w h=>bTwice_any _ x.nd w h hnl
 have hkey:keyOf Tryz.prog 9 (.string x.nm)=some (keyT x.nm):=Go.WideMaps.keyOf_string_mk Tryz.underlying9 (by unfold maxLen;omega)
 have HKEY:Hid (∀y ∈ x.nd,keyOf Tryz.prog 9 (.string y)=some (keyT y)):=fun y hy=>Go.WideMaps.keyOf_string_mk Tryz.underlying9 (by have:=hS x hmem y hy;unfold maxLen;omega)
 have hil:i<=1048576:=by omega
 have hiL:(i:Int) < (L.length:Int):=by omega
 clear h hV hN hS hmem hx hsv hown hjat hjlt hV1
 obtain ⟨R,hR⟩:∃R,faultE L i x=R:=⟨_,rfl⟩
 rw [hR]
 by_cases hm:50<=i
 ·have HR:Hid (R=4):=hR.symm.trans (fe_many (Or.inl hm))
  clear hR
  go_enter Tryz.func18,Tryz.ntmps18
  go_wp2
  go_ret
  exact ⟨ret_int HR.out.symm,gb_alloc (gb_refl w none) _⟩
 by_cases hn:20 < x.nd.length
 ·have HR:Hid (R=4):=hR.symm.trans (fe_many (Or.inr hn))
  clear hR
  go_enter Tryz.func18,Tryz.ntmps18
  go_wp2
  go_ret
  exact ⟨ret_int HR.out.symm,gb_alloc (gb_refl w none) _⟩
 have hmany:¬ (50<=i\/20 < x.nd.length):=by omega
 have HT:Hid (goodE x=false->R=2):=fun h=>hR.symm.trans (fe_text hmany h)
 have HQ:Hid (goodE x=true->R=if hasNm (L.take i) x.nm=true\/twS x.nd x.nd.length=true then 5 else if x.nd.all (hasNm L)=true then 0 else 6):=fun h=>hR.symm.trans (fe_rest hmany h)
 obtain ⟨gd,hgd⟩:∃g,goodE x=g:=⟨_,rfl⟩
 rw [hgd] at HT HQ CI
 obtain ⟨tw,htw⟩:∃g,twS x.nd x.nd.length=g:=⟨_,rfl⟩
 rw [htw] at HQ CT
 obtain ⟨xn,xv,xd,N⟩:=x
 simp only [] at CI CT H1 HQ HJ HKEY hkey e0 e1 e2 e3 hn hnl
 clear hR hmany hgd htw
 obtain ⟨A,hA⟩:∃A,w.heap.size=A:=⟨_,rfl⟩
 go_enter Tryz.func18,Tryz.ntmps18
 go_wp2_with (first | (go_at_call 32;refine (CI.out _ (H1.out.grow (gb_alloc (gb_refl w none) _))).mono ?_))
 rintro e w1 ⟨rfl,hg1⟩
 obtain ⟨c0,c1,c2,c3⟩:=en_block ((hg1.block w.heap.size (by simp) (by simp)).trans (heap_alloc_new w _))
 have HG:Hid (w.grownBy w1 none):=gb_trans (gb_alloc (gb_refl w none) _) hg1
 try rw [hA]
 rw [hA] at c0 c1 c2 c3
 have HC:Hid (w1.cell? ⟨A,3,none⟩=some (.slice so N.length sc)):=c3
 clear hg1 e0 e1 e2 e3 hA c1 c2
 cases gd with
 | false =>
  go_wp2
  go_ret
  exact ⟨ret_int (HT.out (by trivial)).symm,HG.out⟩
 | true =>
 have HQ':Hid (R=if hasNm (L.take i) xn=true\/tw=true then 5 else if N.all (hasNm L)=true then 0 else 6):=HQ.out (by trivial)
 have ho1:=HOWN.out w1 HG.out
 by_cases hji:j < i
 ·have HR:Hid (R=5):=HQ'.out.trans (if_pos (Or.inl (HJ.out.2.1 hji)))
  have hjI:(j:Int) < (i:Int):=by omega
  go_wp2_with (first | (at_lookup;refine wpList_lookup_own_int _ rfl _ _ 44 rfl 9 3 .i64 keyS Tryz.underlying44 Tryz.underlying3 (zeroI _) B nn _ rfl ho1 _ _ rfl hkey ?_;intro c hat hwc;obtain rfl:=atKey_int HJ.out.1 hat;clear hat hwc) | go_in)
  go_ret
  exact ⟨ret_int HR.out.symm,HG.out⟩
 ·have hjI:¬ (j:Int) < (i:Int):=by omega
  have HNT:Hid (¬ hasNm (L.take i) xn=true):=fun h=>hji (HJ.out.2.2 h)
  go_wp2_with (first | (at_lookup;refine wpList_lookup_own_int _ rfl _ _ 44 rfl 9 3 .i64 keyS Tryz.underlying44 Tryz.underlying3 (zeroI _) B nn _ rfl ho1 _ _ rfl hkey ?_;intro c hat hwc;obtain rfl:=atKey_int HJ.out.1 hat;clear hat hwc) | (go_at_call 33;refine (CT.out _ (H1.out.grow HG.out)).mono ?_) | go_in)
  rintro e w2 ⟨rfl,hg2⟩
  have HG2:Hid (w.grownBy w2 none):=gb_trans HG.out hg2
  have f3:=hg2.cell HC.out (by simp)
  clear hg2 c0 c3 ho1
  cases tw with
  | true =>
   have HR:Hid (R=5):=HQ'.out.trans (if_pos (Or.inr rfl))
   go_wp2
   go_ret
   exact ⟨ret_int HR.out.symm,HG2.out⟩
  | false =>
   have HR:Hid (R=if N.all (hasNm L)=true then 0 else 6):=HQ'.out.trans (if_neg (fun h=>h.elim HNT.out (by simp)))
   go_wp2
   clear hjI hji f3
   go_loopw [41] (fun vk wr=>∃k:Nat,vk=.int .i64 k/\k<=N.length/\(N.take k).all (hasNm L)=true/\w.grownBy wr none) (fun vk _=>N.length - (intOf vk).toNat)
   case atStart=>exact ⟨0,rfl,Nat.zero_le _,rfl,HG2.out⟩
   case round =>
    obtain ⟨k,rfl,hk,hall,hg⟩:=hrel
    have HALL:Hid ((N.take k).all (hasNm L)=true):=hall
    have HGW:Hid (w.grownBy wr none):=hg
    by_cases hlt:k < N.length
    ·obtain ⟨b,rfl,hcv,hat⟩:=txs_at (H1.out.grow hg) hlt
     have g0:=hat k hlt
     obtain ⟨y,hy⟩:∃y,N[k]=y:=⟨_,rfl⟩
     rw [hy] at g0
     have hkey2:=HKEY.out y (by rw [<-hy];exact List.getElem_mem _)
     have HHY:Hid (Maps.has (frD L L.length) (keyT y)=hasNm L y):=HHAS.out y
     have HSN:Hid ((N.take (k+1)).all (hasNm L)=((N.take k).all (hasNm L) && hasNm L y)):=by
      show _=_
      rw [all_snoc L N k hlt,hy]
     have HNO:Hid (hasNm L y=false->N.all (hasNm L)=false):=fun h=>by
      rw [List.all_eq_false]
      exact ⟨y,by rw [<-hy];exact List.getElem_mem _,by rw [h];simp⟩
     have ho2:=HOWN.out wr hg
     obtain ⟨q,hq⟩:∃q,Maps.has (frD L L.length) (keyT y)=q:=⟨_,rfl⟩
     rw [hq] at HHY
     clear hall hg hat hy
     cases q with
     | false =>
      have HR6:Hid (R=6):=HR.out.trans (if_neg (by rw [HNO.out HHY.out.symm];simp))
      go_wp2_with (first | (at_lookup;refine wpList_lookup_own_ok_int _ rfl _ _ 44 rfl 9 3 .i64 keyS Tryz.underlying44 Tryz.underlying3 (zeroI _) B nn _ rfl ho2 _ _ rfl hkey2 ?_;intro c hat hwc;rw [hq]) | go_in)
      go_ret
      exact ⟨ret_int HR6.out.symm,HGW.out⟩
     | true =>
      have HS2:Hid ((N.take (k+1)).all (hasNm L)=true):=by
       show _=_
       rw [HSN.out,HALL.out,<-HHY.out];rfl
      go_wp2_with (first | (at_lookup;refine wpList_lookup_own_ok_int _ rfl _ _ 44 rfl 9 3 .i64 keyS Tryz.underlying44 Tryz.underlying3 (zeroI _) B nn _ rfl ho2 _ _ rfl hkey2 ?_;intro c hat hwc;rw [hq]) | go_in)
      exact ⟨⟨k+1,by go_num,by omega,HS2.out,HGW.out⟩,by simp [intOf];omega⟩
    ·have hke:k=N.length:=by omega
     have HR0:Hid (R=0):=HR.out.trans (if_pos (by rw [hke,List.take_length] at hall;exact hall))
     clear hall hg hke hk
     go_wp2
     go_ret
     exact ⟨ret_int HR0.out.symm,HGW.out⟩
end Go.Proofs.YtpeghomkaphdcaaGreatDoor
namespace Go.Proofs.YtpeghomkaphdcaaGreatDoor
open Go.RowKit Go.Maps
set_option linter.unusedVariables false
set_option maxRecDepth 100000 in
set_option maxHeartbeats 3200000 in
theorem bPrint_any (v:Value) (L:List En) (w:World) (h:EnS w v L) (hL:L.length<=1048576) (hV:∀x ∈ L,x.nm.size<=1048576/\x.ve.size<=1048576/\x.dg.size<=1048576) (hN:∀x ∈ L,x.nd.length<=1048576) (hS:∀x ∈ L,∀y ∈ x.nd,y.size<=1048576) :
  Calls Tryz.prog 8 #[v] w fun e w'=>e=.returned (.tuple #[.string (lockR L),.int .i64 (lockFrom L L.length).1,.int .i64 ((lockFrom L L.length).2:Int)])/\w.grownBy w' none:=by
 have H1:Hid (EnS w v L):=h
 have CF:Hid (∀(a:Addr) (cap i B:Nat) (w:World),i < L.length->L.length<=cap->(∀j (hj:j < L.length),EnAt w (a.add (j * 4)) L[j])->w.ownsMap Tryz.prog 9 (plainElem (H:=Unit) Tryz.prog 3) B L.length (frD L L.length)->Calls Tryz.prog 18 #[.slice (some a) L.length cap,.int .i64 i,.map (some B)] w fun e w'=>e=.returned (.int .i64 (errE L i))/\w.grownBy w' none):=fun a cap i B w h1 h2 h3 h4=>bFaultOf_at a cap L i B L.length w h1 h2 h3 h4 hL hV hN hS
 have CFI:Hid (Calls Tryz.prog 17 #[v] w fun e w'=>∃B,e=.returned (.map (some B))/\(L=[]\/w'.ownsMap Tryz.prog 9 (plainElem (H:=Unit) Tryz.prog 3) B L.length (frD L L.length))/\w.grownBy w' none):=by
  rcases h with ⟨rfl,hl⟩ | ⟨a,cap,rfl,h2,h3⟩
  ·exact (firstsOf_nil w).mono fun e w' ⟨B,h1,h2⟩=>⟨B,h1,Or.inl hl,h2⟩
  ·exact (firstsOf_at a cap L w hL h2 (fun x hx=>by have:=(hV x hx).1;unfold maxLen;omega) h3).mono fun e w' ⟨B,h1,h2,h3⟩=>⟨B,h1,Or.inr h2,h3⟩
 have CT:Hid (∀w',w.grownBy w' none->(lockFrom L L.length).1=0->Calls Tryz.prog 19 #[v] w' fun e w''=>e=.returned (.string (lockT L))/\w'.grownBy w'' none):=fun w' hg h0=>by
  obtain ⟨s1,s2,s3⟩:=lock_small L h0
  exact textOf_any v L w' (h.grow hg) s1 (fun x hx=>⟨(hV x hx).1,(hV x hx).2.1,(hV x hx).2.2,s2 x hx,hS x hx⟩) s3
 obtain ⟨o,c,rfl⟩:=ens_slice h
 have HH:Hid (∀i,i < L.length->¬ errE L i=0->lockFrom L (L.length - i)=(errE L i,i)):=lock_hit L
 have HM:Hid (∀i,i < L.length->errE L i=0->lockFrom L (L.length - i)=lockFrom L (L.length - (i+1))):=lock_miss L
 have HLR:Hid ((lockFrom L L.length).1=0->lockR L=lockT L):=fun h0=>by
  show lockR L=_
  unfold lockR;rw [if_pos h0]
 have HLE:Hid (¬ (lockFrom L L.length).1=0->lockR L=⟨#[]⟩):=fun h0=>by
  show lockR L=_
  unfold lockR;rw [if_neg h0]
 obtain ⟨T,hT⟩:∃T,lockR L=T:=⟨_,rfl⟩
 obtain ⟨T',hT'⟩:∃T,lockT L=T:=⟨_,rfl⟩
 rw [hT,hT'] at HLR
 rw [hT] at HLE ⊢
 rw [hT'] at CT
 obtain ⟨R,hR⟩:∃R,lockFrom L L.length=R:=⟨_,rfl⟩
 have HS0:Hid (lockFrom L (L.length - 0)=R):=hR
 rw [hR] at CT HLR HLE ⊢
 clear h hV hN hS hR hT hT'
 go_enter Tryz.func8,Tryz.ntmps8
 go_wp2_with (first | (go_at_call 17;refine CFI.out.mono ?_))
 rintro e w1 ⟨B,rfl,hown,hg1⟩
 have HOW:Hid (L=[]\/w1.ownsMap Tryz.prog 9 (plainElem (H:=Unit) Tryz.prog 3) B L.length (frD L L.length)):=hown
 have HG1:Hid (w.grownBy w1 none):=hg1
 clear hown hg1
 go_wp2
 go_loopw [12] (fun vi wr=>∃i:Nat,vi=.int .i64 i/\i<=L.length/\lockFrom L (L.length - i)=R/\w1.grownBy wr none) (fun vi _=>L.length - (intOf vi).toNat)
 case atStart=>exact ⟨0,rfl,Nat.zero_le _,HS0.out,gb_refl _ _⟩
 case round =>
  obtain ⟨i,rfl,hi,hc,hg⟩:=hrel
  have HG:Hid (w.grownBy wr none):=gb_trans HG1.out hg
  have HGR:Hid (w1.grownBy wr none):=hg
  have HC:Hid (lockFrom L (L.length - i)=R):=hc
  by_cases hlt:i < L.length
  ·have CFF:Hid (Calls Tryz.prog 18 #[.slice o L.length c,.int .i64 i,.map (some B)] wr fun e w'=>e=.returned (.int .i64 (errE L i))/\wr.grownBy w' none):=by
    rcases H1.out.grow HG.out with ⟨h1,h2⟩ | ⟨a,cap,h1,h2,h3⟩
    ·rw [h2] at hlt;simp at hlt
    ·cases h1
     rcases HOW.out with h4 | h4
     ·rw [h4] at hlt;simp at hlt
     ·exact CF.out a c i B wr hlt h2 h3 (h4.kept hg (by simp))
   have HH':Hid (¬ errE L i=0->R=(errE L i,i)):=fun h=>HC.out.symm.trans (HH.out i hlt h)
   have HM':Hid (errE L i=0->lockFrom L (L.length - (i+1))=R):=fun h=>(HM.out i hlt h).symm.trans HC.out
   obtain ⟨F,hF⟩:∃F,errE L i=F:=⟨_,rfl⟩
   rw [hF] at CFF HH' HM'
   clear hF hc hg
   by_cases hz:F=0
   ·subst hz
    go_wp2_with (first | (go_at_call 18;refine CFF.out.mono ?_;rintro e w3 ⟨rfl,hg3⟩))
    exact ⟨⟨i+1,by go_num,by omega,HM'.out (by trivial),gb_trans HGR.out hg3⟩,by simp [intOf];omega⟩
   ·have hz1:(F != 0)=true:=by simp [hz]
    have HR:Hid (R=(F,i)):=HH'.out hz
    have HTE:Hid (T=⟨#[]⟩):=HLE.out (by rw [HR.out];exact hz)
    clear hz
    go_wp2_with (first | (go_at_call 18;refine CFF.out.mono ?_;rintro e w3 ⟨rfl,hg3⟩))
    refine bodyPost_ret (results_tmp3 (t:=2) (u:=3) (v:=4) rfl _ _ _) rfl ⟨?_,gb_trans HG.out hg3⟩
    rw [HR.out,HTE.out];rfl
  ·have hil:i=L.length:=by omega
   have HR:Hid (R=(0,0)):=by
    show R=_
    rw [<-hc,hil,Nat.sub_self];rfl
   have HTT:Hid (T=T'):=HLR.out (by rw [HR.out])
   have CTT:Hid (Calls Tryz.prog 19 #[.slice o L.length c] wr fun e w''=>e=.returned (.string T')/\wr.grownBy w'' none):=CT.out wr HG.out (by rw [HR.out])
   clear hc hg hil hi
   go_wp2_with (first | (go_at_call 19;refine CTT.out.mono ?_;rintro e w3 ⟨rfl,hg3⟩))
   refine bodyPost_ret (results_tmp3 (t:=2) (u:=3) (v:=4) rfl _ _ _) rfl ⟨?_,gb_trans HG.out hg3⟩
   rw [HR.out,HTT.out];rfl
open Go.RowKit
set_option linter.unusedVariables false
set_option maxHeartbeats 400000 in
theorem lnum_any (n:Int) (w:World):Calls Tryz.prog 11 #[.int .i64 n] w fun e w'=>e=.returned (.int .i64 n)/\w'=w:=by
 go_enter Tryz.func11,Tryz.ntmps11
 go_wp2
 go_ret
 exact ⟨rfl,rfl⟩
theorem lnum_gb (n:Int) (w:World):Calls Tryz.prog 11 #[.int .i64 n] w fun e w'=>e=.returned (.int .i64 n)/\w.grownBy w' none:=by
 refine (lnum_any n w).mono ?_
 rintro e w' ⟨rfl,rfl⟩
 exact ⟨rfl,gb_refl _ _⟩
end Go.Proofs.YtpeghomkaphdcaaGreatDoor
