import Derived.Test.YtbgnflcebafjjaaGreatDoorA14
namespace Go.Proofs.YtbgnflcebafjjaaGreatDoor
open Go.RowKit Go.Maps Go.WideMaps Go.Joins
set_option linter.unusedVariables false
def lnE (l:List UInt8) (d:Sd) (c:Bool × Nat):Rs Sd :=
 if c.1=false then .error (2,c.2)
 else if nx l c.2=-1 then .ok ⟨c.2,d.ns,d.own,d.now⟩
 else match must l c.2 10 with
  | .error e=>.error e
  | .ok j=>.ok ⟨j,d.ns,d.own,d.now⟩
def lnT (l:List UInt8):Rs Sd->Rs Sd
 | .error e=>.error e
 | .ok d=>lnE l d (cmt l (bl l d.i))
theorem rdLine_eq (l:List UInt8) (i:Nat) (ns:List Tn) (own:List Nat) (now:Nat):rdLine l ⟨i,ns,own,now⟩=lnT l (if nx l (bl l i)=91 then rdHead l ⟨bl l i,ns,own,now⟩ else if nx l (bl l i)=34\/isBa (nx l (bl l i))=true then rdPair l ⟨bl l i,ns,own,now⟩ else .ok ⟨bl l i,ns,own,now⟩):=by
 unfold rdLine
 simp only []
 cases (if nx l (bl l i)=91 then rdHead l ⟨bl l i,ns,own,now⟩ else if nx l (bl l i)=34\/isBa (nx l (bl l i))=true then rdPair l ⟨bl l i,ns,own,now⟩ else .ok ⟨bl l i,ns,own,now⟩) with
 | error e=>rfl
 | ok d=>rfl
set_option maxRecDepth 100000 in
set_option maxHeartbeats 6400000 in
theorem tLine_any (B R T:Nat) (s:ByteArray) (E:Int->TypeId × Value) (own:List Nat) (now i:Nat) (ns:List Tn) (w:World) (h:Rd w R s i T) (htr:Tr w B T ns own now) (G:Gl w B E) (hR:B<=R) (hs:s.size<=100000) (L:Li s.data.toList ⟨i,ns,own,now⟩) :
  Calls Tryz.prog 23 #[.pointer (some ⟨R,0,none⟩)] w (LnPost B R T s E (rdLine s.data.toList ⟨i,ns,own,now⟩) w):=by
 have hl:s.data.toList.length=s.size:=by simp
 have hB:B<=w.heap.size:=htr.base
 have hi:i<=s.size:=by have:=L.le;simp only [] at this;omega
 have CN:Hid (∀k w,Rd w R s k T->k<=s.size->Calls Tryz.prog 40 #[.pointer (some ⟨R,0,none⟩)] w fun e w'=>e=.returned (.int .i64 (nx s.data.toList k))/\w.grownBy w' none):=fun k w h1 h2=>tNext_any R s k T w h1 h2 (by omega)
 have CB:Hid (∀c w,Calls Tryz.prog 42 #[.int .i64 c] w fun e w'=>e=.returned (.bool (isBa c))/\w'=w):=tBare_any
 have CS:Hid (∀k w,Rd w R s k T->k<=s.size->Calls Tryz.prog 39 #[.pointer (some ⟨R,0,none⟩)] w fun e w'=>e=.returned (.tuple #[])/\Rd w' R s (bl s.data.toList k) T/\w.grownBy w' (some R)):=fun k w h1 h2=>tSkip_any R s k T w h1 h2 (by omega)
 have CC:Hid (∀k w',Rd w' R s k T->Below B w w'->k<=s.size->Calls Tryz.prog 44 #[.pointer (some ⟨R,0,none⟩)] w' (CmPost R s T (E 2).1 (E 2).2 (cmt s.data.toList k) w')):=fun k w' h1 hb hk=>tComment_any R s k T (E 2).1 (E 2).2 w' h1 hk (by omega) (G.bel hb).es.te (far_of G.lo hR).te
 have CT:Hid (∀k ns own now w',Rd w' R s k T->Tr w' B T ns own now->Below B w w'->k<=s.size->Calls Tryz.prog 45 #[.pointer (some ⟨R,0,none⟩),.int .i64 10] w' (TkPost B R T s E own now ns (must s.data.toList k 10) w')):=fun k ns own now w' h1 h2 hb hk=>tTakeT B R T s E own now k 10 (by decide) ns w' h1 h2 (G.bel hb) hR hk hs
 have HBL:Hid (∀k,k<=s.size->k<=bl s.data.toList k/\bl s.data.toList k<=s.size):=fun k hk=>by rw [<-hl];exact bl_le _ k (by omega)
 have HCM:Hid (∀k,k<=s.size->k<=(cmt s.data.toList k).2/\(cmt s.data.toList k).2<=s.size):=fun k hk=>by rw [<-hl];exact cmt_le _ k (by omega)
 obtain ⟨b1,b2⟩:=HBL.out i hi
 have C1:=CS.out i w h hi
 have HPE:=rdLine_eq s.data.toList i ns own now
 obtain ⟨j,hj⟩:∃j,bl s.data.toList i=j:=⟨_,rfl⟩
 rw [hj] at C1 b1 b2 HPE
 have L':Li s.data.toList ⟨j,ns,own,now⟩:=⟨L.jt,L.rt,by simp only [];omega,by have:=L.nn;simp only [] at this ⊢;omega,by have:=L.on;simp only [] at this ⊢;omega⟩
 have CHd:Hid (nx s.data.toList j=91->∀w',Rd w' R s j T->Tr w' B T ns own now->Below B w w'->Calls Tryz.prog 41 #[.pointer (some ⟨R,0,none⟩)] w' (LnPost B R T s E (rdHead s.data.toList ⟨j,ns,own,now⟩) w')):=fun hx w' h1 h2 hb=>tHeader_any B R T s E own now j ns w' h1 h2 (G.bel hb) hR (by have:=nx_lt (l:=s.data.toList) (i:=j) (by rw [hx];decide);omega) hs L'.jt L'.rt (by have:=L'.nn;have:=L'.on;simp only [] at *;omega)
 have CPr:Hid (∀w',Rd w' R s j T->Tr w' B T ns own now->Below B w w'->Calls Tryz.prog 43 #[.pointer (some ⟨R,0,none⟩)] w' (LnPost B R T s E (rdPair s.data.toList ⟨j,ns,own,now⟩) w')):=fun w' h1 h2 hb=>tPair_any B R T s E own now j ns w' h1 h2 (G.bel hb) hR b2 hs L'.jt (by have:=L'.nn;have:=L'.on;simp only [] at *;omega)
 have HHL:Hid (nx s.data.toList j=91->∀d,rdHead s.data.toList ⟨j,ns,own,now⟩=.ok d->d.i<=s.size):=fun hx d hd=>by
  have:=(head_ok s.data.toList _ d L' (nx_lt (l:=s.data.toList) (i:=j) (by rw [hx];decide)) hd).1.le
  omega
 have HPL:Hid (∀d,rdPair s.data.toList ⟨j,ns,own,now⟩=.ok d->d.i<=s.size):=fun d hd=>by
  have:=(pair_ok s.data.toList _ d L' hd).1.le
  omega
 obtain ⟨S,hS⟩:∃S,rdLine s.data.toList ⟨i,ns,own,now⟩=S:=⟨_,rfl⟩
 rw [hS] at HPE ⊢
 obtain ⟨HD,hHD⟩:∃HD,rdHead s.data.toList ⟨j,ns,own,now⟩=HD:=⟨_,rfl⟩
 obtain ⟨PR,hPR⟩:∃PR,rdPair s.data.toList ⟨j,ns,own,now⟩=PR:=⟨_,rfl⟩
 rw [hHD] at HPE CHd HHL
 rw [hPR] at HPE CPr HPL
 obtain ⟨x,hx⟩:∃x,nx s.data.toList j=x:=⟨_,rfl⟩
 rw [hx] at HPE CHd HHL
 have HP:Hid (S=_):=HPE
 have C1':Hid (Calls Tryz.prog 39 #[.pointer (some ⟨R,0,none⟩)] w fun e w'=>e=.returned (.tuple #[])/\Rd w' R s j T/\w.grownBy w' (some R)):=C1
 have C2:Hid (∀w',Rd w' R s j T->Calls Tryz.prog 40 #[.pointer (some ⟨R,0,none⟩)] w' fun e w''=>e=.returned (.int .i64 x)/\w'.grownBy w'' none):=fun w' hh=>by rw [<-hx];exact CN.out j w' hh b2
 have HTR:Hid (Tr w B T ns own now):=htr
 have H0:Hid (Rd w R s i T):=h
 clear HPE hS hHD hPR hx hj C1 h htr G L L'
 go_enter Tryz.func23,Tryz.ntmps23
 go_wp2_with (first | (go_at_call 39;refine C1'.out.mono ?_))
 rintro e w1 ⟨rfl,hr1,hg1⟩
 have HR1:Hid (Rd w1 R s j T):=hr1
 have HB1:Hid (Below B w w1):=gb_belo hg1 hR hB
 have HT1:Hid (Tr w1 B T ns own now):=HTR.out.keepR H0.out hg1
 clear hr1 hg1
 go_wp2_with (first | (go_at_call 40;refine (C2.out _ HR1.out).mono ?_))
 rintro e w2 ⟨rfl,hg2⟩
 have HR2:Hid (Rd w2 R s j T):=HR1.out.grow hg2
 have HB2:Hid (Below B w w2):=HB1.out.trans (gb_b hg2 HT1.out.base)
 have HT2:Hid (Tr w2 B T ns own now):=HT1.out.gb hg2
 clear hg2
 by_cases c91:x=91
 ·have e91:(x == 91)=true:=by simp [c91]
  have CHd':Hid (∀w',Rd w' R s j T->Tr w' B T ns own now->Below B w w'->Calls Tryz.prog 41 #[.pointer (some ⟨R,0,none⟩)] w' (LnPost B R T s E HD w')):=CHd.out c91
  have HHL':Hid (∀d,HD=.ok d->d.i<=s.size):=HHL.out c91
  have HPX:Hid (S=lnT s.data.toList HD):=by
   have:=HP.out
   rw [if_pos c91] at this
   exact this
  clear c91 HP CHd HHL CPr HPL CB
  go_wp2_with (first | (go_at_call 41;refine (CHd'.out _ HR2.out HT2.out HB2.out).mono ?_))
  rintro e w3 ⟨p1,p2,p3⟩
  have HBd:Hid (Below B w w3):=HB2.out.trans p3
  cases HD with
  | error ec =>
   obtain ⟨ec1,ec2⟩:=ec
   obtain ⟨F,rfl,hF⟩:=p2 ec1 ec2 rfl
   have HFV:Hid (FaultE w3 (.iface 65 (.pointer (some ⟨F,0,none⟩))) E ec1 ec2):=hF
   have HSE:Hid (S=.error (ec1,ec2)):=HPX.out
   clear p1 p2 p3 hF
   go_wp2
   refine bodyPost_ret (results_tmp (t:=2) rfl _ _ _) rfl ?_
   rw [HSE.out]
   exact ⟨fun d hh=>(by cases hh),fun c p hh=>(by cases hh;exact ⟨F,rfl,HFV.out⟩),HBd.out⟩
  | ok d =>
   obtain ⟨rfl,hr3,ht3⟩:=p1 d rfl
   have hdl:=HHL'.out d rfl
   have HRd:Hid (Rd w3 R s d.i T):=hr3
   have HTd:Hid (Tr w3 B T d.ns d.own d.now):=ht3
   have HPd:Hid (S=lnE s.data.toList d (cmt s.data.toList (bl s.data.toList d.i))):=HPX.out
   clear p1 p2 p3 hr3 ht3 HPX
   obtain ⟨g1,g2⟩:=HBL.out d.i hdl
   have C5:=CS.out d.i w3 HRd.out hdl
   have HPe:=HPd.out
   obtain ⟨j5,hj5⟩:∃j5,bl s.data.toList d.i=j5:=⟨_,rfl⟩
   rw [hj5] at C5 g1 g2 HPe
   have C5':Hid (Calls Tryz.prog 39 #[.pointer (some ⟨R,0,none⟩)] w3 fun e wz=>e=.returned (.tuple #[])/\Rd wz R s j5 T/\w3.grownBy wz (some R)):=C5
   obtain ⟨f1,f2⟩:=HCM.out j5 g2
   have CC5:=CC.out j5
   obtain ⟨cm,hcm⟩:∃cm,cmt s.data.toList j5=cm:=⟨_,rfl⟩
   rw [hcm] at CC5 HPe f1 f2
   obtain ⟨okb,j6⟩:=cm
   simp only [] at f1 f2
   have CC5':Hid (∀w',Rd w' R s j5 T->Below B w w'->Calls Tryz.prog 44 #[.pointer (some ⟨R,0,none⟩)] w' (CmPost R s T (E 2).1 (E 2).2 (okb,j6) w')):=fun w' a b=>CC5 w' a b g2
   have HPe':Hid (S=lnE s.data.toList d (okb,j6)):=HPe
   clear C5 CC5 HPe hj5 hcm HPd
   go_wp2_with (first | (go_at_call 39;refine C5'.out.mono ?_))
   rintro e w5 ⟨rfl,hr5,hg5⟩
   have HR5:Hid (Rd w5 R s j5 T):=hr5
   have HB5:Hid (Below B w w5):=HBd.out.trans (gb_belo hg5 hR HTd.out.base)
   have HT5:Hid (Tr w5 B T d.ns d.own d.now):=HTd.out.keepR HRd.out hg5
   clear hr5 hg5
   go_wp2_with (first | (go_at_call 44;refine (CC5'.out _ HR5.out HB5.out).mono ?_))
   rintro e w6 ⟨q1,q2,q3,q4⟩
   have HR6:Hid (Rd w6 R s j6 T):=q3
   have HB6:Hid (Below B w w6):=HB5.out.trans (gb_belo q4 hR HT5.out.base)
   have HT6:Hid (Tr w6 B T d.ns d.own d.now):=HT5.out.keepR HR5.out q4
   clear q3 q4
   cases okb with
   | false =>
    obtain ⟨v,rfl,F,rfl,hF⟩:=q2 rfl
    have HFV:Hid (FaultE w6 (.iface 65 (.pointer (some ⟨F,0,none⟩))) E 2 j6):=⟨F,rfl,hF⟩
    have HSE:Hid (S=.error (2,j6)):=by
     have:=HPe'.out
     unfold lnE at this
     rw [if_pos rfl] at this
     exact this
    clear q1 q2 hF
    go_wp2
    refine bodyPost_ret (results_tmp (t:=2) rfl _ _ _) rfl ?_
    rw [HSE.out]
    exact ⟨fun d hh=>(by cases hh),fun c p hh=>(by cases hh;exact ⟨F,rfl,HFV.out⟩),HB6.out⟩
   | true =>
    obtain rfl:=q1 rfl
    have C7:Hid (Calls Tryz.prog 40 #[.pointer (some ⟨R,0,none⟩)] w6 fun e w'=>e=.returned (.int .i64 (nx s.data.toList j6))/\w6.grownBy w' none):=CN.out j6 w6 HR6.out f2
    have HP7:=HPe'.out
    unfold lnE at HP7
    rw [if_neg (by simp)] at HP7
    simp only [] at HP7
    have CT7:=CT.out j6 d.ns d.own d.now
    obtain ⟨MU,hMU⟩:∃MU,must s.data.toList j6 10=MU:=⟨_,rfl⟩
    rw [hMU] at HP7 CT7
    obtain ⟨y,hy⟩:∃y,nx s.data.toList j6=y:=⟨_,rfl⟩
    rw [hy] at HP7 C7
    have HP7':Hid (S=_):=HP7
    have CT7':Hid (∀w',Rd w' R s j6 T->Tr w' B T d.ns d.own d.now->Below B w w'->j6<=s.size->Calls Tryz.prog 45 #[.pointer (some ⟨R,0,none⟩),.int .i64 10] w' (TkPost B R T s E d.own d.now d.ns MU w')):=CT7
    clear q1 q2 HP7 CT7 hMU hy HPe'
    go_wp2_with (first | (go_at_call 40;refine C7.out.mono ?_))
    rintro e w7 ⟨rfl,hg7⟩
    have HR7:Hid (Rd w7 R s j6 T):=HR6.out.grow hg7
    have HB7:Hid (Below B w w7):=HB6.out.trans (gb_b hg7 HT6.out.base)
    have HT7:Hid (Tr w7 B T d.ns d.own d.now):=HT6.out.gb hg7
    clear hg7
    by_cases cy:y=-1
    ·have ey:(y == -1)=true:=by simp [cy]
     have HSE:Hid (S=.ok ⟨j6,d.ns,d.own,d.now⟩):=by
      have:=HP7'.out
      rw [if_pos cy] at this
      exact this
     clear cy
     go_wp2
     refine bodyPost_ret (results_tmp (t:=2) rfl _ _ _) rfl ?_
     rw [HSE.out]
     exact ⟨fun d hh=>(by cases hh;exact ⟨rfl,HR7.out,HT7.out⟩),fun c p hh=>(by cases hh),HB7.out⟩
    ·have ey:(y == -1)=false:=by simp [cy]
     have HSE:Hid (S=match (generalizing:=false) MU with | .error e=>.error e | .ok j=>.ok ⟨j,d.ns,d.own,d.now⟩):=by
      have:=HP7'.out
      rw [if_neg cy] at this
      exact this
     clear cy
     go_wp2_with (first | (go_at_call 45;refine (CT7'.out _ HR7.out HT7.out HB7.out f2).mono ?_))
     rintro e w8 ⟨t1,t2,t3⟩
     cases MU with
     | error ec =>
      obtain ⟨ec1,ec2⟩:=ec
      obtain ⟨F,rfl,hF⟩:=t2 ec1 ec2 rfl
      have HFV:Hid (FaultE w8 (.iface 65 (.pointer (some ⟨F,0,none⟩))) E ec1 ec2):=hF
      have HB8:Hid (Below B w w8):=HB7.out.trans t3
      have HSF:Hid (S=.error (ec1,ec2)):=HSE.out
      clear t1 t2 t3 hF
      go_wp2
      refine bodyPost_ret (results_tmp (t:=2) rfl _ _ _) rfl ?_
      rw [HSF.out]
      exact ⟨fun d hh=>(by cases hh),fun c p hh=>(by cases hh;exact ⟨F,rfl,HFV.out⟩),HB8.out⟩
     | ok j8 =>
      obtain ⟨rfl,hr8,ht8⟩:=t1 j8 rfl
      have HR8:Hid (Rd w8 R s j8 T):=hr8
      have HT8:Hid (Tr w8 B T d.ns d.own d.now):=ht8
      have HB8:Hid (Below B w w8):=HB7.out.trans t3
      have HSF:Hid (S=.ok ⟨j8,d.ns,d.own,d.now⟩):=HSE.out
      clear t1 t2 t3 hr8 ht8
      go_wp2
      refine bodyPost_ret (results_tmp (t:=2) rfl _ _ _) rfl ?_
      rw [HSF.out]
      exact ⟨fun d hh=>(by cases hh;exact ⟨rfl,HR8.out,HT8.out⟩),fun c p hh=>(by cases hh),HB8.out⟩
 ·have e91:(x == 91)=false:=by simp [c91]
  have HP1:Hid (S=lnT s.data.toList (if x=34\/isBa x=true then PR else .ok ⟨j,ns,own,now⟩)):=by
   have:=HP.out
   rw [if_neg c91] at this
   exact this
  clear c91 HP CHd HHL
  by_cases c34:x=34
  ·have e34:(x == 34)=true:=by simp [c34]
   have HPX:Hid (S=lnT s.data.toList PR):=by
    have:=HP1.out
    rw [if_pos (Or.inl c34)] at this
    exact this
   clear c34 HP1 CB
   go_wp2_with (first | (go_at_call 43;refine (CPr.out _ HR2.out HT2.out HB2.out).mono ?_))
   rintro e w3 ⟨p1,p2,p3⟩
   have HBd:Hid (Below B w w3):=HB2.out.trans p3
   cases PR with
   | error ec =>
    obtain ⟨ec1,ec2⟩:=ec
    obtain ⟨F,rfl,hF⟩:=p2 ec1 ec2 rfl
    have HFV:Hid (FaultE w3 (.iface 65 (.pointer (some ⟨F,0,none⟩))) E ec1 ec2):=hF
    have HSE:Hid (S=.error (ec1,ec2)):=HPX.out
    clear p1 p2 p3 hF
    go_wp2
    refine bodyPost_ret (results_tmp (t:=2) rfl _ _ _) rfl ?_
    rw [HSE.out]
    exact ⟨fun d hh=>(by cases hh),fun c p hh=>(by cases hh;exact ⟨F,rfl,HFV.out⟩),HBd.out⟩
   | ok d =>
    obtain ⟨rfl,hr3,ht3⟩:=p1 d rfl
    have hdl:=HPL.out d rfl
    have HRd:Hid (Rd w3 R s d.i T):=hr3
    have HTd:Hid (Tr w3 B T d.ns d.own d.now):=ht3
    have HPd:Hid (S=lnE s.data.toList d (cmt s.data.toList (bl s.data.toList d.i))):=HPX.out
    clear p1 p2 p3 hr3 ht3 HPX
    obtain ⟨g1,g2⟩:=HBL.out d.i hdl
    have C5:=CS.out d.i w3 HRd.out hdl
    have HPe:=HPd.out
    obtain ⟨j5,hj5⟩:∃j5,bl s.data.toList d.i=j5:=⟨_,rfl⟩
    rw [hj5] at C5 g1 g2 HPe
    have C5':Hid (Calls Tryz.prog 39 #[.pointer (some ⟨R,0,none⟩)] w3 fun e wz=>e=.returned (.tuple #[])/\Rd wz R s j5 T/\w3.grownBy wz (some R)):=C5
    obtain ⟨f1,f2⟩:=HCM.out j5 g2
    have CC5:=CC.out j5
    obtain ⟨cm,hcm⟩:∃cm,cmt s.data.toList j5=cm:=⟨_,rfl⟩
    rw [hcm] at CC5 HPe f1 f2
    obtain ⟨okb,j6⟩:=cm
    simp only [] at f1 f2
    have CC5':Hid (∀w',Rd w' R s j5 T->Below B w w'->Calls Tryz.prog 44 #[.pointer (some ⟨R,0,none⟩)] w' (CmPost R s T (E 2).1 (E 2).2 (okb,j6) w')):=fun w' a b=>CC5 w' a b g2
    have HPe':Hid (S=lnE s.data.toList d (okb,j6)):=HPe
    clear C5 CC5 HPe hj5 hcm HPd
    go_wp2_with (first | (go_at_call 39;refine C5'.out.mono ?_))
    rintro e w5 ⟨rfl,hr5,hg5⟩
    have HR5:Hid (Rd w5 R s j5 T):=hr5
    have HB5:Hid (Below B w w5):=HBd.out.trans (gb_belo hg5 hR HTd.out.base)
    have HT5:Hid (Tr w5 B T d.ns d.own d.now):=HTd.out.keepR HRd.out hg5
    clear hr5 hg5
    go_wp2_with (first | (go_at_call 44;refine (CC5'.out _ HR5.out HB5.out).mono ?_))
    rintro e w6 ⟨q1,q2,q3,q4⟩
    have HR6:Hid (Rd w6 R s j6 T):=q3
    have HB6:Hid (Below B w w6):=HB5.out.trans (gb_belo q4 hR HT5.out.base)
    have HT6:Hid (Tr w6 B T d.ns d.own d.now):=HT5.out.keepR HR5.out q4
    clear q3 q4
    cases okb with
    | false =>
     obtain ⟨v,rfl,F,rfl,hF⟩:=q2 rfl
     have HFV:Hid (FaultE w6 (.iface 65 (.pointer (some ⟨F,0,none⟩))) E 2 j6):=⟨F,rfl,hF⟩
     have HSE:Hid (S=.error (2,j6)):=by
      have:=HPe'.out
      unfold lnE at this
      rw [if_pos rfl] at this
      exact this
     clear q1 q2 hF
     go_wp2
     refine bodyPost_ret (results_tmp (t:=2) rfl _ _ _) rfl ?_
     rw [HSE.out]
     exact ⟨fun d hh=>(by cases hh),fun c p hh=>(by cases hh;exact ⟨F,rfl,HFV.out⟩),HB6.out⟩
    | true =>
     obtain rfl:=q1 rfl
     have C7:Hid (Calls Tryz.prog 40 #[.pointer (some ⟨R,0,none⟩)] w6 fun e w'=>e=.returned (.int .i64 (nx s.data.toList j6))/\w6.grownBy w' none):=CN.out j6 w6 HR6.out f2
     have HP7:=HPe'.out
     unfold lnE at HP7
     rw [if_neg (by simp)] at HP7
     simp only [] at HP7
     have CT7:=CT.out j6 d.ns d.own d.now
     obtain ⟨MU,hMU⟩:∃MU,must s.data.toList j6 10=MU:=⟨_,rfl⟩
     rw [hMU] at HP7 CT7
     obtain ⟨y,hy⟩:∃y,nx s.data.toList j6=y:=⟨_,rfl⟩
     rw [hy] at HP7 C7
     have HP7':Hid (S=_):=HP7
     have CT7':Hid (∀w',Rd w' R s j6 T->Tr w' B T d.ns d.own d.now->Below B w w'->j6<=s.size->Calls Tryz.prog 45 #[.pointer (some ⟨R,0,none⟩),.int .i64 10] w' (TkPost B R T s E d.own d.now d.ns MU w')):=CT7
     clear q1 q2 HP7 CT7 hMU hy HPe'
     go_wp2_with (first | (go_at_call 40;refine C7.out.mono ?_))
     rintro e w7 ⟨rfl,hg7⟩
     have HR7:Hid (Rd w7 R s j6 T):=HR6.out.grow hg7
     have HB7:Hid (Below B w w7):=HB6.out.trans (gb_b hg7 HT6.out.base)
     have HT7:Hid (Tr w7 B T d.ns d.own d.now):=HT6.out.gb hg7
     clear hg7
     by_cases cy:y=-1
     ·have ey:(y == -1)=true:=by simp [cy]
      have HSE:Hid (S=.ok ⟨j6,d.ns,d.own,d.now⟩):=by
       have:=HP7'.out
       rw [if_pos cy] at this
       exact this
      clear cy
      go_wp2
      refine bodyPost_ret (results_tmp (t:=2) rfl _ _ _) rfl ?_
      rw [HSE.out]
      exact ⟨fun d hh=>(by cases hh;exact ⟨rfl,HR7.out,HT7.out⟩),fun c p hh=>(by cases hh),HB7.out⟩
     ·have ey:(y == -1)=false:=by simp [cy]
      have HSE:Hid (S=match (generalizing:=false) MU with | .error e=>.error e | .ok j=>.ok ⟨j,d.ns,d.own,d.now⟩):=by
       have:=HP7'.out
       rw [if_neg cy] at this
       exact this
      clear cy
      go_wp2_with (first | (go_at_call 45;refine (CT7'.out _ HR7.out HT7.out HB7.out f2).mono ?_))
      rintro e w8 ⟨t1,t2,t3⟩
      cases MU with
      | error ec =>
       obtain ⟨ec1,ec2⟩:=ec
       obtain ⟨F,rfl,hF⟩:=t2 ec1 ec2 rfl
       have HFV:Hid (FaultE w8 (.iface 65 (.pointer (some ⟨F,0,none⟩))) E ec1 ec2):=hF
       have HB8:Hid (Below B w w8):=HB7.out.trans t3
       have HSF:Hid (S=.error (ec1,ec2)):=HSE.out
       clear t1 t2 t3 hF
       go_wp2
       refine bodyPost_ret (results_tmp (t:=2) rfl _ _ _) rfl ?_
       rw [HSF.out]
       exact ⟨fun d hh=>(by cases hh),fun c p hh=>(by cases hh;exact ⟨F,rfl,HFV.out⟩),HB8.out⟩
      | ok j8 =>
       obtain ⟨rfl,hr8,ht8⟩:=t1 j8 rfl
       have HR8:Hid (Rd w8 R s j8 T):=hr8
       have HT8:Hid (Tr w8 B T d.ns d.own d.now):=ht8
       have HB8:Hid (Below B w w8):=HB7.out.trans t3
       have HSF:Hid (S=.ok ⟨j8,d.ns,d.own,d.now⟩):=HSE.out
       clear t1 t2 t3 hr8 ht8
       go_wp2
       refine bodyPost_ret (results_tmp (t:=2) rfl _ _ _) rfl ?_
       rw [HSF.out]
       exact ⟨fun d hh=>(by cases hh;exact ⟨rfl,HR8.out,HT8.out⟩),fun c p hh=>(by cases hh),HB8.out⟩
  ·have e34:(x == 34)=false:=by simp [c34]
   have CB1:Hid (∀w,Calls Tryz.prog 42 #[.int .i64 x] w fun e w'=>e=.returned (.bool (isBa x))/\w'=w):=fun w=>CB.out x w
   obtain ⟨bb,hbb⟩:∃bb,isBa x=bb:=⟨_,rfl⟩
   rw [hbb] at CB1 HP1
   clear hbb CB
   cases bb with
   | true =>
    have HPX:Hid (S=lnT s.data.toList PR):=by
     have:=HP1.out
     rw [if_pos (Or.inr rfl)] at this
     exact this
    clear c34 HP1
    go_wp2_with (first | (go_at_call 42;refine (CB1.out _).mono ?_))
    rintro e w' ⟨rfl,rfl⟩
    go_wp2_with (first | (go_at_call 43;refine (CPr.out _ HR2.out HT2.out HB2.out).mono ?_))
    rintro e w3 ⟨p1,p2,p3⟩
    have HBd:Hid (Below B w w3):=HB2.out.trans p3
    cases PR with
    | error ec =>
     obtain ⟨ec1,ec2⟩:=ec
     obtain ⟨F,rfl,hF⟩:=p2 ec1 ec2 rfl
     have HFV:Hid (FaultE w3 (.iface 65 (.pointer (some ⟨F,0,none⟩))) E ec1 ec2):=hF
     have HSE:Hid (S=.error (ec1,ec2)):=HPX.out
     clear p1 p2 p3 hF
     go_wp2
     refine bodyPost_ret (results_tmp (t:=2) rfl _ _ _) rfl ?_
     rw [HSE.out]
     exact ⟨fun d hh=>(by cases hh),fun c p hh=>(by cases hh;exact ⟨F,rfl,HFV.out⟩),HBd.out⟩
    | ok d =>
     obtain ⟨rfl,hr3,ht3⟩:=p1 d rfl
     have hdl:=HPL.out d rfl
     have HRd:Hid (Rd w3 R s d.i T):=hr3
     have HTd:Hid (Tr w3 B T d.ns d.own d.now):=ht3
     have HPd:Hid (S=lnE s.data.toList d (cmt s.data.toList (bl s.data.toList d.i))):=HPX.out
     clear p1 p2 p3 hr3 ht3 HPX
     obtain ⟨g1,g2⟩:=HBL.out d.i hdl
     have C5:=CS.out d.i w3 HRd.out hdl
     have HPe:=HPd.out
     obtain ⟨j5,hj5⟩:∃j5,bl s.data.toList d.i=j5:=⟨_,rfl⟩
     rw [hj5] at C5 g1 g2 HPe
     have C5':Hid (Calls Tryz.prog 39 #[.pointer (some ⟨R,0,none⟩)] w3 fun e wz=>e=.returned (.tuple #[])/\Rd wz R s j5 T/\w3.grownBy wz (some R)):=C5
     obtain ⟨f1,f2⟩:=HCM.out j5 g2
     have CC5:=CC.out j5
     obtain ⟨cm,hcm⟩:∃cm,cmt s.data.toList j5=cm:=⟨_,rfl⟩
     rw [hcm] at CC5 HPe f1 f2
     obtain ⟨okb,j6⟩:=cm
     simp only [] at f1 f2
     have CC5':Hid (∀w',Rd w' R s j5 T->Below B w w'->Calls Tryz.prog 44 #[.pointer (some ⟨R,0,none⟩)] w' (CmPost R s T (E 2).1 (E 2).2 (okb,j6) w')):=fun w' a b=>CC5 w' a b g2
     have HPe':Hid (S=lnE s.data.toList d (okb,j6)):=HPe
     clear C5 CC5 HPe hj5 hcm HPd
     go_wp2_with (first | (go_at_call 39;refine C5'.out.mono ?_))
     rintro e w5 ⟨rfl,hr5,hg5⟩
     have HR5:Hid (Rd w5 R s j5 T):=hr5
     have HB5:Hid (Below B w w5):=HBd.out.trans (gb_belo hg5 hR HTd.out.base)
     have HT5:Hid (Tr w5 B T d.ns d.own d.now):=HTd.out.keepR HRd.out hg5
     clear hr5 hg5
     go_wp2_with (first | (go_at_call 44;refine (CC5'.out _ HR5.out HB5.out).mono ?_))
     rintro e w6 ⟨q1,q2,q3,q4⟩
     have HR6:Hid (Rd w6 R s j6 T):=q3
     have HB6:Hid (Below B w w6):=HB5.out.trans (gb_belo q4 hR HT5.out.base)
     have HT6:Hid (Tr w6 B T d.ns d.own d.now):=HT5.out.keepR HR5.out q4
     clear q3 q4
     cases okb with
     | false =>
      obtain ⟨v,rfl,F,rfl,hF⟩:=q2 rfl
      have HFV:Hid (FaultE w6 (.iface 65 (.pointer (some ⟨F,0,none⟩))) E 2 j6):=⟨F,rfl,hF⟩
      have HSE:Hid (S=.error (2,j6)):=by
       have:=HPe'.out
       unfold lnE at this
       rw [if_pos rfl] at this
       exact this
      clear q1 q2 hF
      go_wp2
      refine bodyPost_ret (results_tmp (t:=2) rfl _ _ _) rfl ?_
      rw [HSE.out]
      exact ⟨fun d hh=>(by cases hh),fun c p hh=>(by cases hh;exact ⟨F,rfl,HFV.out⟩),HB6.out⟩
     | true =>
      obtain rfl:=q1 rfl
      have C7:Hid (Calls Tryz.prog 40 #[.pointer (some ⟨R,0,none⟩)] w6 fun e w'=>e=.returned (.int .i64 (nx s.data.toList j6))/\w6.grownBy w' none):=CN.out j6 w6 HR6.out f2
      have HP7:=HPe'.out
      unfold lnE at HP7
      rw [if_neg (by simp)] at HP7
      simp only [] at HP7
      have CT7:=CT.out j6 d.ns d.own d.now
      obtain ⟨MU,hMU⟩:∃MU,must s.data.toList j6 10=MU:=⟨_,rfl⟩
      rw [hMU] at HP7 CT7
      obtain ⟨y,hy⟩:∃y,nx s.data.toList j6=y:=⟨_,rfl⟩
      rw [hy] at HP7 C7
      have HP7':Hid (S=_):=HP7
      have CT7':Hid (∀w',Rd w' R s j6 T->Tr w' B T d.ns d.own d.now->Below B w w'->j6<=s.size->Calls Tryz.prog 45 #[.pointer (some ⟨R,0,none⟩),.int .i64 10] w' (TkPost B R T s E d.own d.now d.ns MU w')):=CT7
      clear q1 q2 HP7 CT7 hMU hy HPe'
      go_wp2_with (first | (go_at_call 40;refine C7.out.mono ?_))
      rintro e w7 ⟨rfl,hg7⟩
      have HR7:Hid (Rd w7 R s j6 T):=HR6.out.grow hg7
      have HB7:Hid (Below B w w7):=HB6.out.trans (gb_b hg7 HT6.out.base)
      have HT7:Hid (Tr w7 B T d.ns d.own d.now):=HT6.out.gb hg7
      clear hg7
      by_cases cy:y=-1
      ·have ey:(y == -1)=true:=by simp [cy]
       have HSE:Hid (S=.ok ⟨j6,d.ns,d.own,d.now⟩):=by
        have:=HP7'.out
        rw [if_pos cy] at this
        exact this
       clear cy
       go_wp2
       refine bodyPost_ret (results_tmp (t:=2) rfl _ _ _) rfl ?_
       rw [HSE.out]
       exact ⟨fun d hh=>(by cases hh;exact ⟨rfl,HR7.out,HT7.out⟩),fun c p hh=>(by cases hh),HB7.out⟩
      ·have ey:(y == -1)=false:=by simp [cy]
       have HSE:Hid (S=match (generalizing:=false) MU with | .error e=>.error e | .ok j=>.ok ⟨j,d.ns,d.own,d.now⟩):=by
        have:=HP7'.out
        rw [if_neg cy] at this
        exact this
       clear cy
       go_wp2_with (first | (go_at_call 45;refine (CT7'.out _ HR7.out HT7.out HB7.out f2).mono ?_))
       rintro e w8 ⟨t1,t2,t3⟩
       cases MU with
       | error ec =>
        obtain ⟨ec1,ec2⟩:=ec
        obtain ⟨F,rfl,hF⟩:=t2 ec1 ec2 rfl
        have HFV:Hid (FaultE w8 (.iface 65 (.pointer (some ⟨F,0,none⟩))) E ec1 ec2):=hF
        have HB8:Hid (Below B w w8):=HB7.out.trans t3
        have HSF:Hid (S=.error (ec1,ec2)):=HSE.out
        clear t1 t2 t3 hF
        go_wp2
        refine bodyPost_ret (results_tmp (t:=2) rfl _ _ _) rfl ?_
        rw [HSF.out]
        exact ⟨fun d hh=>(by cases hh),fun c p hh=>(by cases hh;exact ⟨F,rfl,HFV.out⟩),HB8.out⟩
       | ok j8 =>
        obtain ⟨rfl,hr8,ht8⟩:=t1 j8 rfl
        have HR8:Hid (Rd w8 R s j8 T):=hr8
        have HT8:Hid (Tr w8 B T d.ns d.own d.now):=ht8
        have HB8:Hid (Below B w w8):=HB7.out.trans t3
        have HSF:Hid (S=.ok ⟨j8,d.ns,d.own,d.now⟩):=HSE.out
        clear t1 t2 t3 hr8 ht8
        go_wp2
        refine bodyPost_ret (results_tmp (t:=2) rfl _ _ _) rfl ?_
        rw [HSF.out]
        exact ⟨fun d hh=>(by cases hh;exact ⟨rfl,HR8.out,HT8.out⟩),fun c p hh=>(by cases hh),HB8.out⟩
   | false =>
    have HPS:Hid (S=lnE s.data.toList ⟨j,ns,own,now⟩ (cmt s.data.toList (bl s.data.toList j))):=by
     have:=HP1.out
     rw [if_neg (by rintro (h | h);exact c34 h;cases h)] at this
     exact this
    clear c34 HP1 CPr HPL
    go_wp2_with (first | (go_at_call 42;refine (CB1.out _).mono ?_))
    rintro e w' ⟨rfl,rfl⟩
    obtain ⟨d,hd⟩:∃d:Sd,d=⟨j,ns,own,now⟩:=⟨_,rfl⟩
    have HRd:Hid (Rd w' R s d.i T):=by rw [hd];exact HR2.out
    have HTd:Hid (Tr w' B T d.ns d.own d.now):=by rw [hd];exact HT2.out
    have hdl:d.i<=s.size:=by rw [hd];exact b2
    have HPd:Hid (S=lnE s.data.toList d (cmt s.data.toList (bl s.data.toList d.i))):=by rw [hd];exact HPS.out
    have HBd:Hid (Below B w w'):=HB2.out
    clear hd HPS
    obtain ⟨g1,g2⟩:=HBL.out d.i hdl
    have C5:=CS.out d.i w' HRd.out hdl
    have HPe:=HPd.out
    obtain ⟨j5,hj5⟩:∃j5,bl s.data.toList d.i=j5:=⟨_,rfl⟩
    rw [hj5] at C5 g1 g2 HPe
    have C5':Hid (Calls Tryz.prog 39 #[.pointer (some ⟨R,0,none⟩)] w' fun e wz=>e=.returned (.tuple #[])/\Rd wz R s j5 T/\w'.grownBy wz (some R)):=C5
    obtain ⟨f1,f2⟩:=HCM.out j5 g2
    have CC5:=CC.out j5
    obtain ⟨cm,hcm⟩:∃cm,cmt s.data.toList j5=cm:=⟨_,rfl⟩
    rw [hcm] at CC5 HPe f1 f2
    obtain ⟨okb,j6⟩:=cm
    simp only [] at f1 f2
    have CC5':Hid (∀w',Rd w' R s j5 T->Below B w w'->Calls Tryz.prog 44 #[.pointer (some ⟨R,0,none⟩)] w' (CmPost R s T (E 2).1 (E 2).2 (okb,j6) w')):=fun w' a b=>CC5 w' a b g2
    have HPe':Hid (S=lnE s.data.toList d (okb,j6)):=HPe
    clear C5 CC5 HPe hj5 hcm HPd
    go_wp2_with (first | (go_at_call 39;refine C5'.out.mono ?_))
    rintro e w5 ⟨rfl,hr5,hg5⟩
    have HR5:Hid (Rd w5 R s j5 T):=hr5
    have HB5:Hid (Below B w w5):=HBd.out.trans (gb_belo hg5 hR HTd.out.base)
    have HT5:Hid (Tr w5 B T d.ns d.own d.now):=HTd.out.keepR HRd.out hg5
    clear hr5 hg5
    go_wp2_with (first | (go_at_call 44;refine (CC5'.out _ HR5.out HB5.out).mono ?_))
    rintro e w6 ⟨q1,q2,q3,q4⟩
    have HR6:Hid (Rd w6 R s j6 T):=q3
    have HB6:Hid (Below B w w6):=HB5.out.trans (gb_belo q4 hR HT5.out.base)
    have HT6:Hid (Tr w6 B T d.ns d.own d.now):=HT5.out.keepR HR5.out q4
    clear q3 q4
    cases okb with
    | false =>
     obtain ⟨v,rfl,F,rfl,hF⟩:=q2 rfl
     have HFV:Hid (FaultE w6 (.iface 65 (.pointer (some ⟨F,0,none⟩))) E 2 j6):=⟨F,rfl,hF⟩
     have HSE:Hid (S=.error (2,j6)):=by
      have:=HPe'.out
      unfold lnE at this
      rw [if_pos rfl] at this
      exact this
     clear q1 q2 hF
     go_wp2
     refine bodyPost_ret (results_tmp (t:=2) rfl _ _ _) rfl ?_
     rw [HSE.out]
     exact ⟨fun d hh=>(by cases hh),fun c p hh=>(by cases hh;exact ⟨F,rfl,HFV.out⟩),HB6.out⟩
    | true =>
     obtain rfl:=q1 rfl
     have C7:Hid (Calls Tryz.prog 40 #[.pointer (some ⟨R,0,none⟩)] w6 fun e w'=>e=.returned (.int .i64 (nx s.data.toList j6))/\w6.grownBy w' none):=CN.out j6 w6 HR6.out f2
     have HP7:=HPe'.out
     unfold lnE at HP7
     rw [if_neg (by simp)] at HP7
     simp only [] at HP7
     have CT7:=CT.out j6 d.ns d.own d.now
     obtain ⟨MU,hMU⟩:∃MU,must s.data.toList j6 10=MU:=⟨_,rfl⟩
     rw [hMU] at HP7 CT7
     obtain ⟨y,hy⟩:∃y,nx s.data.toList j6=y:=⟨_,rfl⟩
     rw [hy] at HP7 C7
     have HP7':Hid (S=_):=HP7
     have CT7':Hid (∀w',Rd w' R s j6 T->Tr w' B T d.ns d.own d.now->Below B w w'->j6<=s.size->Calls Tryz.prog 45 #[.pointer (some ⟨R,0,none⟩),.int .i64 10] w' (TkPost B R T s E d.own d.now d.ns MU w')):=CT7
     clear q1 q2 HP7 CT7 hMU hy HPe'
     go_wp2_with (first | (go_at_call 40;refine C7.out.mono ?_))
     rintro e w7 ⟨rfl,hg7⟩
     have HR7:Hid (Rd w7 R s j6 T):=HR6.out.grow hg7
     have HB7:Hid (Below B w w7):=HB6.out.trans (gb_b hg7 HT6.out.base)
     have HT7:Hid (Tr w7 B T d.ns d.own d.now):=HT6.out.gb hg7
     clear hg7
     by_cases cy:y=-1
     ·have ey:(y == -1)=true:=by simp [cy]
      have HSE:Hid (S=.ok ⟨j6,d.ns,d.own,d.now⟩):=by
       have:=HP7'.out
       rw [if_pos cy] at this
       exact this
      clear cy
      go_wp2
      refine bodyPost_ret (results_tmp (t:=2) rfl _ _ _) rfl ?_
      rw [HSE.out]
      exact ⟨fun d hh=>(by cases hh;exact ⟨rfl,HR7.out,HT7.out⟩),fun c p hh=>(by cases hh),HB7.out⟩
     ·have ey:(y == -1)=false:=by simp [cy]
      have HSE:Hid (S=match (generalizing:=false) MU with | .error e=>.error e | .ok j=>.ok ⟨j,d.ns,d.own,d.now⟩):=by
       have:=HP7'.out
       rw [if_neg cy] at this
       exact this
      clear cy
      go_wp2_with (first | (go_at_call 45;refine (CT7'.out _ HR7.out HT7.out HB7.out f2).mono ?_))
      rintro e w8 ⟨t1,t2,t3⟩
      cases MU with
      | error ec =>
       obtain ⟨ec1,ec2⟩:=ec
       obtain ⟨F,rfl,hF⟩:=t2 ec1 ec2 rfl
       have HFV:Hid (FaultE w8 (.iface 65 (.pointer (some ⟨F,0,none⟩))) E ec1 ec2):=hF
       have HB8:Hid (Below B w w8):=HB7.out.trans t3
       have HSF:Hid (S=.error (ec1,ec2)):=HSE.out
       clear t1 t2 t3 hF
       go_wp2
       refine bodyPost_ret (results_tmp (t:=2) rfl _ _ _) rfl ?_
       rw [HSF.out]
       exact ⟨fun d hh=>(by cases hh),fun c p hh=>(by cases hh;exact ⟨F,rfl,HFV.out⟩),HB8.out⟩
      | ok j8 =>
       obtain ⟨rfl,hr8,ht8⟩:=t1 j8 rfl
       have HR8:Hid (Rd w8 R s j8 T):=hr8
       have HT8:Hid (Tr w8 B T d.ns d.own d.now):=ht8
       have HB8:Hid (Below B w w8):=HB7.out.trans t3
       have HSF:Hid (S=.ok ⟨j8,d.ns,d.own,d.now⟩):=HSE.out
       clear t1 t2 t3 hr8 ht8
       go_wp2
       refine bodyPost_ret (results_tmp (t:=2) rfl _ _ _) rfl ?_
       rw [HSF.out]
       exact ⟨fun d hh=>(by cases hh;exact ⟨rfl,HR8.out,HT8.out⟩),fun c p hh=>(by cases hh),HB8.out⟩
end Go.Proofs.YtbgnflcebafjjaaGreatDoor
namespace Go.Proofs.YtbgnflcebafjjaaGreatDoor
open Go.RowKit Go.Joins
set_option linter.unusedVariables false
theorem li_to {l:List UInt8} {d:Sd} (L:Li l d) (j:Nat) (h1:d.i<=j) (h2:j<=l.length):Li l ⟨j,d.ns,d.own,d.now⟩ :=
 ⟨L.jt,L.rt,h2,by have:=L.nn;simp only [];omega,by have:=L.on;simp only [];omega⟩
theorem line_ok (l:List UInt8) (d d':Sd) (L:Li l d) (hi:d.i < l.length) (h:rdLine l d=.ok d'):Li l d'/\d.i < d'.i:=by
 obtain ⟨i,ns,own,now⟩:=d
 simp only [] at hi
 rw [rdLine_eq] at h
 have b1:=bl_le l i (by omega)
 have L':Li l ⟨bl l i,ns,own,now⟩:=li_to L (bl l i) b1.1 b1.2
 have mid:∀d1,(if nx l (bl l i)=91 then rdHead l ⟨bl l i,ns,own,now⟩ else if nx l (bl l i)=34\/isBa (nx l (bl l i))=true then rdPair l ⟨bl l i,ns,own,now⟩ else .ok ⟨bl l i,ns,own,now⟩)=.ok d1->Li l d1/\bl l i<=d1.i:=fun d1 hh=>by
  split at hh
  ·rename_i hx
   obtain ⟨a,b⟩:=head_ok l _ d1 L' (nx_lt (l:=l) (i:=bl l i) (by rw [hx];decide)) hh
   exact ⟨a,Nat.le_of_lt b⟩
  ·split at hh
   ·obtain ⟨a,b⟩:=pair_ok l _ d1 L' hh
    exact ⟨a,Nat.le_of_lt b⟩
   ·cases hh
    exact ⟨L',Nat.le_refl _⟩
 cases hm:(if nx l (bl l i)=91 then rdHead l ⟨bl l i,ns,own,now⟩ else if nx l (bl l i)=34\/isBa (nx l (bl l i))=true then rdPair l ⟨bl l i,ns,own,now⟩ else .ok ⟨bl l i,ns,own,now⟩) with
 | error e=>rw [hm] at h;cases h
 | ok d1 =>
  rw [hm] at h
  obtain ⟨L1,h1⟩:=mid d1 hm
  have h2:lnE l d1 (cmt l (bl l d1.i))=.ok d':=h
  have b2:=bl_le l d1.i L1.le
  have c2:=cmt_le l (bl l d1.i) b2.2
  unfold lnE at h2
  split at h2
  ·cases h2
  ·split at h2
   ·rename_i hx
    have:=nx_end' hx
    cases h2
    exact ⟨li_to L1 _ (by omega) c2.2,by simp only [];omega⟩
   ·cases hq:must l (cmt l (bl l d1.i)).2 10 with
    | error e=>rw [hq] at h2;cases h2
    | ok q =>
     rw [hq] at h2
     obtain ⟨m1,m2⟩:=must_ok l _ _ 10 (by decide) hq
     cases h2
     exact ⟨li_to L1 q (by omega) (by omega),by simp only [];omega⟩
theorem li_start (l:List UInt8):Li l ⟨0,[⟨0,[],[],0,[],0⟩],[],0⟩:=by
 have hk:∀p,ksAt [(⟨0,[],[],0,[],0⟩:Tn)] p=[]:=fun p=>by
  unfold ksAt
  cases p with
  | zero=>rfl
  | succ p=>rfl
 refine ⟨⟨⟨fun p p' q h=>?_,fun p q h=>?_,fun q h=>?_,fun p=>?_⟩,fun q hq=>?_,by simp,rfl⟩,rfl,Nat.zero_le _,by simp,by simp⟩
 ·rw [hk] at h;cases h
 ·rw [hk] at h;cases h
 ·cases h
 ·rw [hk];simp
 ·exfalso
  unfold kdAt at hq
  cases q with
  | zero=>exact absurd (show (0:Int)=2 from hq) (by decide)
  | succ q=>exact absurd (show (-1:Int)=2 from hq) (by decide)
end Go.Proofs.YtbgnflcebafjjaaGreatDoor
namespace Go.Proofs.YtbgnflcebafjjaaGreatDoor
open Go.RowKit Go.Maps Go.WideMaps Go.Joins
set_option linter.unusedVariables false
theorem hold_root:hold [(⟨0,[],[],0,[],0⟩:Tn)] []=fun _ _=>none:=by
 funext t k
 unfold hold
 have:kidO [(⟨0,[],[],0,[],0⟩:Tn)] t k=none:=by
  rw [kidO_eq]
  unfold ksAt
  cases t with
  | zero=>rfl
  | succ t=>rfl
 rw [this]
 split <;> rfl
theorem new_tr (w:World):Tr (((w.alloc (.cells #[.int .i64 0,.string ⟨#[]⟩,.string ⟨#[]⟩,.int .i64 0,.slice none 0 0,.int .i64 0] 33)).alloc (.map #[] 0)).alloc (.cells #[.slice (some ⟨w.heap.size,0,none⟩) 1 1,.map (some (w.heap.size+1)),.int .i64 0] 64)) w.heap.size (w.heap.size+2) [⟨0,[],[],0,[],0⟩] [] 0:=by
 obtain ⟨w1,hw1⟩:∃w1,w.alloc (.cells #[.int .i64 0,.string ⟨#[]⟩,.string ⟨#[]⟩,.int .i64 0,.slice none 0 0,.int .i64 0] 33)=w1:=⟨_,rfl⟩
 have n1:=heap_alloc_new w (.cells #[.int .i64 0,.string ⟨#[]⟩,.string ⟨#[]⟩,.int .i64 0,.slice none 0 0,.int .i64 0] 33)
 have s1:(w.alloc (.cells #[.int .i64 0,.string ⟨#[]⟩,.string ⟨#[]⟩,.int .i64 0,.slice none 0 0,.int .i64 0] 33)).heap.size=w.heap.size+1:=World.size_alloc _ _
 rw [hw1] at n1 s1 ⊢
 have m2:=HM.made w1
 have g2:w1.grownBy (w1.alloc (.map #[] 0)) none:=World.grownBy_alloc _ _ _
 have s2:(w1.alloc (.map #[] 0)).heap.size=w.heap.size+2:=by rw [World.size_alloc,s1]
 rw [s1] at m2
 obtain ⟨w2,hw2⟩:∃w2,w1.alloc (.map #[] 0)=w2:=⟨_,rfl⟩
 rw [hw2] at m2 g2 s2 ⊢
 have n3:=heap_alloc_new w2 (.cells #[.slice (some ⟨w.heap.size,0,none⟩) 1 1,.map (some (w.heap.size+1)),.int .i64 0] 64)
 have g3:w2.grownBy (w2.alloc (.cells #[.slice (some ⟨w.heap.size,0,none⟩) 1 1,.map (some (w.heap.size+1)),.int .i64 0] 64)) none:=World.grownBy_alloc _ _ _
 rw [s2] at n3
 have n1':=blk_gb (blk_gb n1 g2) g3
 obtain ⟨es,cc,hm⟩:=m2.map
 refine ⟨w.heap.size,1,w.heap.size+1,[.int .i64 0,.string ⟨#[]⟩,.string ⟨#[]⟩,.int .i64 0,.slice none 0 0,.int .i64 0],fun _=>.slice none 0 0,?_⟩
 refine ⟨n3,by omega,⟨rfl,Or.inr ⟨w.heap.size,1,_,rfl,Nat.le_refl _,n1',Nat.le_refl _,by unfold maxLen;omega,rfl,rfl⟩⟩,fun i hi=>?_,fun i hi=>?_,fun i j g hi hj h1 _=>?_,?_,by omega⟩
 ·have:i=0:=by simp at hi;omega
  subst this
  exact ⟨rfl,rfl,rfl,rfl,rfl,rfl⟩
 ·have:i=0:=by simp at hi;omega
  subst this
  exact ⟨rfl,Or.inl ⟨rfl,rfl⟩⟩
 ·cases h1
 ·rw [hold_root]
  exact (m2.mono (by simp)).block (g3.block _ (blk_lt hm) (by simp))
theorem makeH (w:World):(Instr.makeMap 62 none).run Tryz.prog w=.ok (.map (some w.heap.size)) (w.alloc (.map #[] 0)):=by kernel_rfl
set_option maxRecDepth 100000 in
theorem tNew_any (w:World):Calls Tryz.prog 22 #[] w fun e w'=>e=.returned (.pointer (some ⟨w.heap.size+2,0,none⟩))/\Tr w' w.heap.size (w.heap.size+2) [⟨0,[],[],0,[],0⟩] [] 0/\w.grownBy w' none:=by
 have HT:Hid (Tr (((w.alloc (.cells #[.int .i64 0,.string ⟨#[]⟩,.string ⟨#[]⟩,.int .i64 0,.slice none 0 0,.int .i64 0] 33)).alloc (.map #[] 0)).alloc (.cells #[.slice (some ⟨w.heap.size,0,none⟩) 1 1,.map (some (w.heap.size+1)),.int .i64 0] 64)) w.heap.size (w.heap.size+2) [⟨0,[],[],0,[],0⟩] [] 0):=new_tr w
 have hmk:=makeH (w.alloc (.cells #[.int .i64 0,.string ⟨#[]⟩,.string ⟨#[]⟩,.int .i64 0,.slice none 0 0,.int .i64 0] 33))
 rw [World.size_alloc] at hmk
 go_enter Tryz.func22,Tryz.ntmps22
 go_wp2
 go_ret
 exact ⟨rfl,HT.out,gb_trans (gb_trans (World.grownBy_alloc _ _ none) (World.grownBy_alloc _ _ none)) (World.grownBy_alloc _ _ none)⟩
def RdPost (s:ByteArray) (E:Int->TypeId × Value) (r:Rs (List Tn)) (w:World) (e:Ending) (w':World):Prop :=
 (∀ns,r=.ok ns->∃N c M T xs ks now n f,e=.returned (.tuple #[.slice (some ⟨N,0,none⟩) ns.length c,.nilIface])/\TrD w' w.heap.size T ns now N c M xs ks n f) ∧
 (∀c p,r=.error (c,p)->∃v,e=.returned (.tuple #[.slice none 0 0,v])/\((c=1/\v=.iface (E 1).1 (E 1).2)\/FaultE w' v E c p))/\w.grownBy w' none
theorem rdAll_step (l:List UInt8) (f:Nat) (d:Sd):rdAll l (f+1) d=if l.length<=d.i then .ok d else match rdLine l d with | .error e=>.error e | .ok d1=>rdAll l f d1:=rfl
theorem bel_gbn {w w':World} (h:Below w.heap.size w w'):w.grownBy w' none:=⟨h.os,h.tape,h.output,h.size,fun k hk _=>h.block k hk⟩
def rdFin:Rs Sd->Rs (List Tn)
 | .error e=>.error e
 | .ok d=>.ok d.ns
theorem rdToml_eq (l:List UInt8):rdToml l=if 100000 < l.length then .error (1,0) else rdFin (rdAll l (l.length+1) ⟨0,[⟨0,[],[],0,[],0⟩],[],0⟩):=by
 unfold rdToml
 split
 ·rfl
 ·cases rdAll l (l.length+1) ⟨0,[⟨0,[],[],0,[],0⟩],[],0⟩ <;> rfl
set_option maxRecDepth 100000 in
set_option maxHeartbeats 3200000 in
theorem tRead_any (s:ByteArray) (E:Int->TypeId × Value) (w:World) (G:Gl w w.heap.size E) (hlo:w.cell? ⟨0,0,none⟩=some (.iface (E 1).1 (E 1).2)) (hmx:s.size < 2 ^ 62) :
  Calls Tryz.prog 15 #[.string s] w (RdPost s E (rdToml s.data.toList) w):=by
 have hl:s.data.toList.length=s.size:=by simp
 have CNw:Hid (Calls Tryz.prog 22 #[] w fun e w'=>e=.returned (.pointer (some ⟨w.heap.size+2,0,none⟩))/\Tr w' w.heap.size (w.heap.size+2) [⟨0,[],[],0,[],0⟩] [] 0/\w.grownBy w' none):=tNew_any w
 have HE:=rdToml_eq s.data.toList
 rw [hl] at HE
 by_cases hbig:100000 < s.size
 ·rw [if_pos hbig] at HE
  rw [HE]
  have hb:(100000:Int) < (s.size:Int):=by omega
  have HR1:Hid (∀ty pv,(E 1).1=ty->(E 1).2=pv->True):=fun _ _ _ _=>trivial
  obtain ⟨ty,hty⟩:∃ty,(E 1).1=ty:=⟨_,rfl⟩
  obtain ⟨pv,hpv⟩:∃pv,(E 1).2=pv:=⟨_,rfl⟩
  have HTY:Hid ((E 1).1=ty/\(E 1).2=pv):=⟨hty,hpv⟩
  rw [hty,hpv] at hlo
  clear HE CNw G hty hpv HR1 hbig
  go_enter Tryz.func15,Tryz.ntmps15
  go_wp2
  go_quiet (fail)
  go_wp2
  refine bodyPost_ret (results_tmp2 (t:=2) (u:=3) rfl _ _ _) rfl ?_
  exact ⟨fun ns hh=>(by cases hh),fun c p hh=>(by cases hh;exact ⟨_,rfl,Or.inl ⟨rfl,by rw [HTY.out.1,HTY.out.2];rfl⟩⟩),gb_drew (gb_refl w none) _⟩
 ·rw [if_neg hbig] at HE
  rw [HE]
  have hb:(s.size:Int)<=100000:=by omega
  have hs:s.size<=100000:=by omega
  obtain ⟨B,hBe⟩:∃B,w.heap.size=B:=⟨_,rfl⟩
  have CL:Hid (∀R T d wr,Rd wr R s d.i T->Tr wr B T d.ns d.own d.now->B<=R->Below B w wr->Li s.data.toList d->Calls Tryz.prog 23 #[.pointer (some ⟨R,0,none⟩)] wr (LnPost B R T s E (rdLine s.data.toList d) wr)):=fun R T d wr h1 h2 h3 h4 h5=>tLine_any B R T s E d.own d.now d.i d.ns wr h1 h2 ((hBe ▸ G).bel h4) h3 hs h5
  have HLO:Hid (∀d d',Li s.data.toList d->d.i < s.size->rdLine s.data.toList d=.ok d'->Li s.data.toList d'/\d.i < d'.i):=fun d d' a b c=>line_ok s.data.toList d d' a (by omega) c
  obtain ⟨S,hS⟩:∃S,rdAll s.data.toList (s.data.toList.length+1) ⟨0,[⟨0,[],[],0,[],0⟩],[],0⟩=S:=⟨_,rfl⟩
  have HS:Hid (rdAll s.data.toList (s.data.toList.length+1) ⟨0,[⟨0,[],[],0,[],0⟩],[],0⟩=S):=hS
  rw [<-hl,hS]
  have HBE:Hid (w.heap.size=B):=hBe
  rw [hBe] at CNw
  clear HE hbig hS G hlo hBe
  go_enter Tryz.func15,Tryz.ntmps15
  go_wp2_with (first | (go_at_call 22;refine CNw.out.mono ?_))
  rintro e w1 ⟨rfl,ht1,hg1⟩
  obtain ⟨R,hRe⟩:∃R,w1.heap.size=R:=⟨_,rfl⟩
  have hBR:B<=R:=by have:=hg1.size;have:=HBE.out;omega
  have hn:=heap_alloc_new w1 (.cells #[.string s,.int .i64 0,.pointer (some ⟨B+2,0,none⟩)] 60)
  rw [hRe] at hn
  have hgR:=World.grownBy_alloc w1 (.cells #[.string s,.int .i64 0,.pointer (some ⟨B+2,0,none⟩)] 60) none
  obtain ⟨w2,hw2⟩:∃w2,w1.alloc (.cells #[.string s,.int .i64 0,.pointer (some ⟨B+2,0,none⟩)] 60)=w2:=⟨_,rfl⟩
  rw [hw2] at hn hgR
  have HR2:Hid (Rd w2 R s 0 (B+2)):=hn
  have HT2:Hid (Tr w2 B (B+2) [⟨0,[],[],0,[],0⟩] [] 0):=ht1.gb hgR
  have HB2:Hid (Below B w w2):=gb_b (gb_trans hg1 hgR) (by have:=HBE.out;omega)
  clear hn hgR ht1 hg1
  go_wp2
  go_loopw [2,3] (fun v2 v3 wr=>v2=.slice none 0 0/\v3=.nilIface/\∃(d:Sd) (f:Nat),Rd wr R s d.i (B+2)/\Tr wr B (B+2) d.ns d.own d.now/\Li s.data.toList d/\Below B w wr/\rdAll s.data.toList f d=S/\s.size - d.i < f) (fun _ _ wr=>s.size - (match wr.cell? ⟨R,1,none⟩ with | some (.int _ k)=>k.toNat | _=>0))
  case atStart=>exact ⟨rfl,rfl,⟨0,[⟨0,[],[],0,[],0⟩],[],0⟩,s.data.toList.length+1,HR2.out,HT2.out,li_start _,HB2.out,HS.out,by simp⟩
  case round =>
   obtain ⟨rfl,rfl,d,f,hrd,htr,hli,hbe,hra,hf⟩:=hrel
   obtain ⟨f,rfl⟩:∃f',f=f'+1:=⟨f - 1,by omega⟩
   rw [rdAll_step,hl] at hra
   have hdl:d.i<=s.size:=by have:=hli.le;omega
   have HRK:Hid (Rd wr R s d.i (B+2)):=hrd
   have HTK:Hid (Tr wr B (B+2) d.ns d.own d.now):=htr
   have HLK:Hid (Li s.data.toList d):=hli
   have HBK:Hid (Below B w wr):=hbe
   have HME:Hid ((match wr.cell? ⟨R,1,none⟩ with | some (.int _ k)=>k.toNat | _=>0)=d.i):=by show _=_;rw [hrd.cells.2.1];simp
   obtain ⟨c0,c1,c2,-⟩:=hrd.cells
   obtain ⟨k,hk⟩:∃k,d.i=k:=⟨_,rfl⟩
   rw [hk] at c1 hdl hf
   have HKK:Hid (d.i=k):=hk
   by_cases hlt:k < s.size
   ·have hlt':(k:Int) < (s.size:Int):=by omega
    rw [if_neg (by omega)] at hra
    have CL1:=CL.out R (B+2) d wr hrd htr hBR hbe hli
    have HL1:=HLO.out d
    obtain ⟨LR,hLR⟩:∃LR,rdLine s.data.toList d=LR:=⟨_,rfl⟩
    rw [hLR] at CL1 HL1 hra
    have CL2:Hid (Calls Tryz.prog 23 #[.pointer (some ⟨R,0,none⟩)] wr (LnPost B R (B+2) s E LR wr)):=CL1
    have HL2:Hid (∀d',Li s.data.toList d->d.i < s.size->LR=.ok d'->Li s.data.toList d'/\d.i < d'.i):=HL1
    have HRA:Hid (_=S):=hra
    clear hrd htr hli hbe hra CL1 HL1 hLR hk
    go_wp2_with (first | (go_at_call 23;refine CL2.out.mono ?_))
    rintro e w3 ⟨p1,p2,p3⟩
    have HB3:Hid (Below B w w3):=HBK.out.trans p3
    cases LR with
    | error ec =>
     obtain ⟨ec1,ec2⟩:=ec
     obtain ⟨F,rfl,hF⟩:=p2 ec1 ec2 rfl
     have HFV:Hid (FaultE w3 (.iface 65 (.pointer (some ⟨F,0,none⟩))) E ec1 ec2):=hF
     have HSE:Hid (S=.error (ec1,ec2)):=HRA.out.symm
     clear p1 p2 p3 hF c0 c1 c2
     go_wp2
     refine bodyPost_ret (results_tmp2 (t:=2) (u:=3) rfl _ _ _) rfl ?_
     rw [HSE.out]
     exact ⟨fun ns hh=>(by cases hh),fun c p hh=>(by cases hh;exact ⟨_,rfl,Or.inr HFV.out⟩),bel_gbn (by rw [HBE.out];exact HB3.out)⟩
    | ok d1 =>
     obtain ⟨rfl,hr3,ht3⟩:=p1 d1 rfl
     have hkd:d.i < s.size:=by rw [HKK.out];exact hlt
     obtain ⟨hli1,hgo⟩:=HL2.out d1 HLK.out hkd rfl
     have HR3:Hid (Rd w3 R s d1.i (B+2)):=hr3
     have HT3:Hid (Tr w3 B (B+2) d1.ns d1.own d1.now):=ht3
     have HL3:Hid (Li s.data.toList d1):=hli1
     have HSE:Hid (rdAll s.data.toList f d1=S):=HRA.out
     have HGO:Hid (d.i < d1.i):=hgo
     clear p1 p2 p3 hr3 ht3 hli1 hgo c0 c1 c2
     go_wp2
     go_roundw
     case rel=>exact ⟨rfl,rfl,d1,f,HR3.out,HT3.out,HL3.out,HB3.out,HSE.out,by have h1:=HGO.out;have h2:=HKK.out;have h3:=HL3.out.le;omega⟩
     case measure =>
      rw [HME.out,HR3.out.cells.2.1]
      have h1:=HGO.out
      have h2:=HKK.out
      simp
      omega
   ·have hkl:¬ (k:Int) < (s.size:Int):=by omega
    rw [if_pos (by omega)] at hra
    have HSE:Hid (S=.ok d):=hra.symm
    have htr':=htr
    obtain ⟨N,c,M,xs,ks,hD⟩:=htr'
    have t0:=hD.cells.1
    have HD:Hid (TrD wr B (B+2) d.ns d.now N c M xs ks (d.ns.length+d.own.length) (hold d.ns d.own)):=hD
    clear hrd htr hli hbe hra hk hD
    go_wp2
    refine bodyPost_ret (results_tmp2 (t:=2) (u:=3) rfl _ _ _) rfl ?_
    rw [HSE.out]
    exact ⟨fun ns hh=>(by cases hh;exact ⟨N,c,M,B+2,xs,ks,d.now,_,_,rfl,by rw [HBE.out];exact HD.out⟩),fun c p hh=>(by cases hh),bel_gbn (by rw [HBE.out];exact HBK.out)⟩
end Go.Proofs.YtbgnflcebafjjaaGreatDoor
