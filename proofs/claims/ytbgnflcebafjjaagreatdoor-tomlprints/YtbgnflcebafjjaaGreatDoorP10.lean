import Derived.Test.YtbgnflcebafjjaaGreatDoorP09
import Derived.Deep.RegionHeld3
namespace Go.Proofs.YtbgnflcebafjjaaGreatDoor
open Go.RowKit Go.Joins
set_option linter.unusedVariables false
theorem bl_len (X:ByteArray):X.toList.length=X.size:=by rw [ByteArray.toList_eq];exact Array.length_toList
set_option maxRecDepth 100000 in
set_option maxHeartbeats 1600000 in
theorem tInteger_any (R:Nat) (s:ByteArray) (i T:Nat) (E:Int->TypeId × Value) (w:World) (h:Rd w R s i T) (hs:s.size<=1048576) (he:Es w E) (hR:Far R)
  (hx:isDg (nx s.data.toList i)=true\/nx s.data.toList i=43\/nx s.data.toList i=45) :
  Calls Tryz.prog 103 #[.pointer (some ⟨R,0,none⟩)] w (NuPost R s T E (rdInt s.data.toList i) w):=by
 have hl:s.data.toList.length=s.size:=by simp
 have hil:i < s.size:=by
  rw [<-hl]
  rcases hx with h | h | h
  ·have:=of_decide_eq_true h;exact nx_lt (by omega)
  ·exact nx_lt (by omega)
  ·exact nx_lt (by omega)
 have CN:Hid (∀k w,Rd w R s k T->k<=s.size->Calls Tryz.prog 40 #[.pointer (some ⟨R,0,none⟩)] w fun e w'=>e=.returned (.int .i64 (nx s.data.toList k))/\w.grownBy w' none):=fun k w h1 h2=>tNext_any R s k T w h1 h2 hs
 have CB:Hid (∀c w,Calls Tryz.prog 74 #[.int .i64 c] w fun e w'=>e=.returned (.bool (isDg c))/\w'=w):=tDigit_any
 have CW2:Hid (∀p w,Calls Tryz.prog 101 #[.iface (E 2).1 (E 2).2,.int .i64 (p:Nat)] w fun e w'=>(∃v,e=.returned v/\FaultE w' v E 2 p)/\w.grownBy w' none):=fun p w=>tWrong_any p _ _ w
 have CW3:Hid (∀p w,Calls Tryz.prog 101 #[.iface (E 3).1 (E 3).2,.int .i64 (p:Nat)] w fun e w'=>(∃v,e=.returned v/\FaultE w' v E 3 p)/\w.grownBy w' none):=fun p w=>tWrong_any p _ _ w
 have HTE:Hid (∀w',w.grownBy w' (some R)->w'.cell? ⟨5,0,none⟩=some (.iface (E 2).1 (E 2).2)):=fun w' hg=>(he.grow hR hg).te
 have HRA:Hid (∀w',w.grownBy w' (some R)->w'.cell? ⟨1,0,none⟩=some (.iface (E 3).1 (E 3).2)):=fun w' hg=>(he.grow hR hg).ra
 have CH:Hid (∀k w',w.grownBy w' (some R)->Rd w' R s k T->Calls Tryz.prog 79 #[.pointer (some ⟨R,0,none⟩)] w' fun e w''=>(∃v,e=.returned v/\FaultE w'' v E 2 k)/\w'.grownBy w'' none):=fun k w' hg hr=>tHere_any R s k T (E 2).1 (E 2).2 w' hr (he.grow hR hg).te
 obtain ⟨ty2,hty2⟩:∃ty,(E 2).1=ty:=⟨_,rfl⟩
 obtain ⟨pv2,hpv2⟩:∃pv,(E 2).2=pv:=⟨_,rfl⟩
 obtain ⟨ty3,hty3⟩:∃ty,(E 3).1=ty:=⟨_,rfl⟩
 obtain ⟨pv3,hpv3⟩:∃pv,(E 3).2=pv:=⟨_,rfl⟩
 rw [hty2,hpv2] at CW2 HTE
 rw [hty3,hpv3] at CW3 HRA
 have HST:Hid (∀k,k < s.size->isDg (nx s.data.toList k)=true->toR isDg s.data.toList k=toR isDg s.data.toList (k+1)):=fun k hk hb=>toR_step isDg _ k (by omega) hb
 have HSP:Hid (∀k,isDg (nx s.data.toList k)=false->toR isDg s.data.toList k=k):=fun k hb=>toR_stop isDg _ k hb
 have HLT:Hid (∀k,k<=s.size->isDg (nx s.data.toList k)=true->k < s.size):=fun k hk hb=>by
  apply Classical.byContradiction
  intro hn
  rw [nx_end _ _ (by omega)] at hb
  exact absurd hb (by decide)
 have haa:i<=dgA s.data.toList i/\dgA s.data.toList i<=s.size/\((isDg (nx s.data.toList i)=true/\dgA s.data.toList i=i)\/((nx s.data.toList i=43\/nx s.data.toList i=45)/\dgA s.data.toList i=i+1)):=by
  unfold dgA
  by_cases hd:isDg (nx s.data.toList i)=true
  ·rw [if_pos hd];exact ⟨by omega,by omega,Or.inl ⟨hd,rfl⟩⟩
  ·rw [if_neg hd]
   refine ⟨by omega,by omega,Or.inr ⟨?_,rfl⟩⟩
   rcases hx with h | h
   ·exact absurd h hd
   ·exact h
 have hA1:Hid (dgA s.data.toList i=if isDg (nx s.data.toList i)=true then i else i+1):=rfl
 have hjj:=toR_le isDg s.data.toList (dgA s.data.toList i) (by omega)
 rw [hl] at hjj
 have hall:=toR_all isDg s.data.toList (dgA s.data.toList i)
 have HRE:Hid (rdInt s.data.toList i=_):=rdInt_eq s.data.toList i
 have hat:∀j,j<=s.size->dgA s.data.toList i < j->(∀c ∈ subT s.data.toList (dgA s.data.toList i) (j - dgA s.data.toList i),isDg (c.toNat:Int)=true)->j - dgA s.data.toList i<=18->Lib.atoiAll (subT s.data.toList i (j - i))=.ok (if nx s.data.toList i=45 then -(digN (subT s.data.toList (dgA s.data.toList i) (j - dgA s.data.toList i)) 0:Int) else (digN (subT s.data.toList (dgA s.data.toList i) (j - dgA s.data.toList i)) 0:Int)):=fun j h1 h2 h3 h4=>atoi_int s.data.toList i _ j (by omega) h2 h3 h4 haa.2.2
 obtain ⟨a,ha⟩:∃a,dgA s.data.toList i=a:=⟨_,rfl⟩
 obtain ⟨J,hJ⟩:∃J,toR isDg s.data.toList a=J:=⟨_,rfl⟩
 rw [ha] at haa hA1 hjj hall HRE hat
 rw [hJ] at hjj hall HRE
 obtain ⟨D,hD⟩:∃D,subT s.data.toList a (J - a)=D:=⟨_,rfl⟩
 have hDl:D.length=J - a:=by rw [<-hD];exact subT_len _ _ _ (by omega)
 have hAt:a < J->J - a<=18->Lib.atoiAll (subT s.data.toList i (J - i))=.ok (if nx s.data.toList i=45 then -(digN D 0:Int) else (digN D 0:Int)):=fun h1 h2=>by
  have:=hat J hjj.2 h1 (by rw [hD];rw [hD] at hall;exact hall) h2
  rw [hD] at this
  exact this
 rw [hD] at HRE
 obtain ⟨val,hval⟩:∃v,(if nx s.data.toList i=45 then -(digN D 0:Int) else (digN D 0:Int))=v:=⟨_,rfl⟩
 rw [hval] at HRE hAt
 have HJ:Hid (toR isDg s.data.toList a=J):=hJ
 obtain ⟨W,hW⟩:∃W,subT s.data.toList i (J - i)=W:=⟨_,rfl⟩
 have hWl:W.length<=1048576:=by rw [<-hW];unfold subT;rw [List.length_take,List.length_drop];omega
 rw [hW] at hAt
 have s1:∀wx,(Instr.slice 9 (.string s) (some (.int .i64 (a:Int))) (some (.int .i64 (J:Int))) none).run Tryz.prog wx=.ok (.string ⟨D.toArray⟩) wx:=fun wx=>by rw [<-hD];exact run_sub s a J hjj.1 hjj.2 wx
 have s2:∀wx,(Instr.slice 9 (.string s) (some (.int .i64 (i:Int))) (some (.int .i64 (J:Int))) none).run Tryz.prog wx=.ok (.string ⟨W.toArray⟩) wx:=fun wx=>by rw [<-hW];exact run_sub s i J (by omega) hjj.2 wx
 have CA:Hid (a < J->J - a<=18->∀w,Calls Tryz.prog 121 #[.string ⟨W.toArray⟩] w fun e w'=>e=.returned (.tuple #[.int .i64 val,.nilIface])/\w.grownBy w' none):=fun h1 h2 w=>tAtoi_any W val hWl (hAt h1 h2) w
 have hXn:a < J->∃c r,D=c :: r/\(c.toNat:Int)=nx s.data.toList a:=fun h1=>by
  have hal:a < s.data.toList.length:=by omega
  refine ⟨s.data.toList[a],subT s.data.toList (a+1) (J - a - 1),?_,(nx_at s.data.toList a hal).symm⟩
  rw [<-hD,show J - a=(J - a - 1)+1 by omega]
  exact subT_cons _ _ _ hal
 obtain ⟨X,hX⟩:∃X:ByteArray,⟨D.toArray⟩=X:=⟨_,rfl⟩
 obtain ⟨Y,hY⟩:∃Y:ByteArray,⟨W.toArray⟩=Y:=⟨_,rfl⟩
 have hXl:X.toList=D:=by rw [<-hX,ByteArray.toList_eq]
 have hXs:X.size=J - a:=by rw [<-hX];show D.toArray.size=_;simp [hDl]
 have HX0:Hid (∀h:0 < X.size,((X[0]'h).toNat:Int)=nx s.data.toList a):=fun h=>by
  obtain ⟨c,r,e1,e2⟩:=hXn (by omega)
  subst hX
  rw [<-e2]
  subst e1
  rfl
 have HXY:Hid (a=i->Y=X):=fun e=>by rw [<-hX,<-hY,<-hD,<-hW,e]
 rw [hX] at s1
 rw [hY] at s2 CA
 obtain ⟨G,hG⟩:∃G,rdInt s.data.toList i=G:=⟨_,rfl⟩
 rw [hG] at HRE ⊢
 obtain ⟨hia,has,-⟩:=haa
 obtain ⟨haJ,hJs⟩:=hjj
 obtain ⟨z,hz⟩:∃z,nx s.data.toList a=z:=⟨_,rfl⟩
 rw [hz] at HRE HX0
 have HRG:Hid (G=if J=a\/(1 < J - a/\z=48) then .error (2,a) else if 18 < J - a then .error (3,i) else .ok (val,J)):=HRE.out
 have H0:Hid (Rd w R s i T):=h
 have C0:Hid (∀w',Rd w' R s i T->Calls Tryz.prog 40 #[.pointer (some ⟨R,0,none⟩)] w' fun e w''=>e=.returned (.int .i64 (nx s.data.toList i))/\w'.grownBy w'' none):=fun w' h1=>CN.out i w' h1 (by omega)
 obtain ⟨x,hxx⟩:∃x,nx s.data.toList i=x:=⟨_,rfl⟩
 rw [hxx] at C0 hA1
 have CB0:Hid (∀w,Calls Tryz.prog 74 #[.int .i64 x] w fun e w'=>e=.returned (.bool (isDg x))/\w'=w):=CB.out x
 obtain ⟨b0,hb0⟩:∃b,isDg x=b:=⟨_,rfl⟩
 rw [hb0] at CB0 hA1
 obtain ⟨c0,c1,-,-⟩:=h.cells
 clear h hJ hG hD hval hW hX hY hXl hxx hb0 hz hAt hat hXn hDl hWl hall ha HRE hty2 hpv2 hty3 hpv3 he hx hl
 go_enter Tryz.func103,Tryz.ntmps103
 go_wp2_with (first | (go_at_call 40;refine (C0.out _ H0.out).mono ?_))
 rintro e w1 ⟨rfl,hg1⟩
 have HR1:Hid (Rd w1 R s i T):=H0.out.grow hg1
 have HG1:Hid (w.grownBy w1 (some R)):=gb_more (gb_refl w (some R)) hg1
 obtain ⟨-,e1,-,ef⟩:=HR1.out.cells
 have ef1:=ef 1
 have HRS:Hid (Rd (w1.setCell ⟨R,1,none⟩ (.int .i64 ((i:Int)+1))) R s (i+1) T):=HR1.out.set (i+1)
 have HGS:Hid (w.grownBy (w1.setCell ⟨R,1,none⟩ (.int .i64 ((i:Int)+1))) (some R)):=gb_set HG1.out 1 _
 clear hg1 ef c0 c1
 cases b0 with
 | true =>
  have HA:a=i:=by have:=hA1.out;rw [if_pos rfl] at this;exact this
  subst HA
  have hXY:X=Y:=(HXY.out rfl).symm
  subst hXY
  go_wp2_with (first | (go_at_call 74;refine (CB0.out _).mono ?_;rintro e wZ ⟨rfl,rfl⟩))
  have HRZ:=HR1
  have HGZ:=HG1
  go_loopw [] (fun wr=>∃k:Nat,Rd wr R s k T/\k<=s.size/\toR isDg s.data.toList k=J/\w.grownBy wr (some R)) (fun wr=>s.size - (match wr.cell? ⟨R,1,none⟩ with | some (.int _ k)=>k.toNat | _=>0))
  case atStart=>exact ⟨a,HRZ.out,by omega,HJ.out,HGZ.out⟩
  case round =>
   obtain ⟨k,hrd,hk,hbl,hg⟩:=hrel
   have HRD:Hid (Rd wr R s k T):=hrd
   have HBL:Hid (toR isDg s.data.toList k=J):=hbl
   have HG:Hid (w.grownBy wr (some R)):=hg
   have C1:Hid (Calls Tryz.prog 40 #[.pointer (some ⟨R,0,none⟩)] wr fun e w'=>e=.returned (.int .i64 (nx s.data.toList k))/\wr.grownBy w' none):=CN.out k wr hrd hk
   have HME:Hid ((match wr.cell? ⟨R,1,none⟩ with | some (.int _ k)=>k.toNat | _=>0)=k):=by show _=_;rw [hrd.cells.2.1];simp
   have HS1:Hid (isDg (nx s.data.toList k)=true->toR isDg s.data.toList k=toR isDg s.data.toList (k+1)):=fun hb=>HST.out k (HLT.out k hk hb) hb
   have HS2:Hid (isDg (nx s.data.toList k)=false->toR isDg s.data.toList k=k):=HSP.out k
   have HL2:Hid (isDg (nx s.data.toList k)=true->k < s.size):=HLT.out k hk
   obtain ⟨c,hc⟩:∃c,nx s.data.toList k=c:=⟨_,rfl⟩
   rw [hc] at C1 HS1 HS2 HL2
   have CB1:Hid (∀w,Calls Tryz.prog 74 #[.int .i64 c] w fun e w'=>e=.returned (.bool (isDg c))/\w'=w):=fun w=>CB.out c w
   obtain ⟨b,hb⟩:∃b,isDg c=b:=⟨_,rfl⟩
   rw [hb] at CB1 HS1 HS2 HL2
   clear hrd hbl hg hc hb
   cases b with
   | true =>
    have hkl:k < s.size:=HL2.out (by trivial)
    have HN:Hid (toR isDg s.data.toList (k+1)=J):=(HS1.out (by trivial)).symm.trans HBL.out
    go_wp2_with (first | (go_at_call 40;refine C1.out.mono ?_;rintro e w2 ⟨rfl,hg2⟩;obtain ⟨-,d1,-,df⟩:=(HRD.out.grow hg2).cells;have df1:=df 1) | (go_at_call 74;refine (CB1.out _).mono ?_;rintro e w' ⟨rfl,rfl⟩))
    have HS3:Hid (Rd (w'.setCell ⟨R,1,none⟩ (.int .i64 ((k:Int)+1))) R s (k+1) T):=(HRD.out.grow hg2).set (k+1)
    refine ⟨⟨k+1,HS3.out,by omega,HN.out,gb_set (gb_more HG.out hg2) 1 _⟩,?_⟩
    rw [HME.out,HS3.out.cells.2.1]
    simp
    omega
   | false =>
    have HKJ:Hid (k=J):=(HS2.out (by trivial)).symm.trans HBL.out
    go_wp2_with (first | (go_at_call 40;refine C1.out.mono ?_;rintro e w2 ⟨rfl,hg2⟩) | (go_at_call 74;refine (CB1.out _).mono ?_;rintro e w' ⟨rfl,rfl⟩))
    have HR2:Hid (Rd w' R s J T):=by rw [<-HKJ.out];exact HRD.out.grow hg2
    have HG2:Hid (w.grownBy w' (some R)):=gb_more HG.out hg2
    obtain ⟨d0,d1,-,-⟩:=HR2.out.cells
    have dte:=HTE.out _ HG2.out
    have dra:=HRA.out _ HG2.out
    clear hg2
    by_cases hJa:J=a
    ·have hbe:X.toList.isEmpty=true:=by
      have:X.toList.length=0:=by rw [bl_len];omega
      rw [List.isEmpty_iff];exact List.length_eq_zero_iff.1 this
     have HGG:Hid (G=.error (2,J)):=by
      show _=_
      rw [HRG.out,if_pos (Or.inl hJa),hJa]
     have CH1:Hid (∀n,Calls Tryz.prog 79 #[.pointer (some ⟨R,0,none⟩)] (w'.drewN n) fun e w''=>(∃v,e=.returned v/\FaultE w'' v E 2 J)/\(w'.drewN n).grownBy w'' none):=fun n=>CH.out J _ (gb_drew HG2.out n) HR2.out
     clear hJa
     go_quiet (fail)
     go_wp2_with (first | (go_at_call 79;refine (CH1.out _).mono ?_;rintro e w3 ⟨⟨v,rfl,hv⟩,hg3⟩))
     refine bodyPost_ret (results_tmp2 (t:=2) (u:=3) rfl _ _ _) rfl ?_
     rw [HGG.out]
     exact ⟨fun n j hh=>(by cases hh),fun c p hh=>(by cases hh;exact ⟨v,rfl,hv,J,Rd.grow (w:=World.drewN w' _) HR2.out hg3⟩),gb_more (gb_drew HG2.out _) hg3⟩
    ·have hbe:X.toList.isEmpty=false:=by
      rw [Bool.eq_false_iff]
      intro hh
      rw [List.isEmpty_iff] at hh
      have:X.toList.length=0:=by rw [hh];rfl
      rw [bl_len] at this
      omega
     have hX0:0 < X.size:=by omega
     have hz0:=HX0.out hX0
     have hJg:a < J:=by omega
     by_cases hzz:z=48/\1 < J - a
     ·have HGG:Hid (G=.error (2,a)):=by
       show _=_
       rw [HRG.out,if_pos (Or.inr ⟨hzz.2,hzz.1⟩)]
      have hq1:(z == 48)=true:=by simp [hzz.1]
      have hq2:(1:Int) < (X.size:Int):=by omega
      clear hJa hzz
      go_quiet (fail)
      go_wp2_with (first | (go_at_call 101;refine (CW2.out _ _).mono ?_;rintro e w3 ⟨⟨v,rfl,hv⟩,hg3⟩))
      refine bodyPost_ret (results_tmp2 (t:=2) (u:=3) rfl _ _ _) rfl ?_
      rw [HGG.out]
      exact ⟨fun n j hh=>(by cases hh),fun c p hh=>(by cases hh;exact ⟨v,rfl,hv,J,Rd.grow (w:=World.drewN w' _) HR2.out hg3⟩),gb_more (gb_drew HG2.out _) hg3⟩
     ·have HG3:Hid (G=if 18 < J - a then .error (3,a) else .ok (val,J)):=by
       show _=_
       rw [HRG.out,if_neg (by rintro (h | h);exact hJa h;exact hzz ⟨h.2,h.1⟩)]
      have hcase:((z == 48)=true/\(X.size:Int)<=1)\/(z == 48)=false:=by
       by_cases h:z=48
       ·exact Or.inl ⟨by simp [h],by omega⟩
       ·exact Or.inr (by simp [h])
      clear hzz hJa
      by_cases h18:18 < J - a
      ·have HGG:Hid (G=.error (3,a)):=by show _=_;rw [HG3.out,if_pos h18]
       have hq2:(18:Int) < (X.size:Int):=by omega
       clear h18
       go_quiet (fail)
       rcases hcase with ⟨hq,hq3⟩ | hq
       ·exfalso;omega
       ·go_wp2_with (first | (go_at_call 101;refine (CW3.out _ _).mono ?_;rintro e w3 ⟨⟨v,rfl,hv⟩,hg3⟩))
        refine bodyPost_ret (results_tmp2 (t:=2) (u:=3) rfl _ _ _) rfl ?_
        rw [HGG.out]
        exact ⟨fun n j hh=>(by cases hh),fun c p hh=>(by cases hh;exact ⟨v,rfl,hv,J,Rd.grow (w:=World.drewN w' _) HR2.out hg3⟩),gb_more (gb_drew HG2.out _) hg3⟩
      ·have HGG:Hid (G=.ok (val,J)):=by show _=_;rw [HG3.out,if_neg h18]
       have hq2:(X.size:Int)<=18:=by omega
       have CA1:Hid (∀w,Calls Tryz.prog 121 #[.string X] w fun e w'=>e=.returned (.tuple #[.int .i64 val,.nilIface])/\w.grownBy w' none):=CA.out hJg (by omega)
       clear h18
       go_quiet (fail)
       rcases hcase with ⟨hq,hq3⟩ | hq
       all_goals (
        go_wp2
        go_region_held3 (fun u=>u.cell? ⟨R,0,none⟩=some (.string s)/\u.cell? ⟨R,1,none⟩=some (.int .i64 (J:Int))) ((first | exact ⟨World.grownBy.cell (by assumption) (And.left (by assumption)) (by simp),World.grownBy.cell (by assumption) (And.right (by assumption)) (by simp)⟩ | go_keep)) (first | (go_at_call 121;refine (CA1.out _).mono ?_;rintro e w6 ⟨rfl,hg6⟩))
        have hg66:w'.grownBy w6 none:=⟨hg6.os,hg6.tape,hg6.output,hg6.size,hg6.block⟩
        have HR6:Hid (Rd w6 R s J T):=HR2.out.grow hg66
        have HG6:Hid (w.grownBy w6 (some R)):=gb_more HG2.out hg66
        clear hg6 hg66
        go_wp2
        refine bodyPost_ret (results_tmp2 (t:=2) (u:=3) rfl _ _ _) rfl ?_
        rw [HGG.out]
        exact ⟨fun n j hh=>(by cases hh;exact ⟨rfl,HR6.out⟩),fun c p hh=>(by cases hh),HG6.out⟩)
 | false =>
  have HA:Hid (a=i+1):=by have:=hA1.out;rw [if_neg (by decide)] at this;exact this
  have hai:(i:Int)+1=(a:Int):=by have:=HA.out;omega
  go_wp2_with (first | (go_at_call 74;refine (CB0.out _).mono ?_;rintro e wZ ⟨rfl,rfl⟩))
  have HRZ:Hid (Rd (wZ.setCell ⟨R,1,none⟩ (.int .i64 (a:Int))) R s a T):=by
   have:=HRS.out
   rw [hai,<-HA.out] at this
   exact this
  have HGZ:Hid (w.grownBy (wZ.setCell ⟨R,1,none⟩ (.int .i64 (a:Int))) (some R)):=by
   have:=HGS.out
   rw [hai] at this
   exact this
  try rw [hai]
  clear hai
  go_loopw [] (fun wr=>∃k:Nat,Rd wr R s k T/\k<=s.size/\toR isDg s.data.toList k=J/\w.grownBy wr (some R)) (fun wr=>s.size - (match wr.cell? ⟨R,1,none⟩ with | some (.int _ k)=>k.toNat | _=>0))
  case atStart=>exact ⟨a,HRZ.out,by omega,HJ.out,HGZ.out⟩
  case round =>
   obtain ⟨k,hrd,hk,hbl,hg⟩:=hrel
   have HRD:Hid (Rd wr R s k T):=hrd
   have HBL:Hid (toR isDg s.data.toList k=J):=hbl
   have HG:Hid (w.grownBy wr (some R)):=hg
   have C1:Hid (Calls Tryz.prog 40 #[.pointer (some ⟨R,0,none⟩)] wr fun e w'=>e=.returned (.int .i64 (nx s.data.toList k))/\wr.grownBy w' none):=CN.out k wr hrd hk
   have HME:Hid ((match wr.cell? ⟨R,1,none⟩ with | some (.int _ k)=>k.toNat | _=>0)=k):=by show _=_;rw [hrd.cells.2.1];simp
   have HS1:Hid (isDg (nx s.data.toList k)=true->toR isDg s.data.toList k=toR isDg s.data.toList (k+1)):=fun hb=>HST.out k (HLT.out k hk hb) hb
   have HS2:Hid (isDg (nx s.data.toList k)=false->toR isDg s.data.toList k=k):=HSP.out k
   have HL2:Hid (isDg (nx s.data.toList k)=true->k < s.size):=HLT.out k hk
   obtain ⟨c,hc⟩:∃c,nx s.data.toList k=c:=⟨_,rfl⟩
   rw [hc] at C1 HS1 HS2 HL2
   have CB1:Hid (∀w,Calls Tryz.prog 74 #[.int .i64 c] w fun e w'=>e=.returned (.bool (isDg c))/\w'=w):=fun w=>CB.out c w
   obtain ⟨b,hb⟩:∃b,isDg c=b:=⟨_,rfl⟩
   rw [hb] at CB1 HS1 HS2 HL2
   clear hrd hbl hg hc hb
   cases b with
   | true =>
    have hkl:k < s.size:=HL2.out (by trivial)
    have HN:Hid (toR isDg s.data.toList (k+1)=J):=(HS1.out (by trivial)).symm.trans HBL.out
    go_wp2_with (first | (go_at_call 40;refine C1.out.mono ?_;rintro e w2 ⟨rfl,hg2⟩;obtain ⟨-,d1,-,df⟩:=(HRD.out.grow hg2).cells;have df1:=df 1) | (go_at_call 74;refine (CB1.out _).mono ?_;rintro e w' ⟨rfl,rfl⟩))
    have HS3:Hid (Rd (w'.setCell ⟨R,1,none⟩ (.int .i64 ((k:Int)+1))) R s (k+1) T):=(HRD.out.grow hg2).set (k+1)
    refine ⟨⟨k+1,HS3.out,by omega,HN.out,gb_set (gb_more HG.out hg2) 1 _⟩,?_⟩
    rw [HME.out,HS3.out.cells.2.1]
    simp
    omega
   | false =>
    have HKJ:Hid (k=J):=(HS2.out (by trivial)).symm.trans HBL.out
    go_wp2_with (first | (go_at_call 40;refine C1.out.mono ?_;rintro e w2 ⟨rfl,hg2⟩) | (go_at_call 74;refine (CB1.out _).mono ?_;rintro e w' ⟨rfl,rfl⟩))
    have HR2:Hid (Rd w' R s J T):=by rw [<-HKJ.out];exact HRD.out.grow hg2
    have HG2:Hid (w.grownBy w' (some R)):=gb_more HG.out hg2
    obtain ⟨d0,d1,-,-⟩:=HR2.out.cells
    have dte:=HTE.out _ HG2.out
    have dra:=HRA.out _ HG2.out
    clear hg2
    by_cases hJa:J=a
    ·have hbe:X.toList.isEmpty=true:=by
      have:X.toList.length=0:=by rw [bl_len];omega
      rw [List.isEmpty_iff];exact List.length_eq_zero_iff.1 this
     have HGG:Hid (G=.error (2,J)):=by
      show _=_
      rw [HRG.out,if_pos (Or.inl hJa),hJa]
     have CH1:Hid (∀n,Calls Tryz.prog 79 #[.pointer (some ⟨R,0,none⟩)] (w'.drewN n) fun e w''=>(∃v,e=.returned v/\FaultE w'' v E 2 J)/\(w'.drewN n).grownBy w'' none):=fun n=>CH.out J _ (gb_drew HG2.out n) HR2.out
     clear hJa
     go_quiet (fail)
     go_wp2_with (first | (go_at_call 79;refine (CH1.out _).mono ?_;rintro e w3 ⟨⟨v,rfl,hv⟩,hg3⟩))
     refine bodyPost_ret (results_tmp2 (t:=2) (u:=3) rfl _ _ _) rfl ?_
     rw [HGG.out]
     exact ⟨fun n j hh=>(by cases hh),fun c p hh=>(by cases hh;exact ⟨v,rfl,hv,J,Rd.grow (w:=World.drewN w' _) HR2.out hg3⟩),gb_more (gb_drew HG2.out _) hg3⟩
    ·have hbe:X.toList.isEmpty=false:=by
      rw [Bool.eq_false_iff]
      intro hh
      rw [List.isEmpty_iff] at hh
      have:X.toList.length=0:=by rw [hh];rfl
      rw [bl_len] at this
      omega
     have hX0:0 < X.size:=by omega
     have hz0:=HX0.out hX0
     have hJg:a < J:=by omega
     by_cases hzz:z=48/\1 < J - a
     ·have HGG:Hid (G=.error (2,a)):=by
       show _=_
       rw [HRG.out,if_pos (Or.inr ⟨hzz.2,hzz.1⟩)]
      have hq1:(z == 48)=true:=by simp [hzz.1]
      have hq2:(1:Int) < (X.size:Int):=by omega
      clear hJa hzz
      go_quiet (fail)
      go_wp2_with (first | (go_at_call 101;refine (CW2.out _ _).mono ?_;rintro e w3 ⟨⟨v,rfl,hv⟩,hg3⟩))
      refine bodyPost_ret (results_tmp2 (t:=2) (u:=3) rfl _ _ _) rfl ?_
      rw [HGG.out]
      exact ⟨fun n j hh=>(by cases hh),fun c p hh=>(by cases hh;exact ⟨v,rfl,hv,J,Rd.grow (w:=World.drewN w' _) HR2.out hg3⟩),gb_more (gb_drew HG2.out _) hg3⟩
     ·have HG3:Hid (G=if 18 < J - a then .error (3,i) else .ok (val,J)):=by
       show _=_
       rw [HRG.out,if_neg (by rintro (h | h);exact hJa h;exact hzz ⟨h.2,h.1⟩)]
      have hcase:((z == 48)=true/\(X.size:Int)<=1)\/(z == 48)=false:=by
       by_cases h:z=48
       ·exact Or.inl ⟨by simp [h],by omega⟩
       ·exact Or.inr (by simp [h])
      clear hzz hJa
      by_cases h18:18 < J - a
      ·have HGG:Hid (G=.error (3,i)):=by show _=_;rw [HG3.out,if_pos h18]
       have hq2:(18:Int) < (X.size:Int):=by omega
       clear h18
       go_quiet (fail)
       rcases hcase with ⟨hq,hq3⟩ | hq
       ·exfalso;omega
       ·go_wp2_with (first | (go_at_call 101;refine (CW3.out _ _).mono ?_;rintro e w3 ⟨⟨v,rfl,hv⟩,hg3⟩))
        refine bodyPost_ret (results_tmp2 (t:=2) (u:=3) rfl _ _ _) rfl ?_
        rw [HGG.out]
        exact ⟨fun n j hh=>(by cases hh),fun c p hh=>(by cases hh;exact ⟨v,rfl,hv,J,Rd.grow (w:=World.drewN w' _) HR2.out hg3⟩),gb_more (gb_drew HG2.out _) hg3⟩
      ·have HGG:Hid (G=.ok (val,J)):=by show _=_;rw [HG3.out,if_neg h18]
       have hq2:(X.size:Int)<=18:=by omega
       have CA1:Hid (∀w,Calls Tryz.prog 121 #[.string Y] w fun e w'=>e=.returned (.tuple #[.int .i64 val,.nilIface])/\w.grownBy w' none):=CA.out hJg (by omega)
       clear h18
       go_quiet (fail)
       rcases hcase with ⟨hq,hq3⟩ | hq
       all_goals (
        go_wp2
        go_region_held3 (fun u=>u.cell? ⟨R,0,none⟩=some (.string s)/\u.cell? ⟨R,1,none⟩=some (.int .i64 (J:Int))) ((first | exact ⟨World.grownBy.cell (by assumption) (And.left (by assumption)) (by simp),World.grownBy.cell (by assumption) (And.right (by assumption)) (by simp)⟩ | go_keep)) (first | (go_at_call 121;refine (CA1.out _).mono ?_;rintro e w6 ⟨rfl,hg6⟩))
        have hg66:w'.grownBy w6 none:=⟨hg6.os,hg6.tape,hg6.output,hg6.size,hg6.block⟩
        have HR6:Hid (Rd w6 R s J T):=HR2.out.grow hg66
        have HG6:Hid (w.grownBy w6 (some R)):=gb_more HG2.out hg66
        clear hg6 hg66
        go_wp2
        refine bodyPost_ret (results_tmp2 (t:=2) (u:=3) rfl _ _ _) rfl ?_
        rw [HGG.out]
        exact ⟨fun n j hh=>(by cases hh;exact ⟨rfl,HR6.out⟩),fun c p hh=>(by cases hh),HG6.out⟩)
end Go.Proofs.YtbgnflcebafjjaaGreatDoor
namespace Go.Proofs.YtbgnflcebafjjaaGreatDoor
open Go.RowKit Go.Maps Go.WideMaps Go.Joins
set_option linter.unusedVariables false
theorem Tr.keepR {w w':World} {B T:Nat} {ns:List Tn} {own:List Nat} {now R:Nat} {s:ByteArray} {i T':Nat} (h:Tr w B T ns own now) (hr:Rd w R s i T') (hg:w.grownBy w' (some R)):Tr w' B T ns own now:=by
 obtain ⟨N,c,M,xs,ks,hD⟩:=h
 exact ⟨N,c,M,xs,ks,hD.keeps (keeps_R hr hg)⟩
theorem Rd.fr {w w':World} {R:Nat} {s:ByteArray} {i T B:Nat} (h:Rd w R s i T) (hf:Fr B w w'):Rd w' R s i T:=(hf.oth _ _ _ _ h (by decide) (by decide) (by decide)).trans h
theorem addN_last (ns:List Tn) (up:Nat) (x:Tn) (h:ns.length < (addN ns up x).length):(addN ns up x)[ns.length]'h=x:=by
 obtain ⟨X,h1,h2⟩:=addN_form ns up x
 have:(addN ns up x)[ns.length]?=some x:=by rw [h2,<-h1];simp
 rw [List.getElem?_eq_getElem h] at this
 exact Option.some.inj this
theorem hold_put (ns:List Tn) (own:List Nat) (up:Nat) (x y:Tn) (h1:y.kd=x.kd) (h2:y.ky=x.ky) (h3:y.ks=x.ks):hold (addN ns up y) own=hold (addN ns up x) own:=by
 have hl:ns.length < (addN ns up x).length:=by rw [addN_len];omega
 have e:=addN_last ns up x hl
 obtain ⟨a,b,c⟩:=same_put (addN ns up x) ns.length y hl (by rw [e];exact h1) (by rw [e];exact h2) (by rw [e];exact h3)
 rw [addN_put] at a b c
 exact hold_cong own a b c
theorem Tr.last {w:World} {B T:Nat} {ns:List Tn} {own:List Nat} {now up:Nat} {kd:Int} {k:List UInt8} {p:Nat} (h:Tr w B T (addN ns up ⟨kd,k,[],0,[],p⟩) own now) :
  ∃N cc,w.cell? ⟨T,0,none⟩=some (.slice (some ⟨N,0,none⟩) (ns.length+1) cc)/\(∃cs,w.heap[N]?=some (.cells cs 33 (0,0)))/\B<=N/\w.cell? ⟨N,ns.length * 6+2,none⟩=some (.string ⟨#[]⟩)/\w.cell? ⟨N,ns.length * 6+3,none⟩=some (.int .i64 0) ∧
   (∀t:List UInt8,Tr (w.setCell ⟨N,ns.length * 6+2,none⟩ (.string ⟨t.toArray⟩)) B T (addN ns up ⟨kd,k,t,0,[],p⟩) own now)/\∀v:Int,Tr (w.setCell ⟨N,ns.length * 6+3,none⟩ (.int .i64 v)) B T (addN ns up ⟨kd,k,[],v,[],p⟩) own now:=by
 obtain ⟨N,c,M,xs,ks,hD⟩:=h
 have hl:ns.length < (addN ns up ⟨kd,k,[],0,[],p⟩).length:=by rw [addN_len];omega
 have e:=addN_last ns up ⟨kd,k,[],0,[],p⟩ hl
 have hc:=hD.cells.1
 rw [addN_len] at hc
 obtain ⟨-,-,n2,n3,-,-,-⟩:=hD.node ns.length hl
 rw [e] at n2 n3
 refine ⟨N,c,hc,hD.rowT,(own_typ hD.row rfl).1,n2,n3,fun t=>?_,fun v=>?_⟩
 ·refine ⟨N,c,M,xs.set (ns.length * 6+2) (.string ⟨t.toArray⟩),ks,?_⟩
  have h1:=hD.cellSet ns.length 2 (.string ⟨t.toArray⟩) ⟨kd,k,t,0,[],p⟩ hl (by omega) (by omega) (by rw [e]) (fun j u hu=>by
   rw [e] at hu
   by_cases hj:j=2
   ·subst hj
    rw [if_pos rfl] at hu
    exact hu
   ·rw [if_neg hj] at hu
    match j,hj,hu with
    | 0,_,hu=>exact hu
    | 1,_,hu=>exact hu
    | 3,_,hu=>exact hu
    | 4,_,hu=>exact hu
    | 5,_,hu=>exact hu
    | j+6,_,hu=>simp at hu)
  rw [addN_put] at h1
  rw [hold_put ns own up ⟨kd,k,[],0,[],p⟩ ⟨kd,k,t,0,[],p⟩ rfl rfl rfl,addN_len,<-addN_len ns up ⟨kd,k,[],0,[],p⟩]
  exact h1
 ·refine ⟨N,c,M,xs.set (ns.length * 6+3) (.int .i64 v),ks,?_⟩
  have h1:=hD.cellSet ns.length 3 (.int .i64 v) ⟨kd,k,[],v,[],p⟩ hl (by omega) (by omega) (by rw [e]) (fun j u hu=>by
   rw [e] at hu
   by_cases hj:j=3
   ·subst hj
    rw [if_pos rfl] at hu
    exact hu
   ·rw [if_neg hj] at hu
    match j,hj,hu with
    | 0,_,hu=>exact hu
    | 1,_,hu=>exact hu
    | 2,_,hu=>exact hu
    | 4,_,hu=>exact hu
    | 5,_,hu=>exact hu
    | j+6,_,hu=>simp at hu)
  rw [addN_put] at h1
  rw [hold_put ns own up ⟨kd,k,[],0,[],p⟩ ⟨kd,k,[],v,[],p⟩ rfl rfl rfl,addN_len,<-addN_len ns up ⟨kd,k,[],0,[],p⟩]
  exact h1
theorem faultE_node {w:World} {v:Value} {E:Int->TypeId × Value} {c:Int} {p N o:Nat} {cs:Array Value} {x:Value} (h:FaultE w v E c p) (hN:w.heap[N]?=some (.cells cs 33 (0,0))):FaultE (w.setCell ⟨N,o,none⟩ x) v E c p:=by
 obtain ⟨F,h1,h2⟩:=h
 exact ⟨F,h1,(heap_setCell_other _ _ _ _ (ne_typ h2 hN (by decide))).trans h2⟩
theorem Rd.node {w:World} {R:Nat} {s:ByteArray} {i T N o:Nat} {cs:Array Value} {x:Value} (h:Rd w R s i T) (hN:w.heap[N]?=some (.cells cs 33 (0,0))):Rd (w.setCell ⟨N,o,none⟩ x) R s i T:=(heap_setCell_other _ _ _ _ (ne_typ h hN (by decide))).trans h
theorem bel_set {w w1:World} {B b:Nat} (h:Below B w w1) (hb:B<=b) (o:Nat) (v:Value):Below B w (w1.setCell ⟨b,o,none⟩ v):=⟨h.os,h.tape,h.output,by have:=h.size;simpa [World.setCell] using this,fun k hk=>(heap_setCell_other _ _ _ _ (by simp;omega)).trans (h.block k hk)⟩
theorem gb_b {w w':World} {B:Nat} (hg:w.grownBy w' none) (hB:B<=w.heap.size):Below B w w':=⟨hg.os,hg.tape,hg.output,hg.size,fun k hk=>hg.block k (by omega) (by simp)⟩
def VlPost (B R T:Nat) (s:ByteArray) (E:Int->TypeId × Value) (own:List Nat) (now:Nat) (r:Rs (Nat × List Tn)) (w:World) (e:Ending) (w':World):Prop :=
 (∀j ns,r=.ok (j,ns)->e=.returned .nilIface/\Rd w' R s j T/\Tr w' B T ns own now)/\(∀c p,r=.error (c,p)->∃v,e=.returned v/\FaultE w' v E c p)/\Below B w w'
def ValC (f:Nat):Prop:=∀(B R T:Nat) (s:ByteArray) (E:Int->TypeId × Value) (own:List Nat) (now i up:Nat) (k:List UInt8) (p d:Nat) (ns:List Tn) (w:World),Rd w R s i T->Tr w B T ns own now->Gl w B E->B<=R->i<=s.size->s.size<=100000->WF ns own->WT ns->up < ns.length->¬ kdAt ns up=2->(kdAt ns up=0->kidO ns up k=none)->k.length<=1048576->d<=8->ns.length+own.length+(s.size - i)<=700000->2 * (s.size - i)+1<=f →
 Calls Tryz.prog 77 #[.pointer (some ⟨R,0,none⟩),.int .i64 (up:Nat),.agg #[.string ⟨k.toArray⟩,.int .i64 (p:Nat)],.int .i64 (d:Nat)] w (VlPost B R T s E own now (val s.data.toList f i up k p d ns) w)
def LstC (f:Nat):Prop:=∀(B R T:Nat) (s:ByteArray) (E:Int->TypeId × Value) (own:List Nat) (now i up d:Nat) (ns:List Tn) (w:World),Rd w R s i T->Tr w B T ns own now->Gl w B E->B<=R->i < s.size->s.size<=100000->WF ns own->WT ns->up < ns.length->kdAt ns up=1->d<=8->ns.length+own.length+(s.size - i)<=700001->2 * (s.size - i)<=f →
 Calls Tryz.prog 105 #[.pointer (some ⟨R,0,none⟩),.int .i64 (up:Nat),.int .i64 (d:Nat)] w (VlPost B R T s E own now (lst s.data.toList f (i+1) up d ns) w)
end Go.Proofs.YtbgnflcebafjjaaGreatDoor
