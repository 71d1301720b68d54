import Derived.Test.YtbbmbnpebiakbaaGreatDoorM11
import Derived.Test.YtbbmbnpebiakbaaGreatDoorM02
import Derived.Test.YtbbmbnpebiakbaaGreatDoorM10
import Derived.WalkLawsBesides
namespace Go.Proofs.YtbbmbnpebiakbaaGreatDoor
open Go.RowKit
set_option linter.unusedVariables false
set_option maxRecDepth 100000 in
set_option maxHeartbeats 12800000 in
theorem wrongEntry_at (a:Addr) (cap:Nat) (L:List En) (i:Nat) (w:World) (hi:i < L.length) (hcap:L.length<=cap) (h:∀j (hj:j < L.length),EnAt w (a.add (j * 4)) L[j]) (hL:L.length<=1048576) (hV:∀x ∈ L,x.nm.size < 2 ^ 60/\x.ve.size < 2 ^ 60/\x.dg.size < 2 ^ 46) (hN:∀x ∈ L,x.nd.length<=1048576) (hS:∀x ∈ L,∀y ∈ x.nd,y.size < 2 ^ 60) :
  Calls Tryz.prog 20 #[.slice (some a) L.length cap,.int .i64 i] w fun e w'=>e=.returned (.int .i64 (errE L i))/\w.grownBy w' none:=by
 rw [errE_at L i hi]
 have HEN:Hid (∀w',w.grownBy w' none->EnS w' (.slice (some a) L.length cap) L):=fun w' hg=>Or.inr ⟨a,cap,rfl,hcap,fun j hj=>(h j hj).grow hg⟩
 have CE:Hid (∀n w',w.grownBy w' none->Calls Tryz.prog 29 #[.slice (some a) L.length cap,.string n] w' fun e w''=>∃c:Int,e=.returned (.int .i64 c)/\EntI L n c/\w'.grownBy w'' none):=fun n w' hg=>entryOf_any _ L n w' (HEN.out w' hg) hL
 obtain ⟨x,hx⟩:∃x,L[i]=x:=⟨_,rfl⟩
 have hmem:x ∈ L:=by rw [<-hx];exact List.getElem_mem _
 obtain ⟨e0,e1,e2,sv,e3,hsv⟩:EnAt w (a.add (i * 4)) x:=by rw [<-hx];exact h i hi
 have HLT:Hid (∀c,EntI L x.nm c->(c < (i:Int) ↔ hasNm (L.take i) x.nm=true)):=fun c hc=>by
  rw [<-hx] at hc ⊢
  exact EntI.lt hi hc
 rw [hx]
 have H1:Hid (TxS w sv x.nd):=hsv
 obtain ⟨so,sc,rfl⟩:=txs_slice hsv
 have CM:Hid (∀w,Calls Tryz.prog 41 #[.string x.nm] w fun e w'=>e=.returned (.bool (nameB x.nm))/\w'=w):=fun w=>rname_any x.nm w (by have:=(hV x hmem).1;omega)
 have CV:Hid (∀w,Calls Tryz.prog 42 #[.string x.ve] w fun e w'=>e=.returned (.bool (okV x.ve))/\w.grownBy w' none):=fun w=>isVersion_any x.ve w (by have:=(hV x hmem).2.1;omega)
 have CD:Hid (∀w,Calls Tryz.prog 43 #[.string x.dg] w fun e w'=>e=.returned (.bool (digB x.dg))/\w'=w):=fun w=>isDigest_any x.dg w (by have:=(hV x hmem).2.2;unfold maxLen;omega)
 have CN:Hid (∀y ∈ x.nd,∀w,Calls Tryz.prog 41 #[.string y] w fun e w'=>e=.returned (.bool (nameB y))/\w'=w):=fun y hy w=>rname_any y w (by have:=hS x hmem y hy;omega)
 have hnl:=hN x hmem
 have hil:i<=1048576:=by omega
 have HG0:Hid (∀k (hk:k < x.nd.length),nameB x.nd[k]=false->goodE x=false):=fun k hk h=>by
  show goodE x=false
  unfold goodE
  rw [Bool.and_eq_false_iff]
  right
  rw [List.all_eq_false]
  exact ⟨x.nd[k],List.getElem_mem _,by rw [h];simp⟩
 have HG1:Hid (x.nd.all nameB=true->goodE x=(nameB x.nm && okV x.ve && digB x.dg)):=fun h=>by
  show goodE x=_
  unfold goodE
  rw [h,Bool.and_true]
 have HG2:Hid ((nameB x.nm && okV x.ve && digB x.dg)=false->goodE x=false):=fun h=>by
  show goodE x=false
  unfold goodE
  rw [h,Bool.false_and]
 clear h hV hN hS hmem hx hsv
 obtain ⟨R,hR⟩:∃R,faultE L i x=R:=⟨_,rfl⟩
 rw [hR]
 by_cases hm:50<=i
 ·have HR:Hid (R=4):=hR.symm.trans (fe_many (Or.inl hm))
  clear hR
  go_enter Tryz.func20,Tryz.ntmps20
  go_wp2
  go_ret
  exact ⟨ret_int HR.out.symm,gb_alloc (gb_refl w none) _⟩
 by_cases hn:20 < x.nd.length
 ·have HR:Hid (R=4):=hR.symm.trans (fe_many (Or.inr hn))
  clear hR
  go_enter Tryz.func20,Tryz.ntmps20
  go_wp2
  go_ret
  exact ⟨ret_int HR.out.symm,gb_alloc (gb_refl w none) _⟩
 have hmany:¬ (50<=i\/20 < x.nd.length):=by omega
 have HT:Hid (goodE x=false->R=2):=fun h=>hR.symm.trans (fe_text hmany h)
 have HQ:Hid (goodE x=true->R=if hasNm (L.take i) x.nm=true\/twS x.nd x.nd.length=true then 5 else if x.nd.all (hasNm L)=true then 0 else 6):=fun h=>hR.symm.trans (fe_rest hmany h)
 obtain ⟨gd,hgd⟩:∃g,goodE x=g:=⟨_,rfl⟩
 rw [hgd] at HT HQ HG0 HG1 HG2
 obtain ⟨q1,hq1⟩:∃q,nameB x.nm=q:=⟨_,rfl⟩
 obtain ⟨q2,hq2⟩:∃q,okV x.ve=q:=⟨_,rfl⟩
 obtain ⟨q3,hq3⟩:∃q,digB x.dg=q:=⟨_,rfl⟩
 rw [hq1] at CM HG1 HG2
 rw [hq2] at CV HG1 HG2
 rw [hq3] at CD HG1 HG2
 obtain ⟨xn,xv,xd,N⟩:=x
 simp only [] at CM CV CD CN H1 HG0 HG1 HG2 HQ HLT e0 e1 e2 e3 hn hnl
 clear hR hmany hgd hq1 hq2 hq3
 obtain ⟨A,hA⟩:∃A,w.heap.size=A:=⟨_,rfl⟩
 go_enter Tryz.func20,Tryz.ntmps20
 go_wp2_with (first | (go_at_call 41;refine (CM.out _).mono ?_;rintro e w' ⟨rfl,rfl⟩) | (go_at_call 42;refine (CV.out _).mono ?_))
 rintro e w1 ⟨rfl,hg1⟩
 obtain ⟨c0,c1,c2,c3⟩:=en_block ((hg1.block w.heap.size (by simp) (by simp)).trans (heap_alloc_new w _))
 have HG:Hid (w.grownBy w1 none):=gb_trans (gb_alloc (gb_refl w none) _) hg1
 try rw [hA]
 rw [hA] at c0 c1 c2 c3
 clear hg1 e0 e1 e2 e3 hA
 have HC:Hid (w1.cell? ⟨A,0,none⟩=some (.string xn)/\w1.cell? ⟨A,3,none⟩=some (.slice so N.length sc)):=⟨c0,c3⟩
 go_wp2_with (first | (go_at_call 43;refine (CD.out _).mono ?_))
 rintro e w' ⟨rfl,rfl⟩
 clear c0 c1 c2 c3
 cases q1 with
 | false =>
  go_wp2
  go_ret
  exact ⟨ret_int (HT.out (HG2.out (by trivial))).symm,HG.out⟩
 | true =>
 cases q2 with
 | false =>
  go_wp2
  go_ret
  exact ⟨ret_int (HT.out (HG2.out (by trivial))).symm,HG.out⟩
 | true =>
 cases q3 with
 | false =>
  go_wp2
  go_ret
  exact ⟨ret_int (HT.out (HG2.out (by trivial))).symm,HG.out⟩
 | true =>
 go_wp2
 go_loopw [9,10] (fun ve vk wr=>∃(k:Nat) (e:Int),vk=.int .i64 k/\ve=.int .i64 e/\k<=N.length/\ErrSo L N k false e/\(N.take k).all nameB=true/\w'.grownBy wr none) (fun _ vk _=>N.length - (intOf vk).toNat)
 case atStart=>exact ⟨0,0,rfl,rfl,Nat.zero_le _,⟨Or.inl rfl,fun _ _=>by simp⟩,rfl,gb_refl _ _⟩
 case round =>
  obtain ⟨k,e,rfl,rfl,hk,herr,hall,hg⟩:=hrel
  have HERR:Hid (ErrSo L N k false e):=herr
  have HALL:Hid ((N.take k).all nameB=true):=hall
  have HGW:Hid (w'.grownBy wr none):=hg
  have HG1':Hid (w.grownBy wr none):=gb_trans HG.out hg
  have f0:=hg.cell HC.out.1 (by simp)
  have f3:=hg.cell HC.out.2 (by simp)
  by_cases hlt:k < N.length
  ·obtain ⟨b,rfl,hcv,hat⟩:=txs_at (H1.out.grow HG.out) hlt
   have g0:=hg.cell (hat k hlt) (by simp)
   obtain ⟨y,hy⟩:∃y,N[k]=y:=⟨_,rfl⟩
   rw [hy] at g0
   have HY:Hid (N[k]=y):=hy
   have CY:Hid (∀w,Calls Tryz.prog 41 #[.string y] w fun e w'=>e=.returned (.bool (nameB y))/\w'=w):=fun w=>CN.out y (by rw [<-hy];exact List.getElem_mem _) w
   have HF:Hid (nameB y=false->R=2):=fun h=>HT.out (HG0.out k hlt (by rw [hy];exact h))
   have HNX:Hid (nameB y=true->(N.take (k+1)).all nameB=true):=fun h=>by
    rw [List.take_succ_eq_append_getElem hlt,List.all_append,HALL.out,hy]
    simp [h]
   obtain ⟨q,hq⟩:∃q,nameB y=q:=⟨_,rfl⟩
   rw [hq] at CY HF HNX
   have HCELL:Hid (∀wz,w'.grownBy wz none->wz.cell? ⟨A,3,none⟩=some (.slice (some b) N.length sc)/\∀j (hj:j < N.length),wz.cell? (b.add j)=some (.string N[j])):=fun wz hz=>⟨hz.cell HC.out.2 (by simp),fun j hj=>hz.cell (hat j hj) (by simp)⟩
   clear herr hall hg hat hy hq
   cases q with
   | false =>
    go_wp2_with (first | (go_at_call 41;refine (CY.out _).mono ?_;rintro e w' ⟨rfl,rfl⟩))
    go_ret
    exact ⟨ret_int (HF.out (by trivial)).symm,HG1'.out⟩
   | true =>
    go_wp2_with (first | (go_at_call 41;refine (CY.out _).mono ?_;rintro e w'' ⟨rfl,rfl⟩))
    clear f0 f3 g0
    go_loopw [9,12] (fun ve vj wj=>∃(j:Nat) (e:Int),vj=.int .i64 j/\ve=.int .i64 e/\j<=k/\ErrSo L N k ((N.take j).any (fun z=>decide (z=y))) e/\w'.grownBy wj none) (fun _ vj _=>k - (intOf vj).toNat)
    case atStart=>exact ⟨0,e,rfl,rfl,Nat.zero_le _,HERR.out,HGW.out⟩
    case round =>
     obtain ⟨j,e2,rfl,rfl,hj,herr2,hgj⟩:=hrel
     have HE2:Hid (ErrSo L N k ((N.take j).any (fun z=>decide (z=y))) e2):=herr2
     have HGJ:Hid (w'.grownBy wr none):=hgj
     have HGJ2:Hid (w.grownBy wr none):=gb_trans HG.out hgj
     obtain ⟨p3,pall⟩:=HCELL.out wr hgj
     have p1:=pall k hlt
     rw [HY.out] at p1
     by_cases hjk:j < k
     ·have hjl:j < N.length:=by omega
      obtain ⟨z,hz⟩:∃z,N[j]=z:=⟨_,rfl⟩
      have p0:=pall j hjl
      rw [hz] at p0
      have HAN:Hid ((N.take (j+1)).any (fun z=>decide (z=y))=((N.take j).any (fun z=>decide (z=y)) || decide (z=y))):=by
       show _=_
       rw [any_snocT N y j hjl,hz]
      clear herr2 hgj pall hz
      by_cases hzy:z=y
      ·have q:=txt_eq hzy
       have HV:Hid (ErrSo L N k ((N.take (j+1)).any (fun z=>decide (z=y))) 5):=⟨Or.inr (Or.inl rfl),fun _ h=>by rw [HAN.out] at h;simp [hzy] at h⟩
       clear hzy
       go_wp2
       go_quiet (fail)
       go_wp2
       go_roundw
       case rel=>exact ⟨j+1,5,by go_num,rfl,by omega,HV.out,gb_drew HGJ.out _⟩
       case measure=>simp [intOf];omega
      ·have q:=txt_ne hzy
       have HV:Hid (ErrSo L N k ((N.take (j+1)).any (fun z=>decide (z=y))) e2):=by
        show ErrSo _ _ _ _ _
        rw [HAN.out,decide_eq_false hzy,Bool.or_false]
        exact HE2.out
       clear hzy
       go_wp2
       go_quiet (fail)
       go_wp2
       go_roundw
       case rel=>exact ⟨j+1,e2,by go_num,rfl,by omega,HV.out,gb_drew HGJ.out _⟩
       case measure=>simp [intOf];omega
     ·have hje:j=k:=by omega
      subst hje
      have HE3:Hid (ErrSo L N j ((N.take j).any (fun z=>decide (z=N[j]))) e2):=by
       show ErrSo _ _ _ _ _
       rw [HY.out]
       exact HE2.out
      clear herr2 hgj hj pall
      by_cases he:e2=0
      ·subst he
       go_wp2_with (first | (go_at_call 29;refine (CE.out _ _ HGJ2.out).mono ?_))
       rintro e w4 ⟨c,rfl,hc,hg4⟩
       have HV:Hid (ErrSo L N (j+1) false (if c < 0 then 6 else 0)):=ErrSo.next0 hlt HE3.out (by rw [HY.out];exact hc)
       have HG4:Hid (w'.grownBy w4 none):=gb_trans HGJ.out hg4
       clear hc hg4
       by_cases hc0:c < 0
       ·have HV2:Hid (ErrSo L N (j+1) false 6):=by have:=HV.out;rwa [if_pos hc0] at this
        go_wp2
        go_roundw
        case rel=>exact ⟨j+1,6,by go_num,rfl,by omega,HV2.out,HNX.out (by trivial),HG4.out⟩
        case measure=>simp [intOf];omega
       ·have HV2:Hid (ErrSo L N (j+1) false 0):=by have:=HV.out;rwa [if_neg hc0] at this
        go_wp2
        go_roundw
        case rel=>exact ⟨j+1,0,by go_num,rfl,by omega,HV2.out,HNX.out (by trivial),HG4.out⟩
        case measure=>simp [intOf];omega
      ·have he1:(e2 == 0)=false:=by simp [he]
       have HV:Hid (ErrSo L N (j+1) false e2):=ErrSo.next1 hlt he HE3.out
       clear he
       go_wp2
       go_roundw
       case rel=>exact ⟨j+1,e2,by go_num,rfl,by omega,HV.out,HNX.out (by trivial),HGJ.out⟩
       case measure=>simp [intOf];omega
  ·have hke:k=N.length:=by omega
   have HRR:Hid (R=if hasNm (L.take i) xn=true\/twS N N.length=true then 5 else if N.all (hasNm L)=true then 0 else 6):=HQ.out (by
    rw [hke,List.take_length] at hall
    rw [HG1.out hall];rfl)
   have HER:Hid (twS N N.length=false->e=if N.all (hasNm L)=true then 0 else 6):=fun h=>by
    have:=herr.2
    rw [hke,List.take_length] at this
    exact this h rfl
   have HEC:Hid (e=0\/e=5\/e=6):=herr.1
   clear herr hall hg hke hk
   go_wp2_with (first | (go_at_call 29;refine (CE.out _ _ HG1'.out).mono ?_))
   rintro e' w4 ⟨c,rfl,hc,hg4⟩
   have HG4:Hid (w'.grownBy w4 none):=gb_trans HGW.out hg4
   obtain ⟨t0,ht0⟩:∃t,decide (c < (i:Int))=t:=⟨_,rfl⟩
   have HT0:Hid (hasNm (L.take i) xn=t0):=by
    show _=_
    rw [<-ht0,Bool.eq_iff_iff,<-HLT.out c hc]
    simp
   clear hc hg4 f0 f3
   go_wp2
   try rw [ht0]
   go_loopw [13,14] (fun vt vk wr=>∃k:Nat,vk=.int .i64 k/\vt=.bool (t0 || twS N k)/\k<=N.length/\w'.grownBy wr none) (fun _ vk _=>N.length - (intOf vk).toNat)
   case atStart=>exact ⟨0,rfl,by simp [twS],Nat.zero_le _,HG4.out⟩
   case round =>
    obtain ⟨k,rfl,rfl,hk,hg⟩:=hrel
    have HGW2:Hid (w'.grownBy wr none):=hg
    have HGW3:Hid (w.grownBy wr none):=gb_trans HG.out hg
    have f3:=hg.cell HC.out.2 (by simp)
    clear ht0
    by_cases hlt:k < N.length
    ·obtain ⟨b,rfl,hcv,hat⟩:=txs_at (H1.out.grow HG.out) hlt
     obtain ⟨y,hy⟩:∃y,N[k]=y:=⟨_,rfl⟩
     have HY:Hid (N[k]=y):=hy
     have HCELL:Hid (∀wz,w'.grownBy wz none->wz.cell? ⟨A,3,none⟩=some (.slice (some b) N.length sc)/\∀j (hj:j < N.length),wz.cell? (b.add j)=some (.string N[j])):=fun wz hz=>⟨hz.cell HC.out.2 (by simp),fun j hj=>hz.cell (hat j hj) (by simp)⟩
     obtain ⟨t1,ht1⟩:∃t,(t0 || twS N k)=t:=⟨_,rfl⟩
     have HTS:Hid ((t0 || twS N (k+1))=(t1 || (N.take k).any (fun z=>decide (z=y)))):=by
      show _=_
      rw [tws_step N k hlt,<-Bool.or_assoc,ht1,hy]
     try rw [ht1]
     clear hg hat hy ht1
     go_wp2
     clear f3
     go_loopw [13,15] (fun vt vj wj=>∃j:Nat,vj=.int .i64 j/\vt=.bool (t1 || (N.take j).any (fun z=>decide (z=y)))/\j<=k/\w'.grownBy wj none) (fun _ vj _=>k - (intOf vj).toNat)
     case atStart=>exact ⟨0,rfl,by simp,Nat.zero_le _,HGW2.out⟩
     case round =>
      obtain ⟨j,rfl,rfl,hj,hgj⟩:=hrel
      have HGJ:Hid (w'.grownBy wr none):=hgj
      obtain ⟨p3,pall⟩:=HCELL.out wr hgj
      have p1:=pall k hlt
      rw [HY.out] at p1
      by_cases hjk:j < k
      ·have hjl:j < N.length:=by omega
       obtain ⟨z,hz⟩:∃z,N[j]=z:=⟨_,rfl⟩
       have p0:=pall j hjl
       rw [hz] at p0
       obtain ⟨t2,ht2⟩:∃t,(t1 || (N.take j).any (fun z=>decide (z=y)))=t:=⟨_,rfl⟩
       have HNX2:Hid ((t1 || (N.take (j+1)).any (fun z=>decide (z=y)))=(t2 || decide (z=y))):=by
        show _=_
        rw [any_snocT N y j hjl,<-Bool.or_assoc,ht2,hz]
       try rw [ht2]
       clear hgj pall hz ht2
       cases t2 with
       | true =>
        go_wp2
        go_quiet (fail)
        go_wp2
        go_roundw
        case rel=>exact ⟨j+1,by go_num,by rw [HNX2.out];rfl,by omega,gb_drew HGJ.out _⟩
        case measure=>simp [intOf];omega
       | false =>
        by_cases hzy:z=y
        ·have q:=txt_eq hzy
         have HV:Hid ((t1 || (N.take (j+1)).any (fun z=>decide (z=y)))=true):=by
          show _=_
          rw [HNX2.out];simp [hzy]
         clear hzy
         go_wp2
         go_quiet (fail)
         go_wp2
         go_roundw
         case rel=>exact ⟨j+1,by go_num,by rw [HV.out],by omega,gb_drew HGJ.out _⟩
         case measure=>simp [intOf];omega
        ·have q:=txt_ne hzy
         have HV:Hid ((t1 || (N.take (j+1)).any (fun z=>decide (z=y)))=false):=by
          show _=_
          rw [HNX2.out];simp [hzy]
         clear hzy
         go_wp2
         go_quiet (fail)
         go_wp2
         go_roundw
         case rel=>exact ⟨j+1,by go_num,by rw [HV.out],by omega,gb_drew HGJ.out _⟩
         case measure=>simp [intOf];omega
      ·have hje:j=k:=by omega
       subst hje
       clear hgj hj pall
       go_wp2
       go_roundw
       case rel=>exact ⟨j+1,by go_num,by rw [HTS.out],by omega,HGJ.out⟩
       case measure=>simp [intOf];omega
    ·have hke:k=N.length:=by omega
     subst hke
     have HT0':=HT0.out
     rw [HT0'] at HRR
     obtain ⟨t3,ht3⟩:∃t,(t0 || twS N N.length)=t:=⟨_,rfl⟩
     have HTW:Hid ((t0 || twS N N.length)=t3):=ht3
     try rw [ht3]
     clear hg hk HT0' ht3
     cases t3 with
     | true =>
      have HR:Hid (R=5):=HRR.out.trans (if_pos (by
       rcases Bool.or_eq_true_iff.1 HTW.out with h | h
       ·exact Or.inl h
       ·exact Or.inr h))
      go_wp2
      go_ret
      exact ⟨ret_int HR.out.symm,HGW3.out⟩
     | false =>
      have HR:Hid (R=e):=by
       obtain ⟨h1,h2⟩:=Bool.or_eq_false_iff.1 HTW.out
       show R=e
       rw [HRR.out,HER.out h2,if_neg (by rw [h1,h2];simp)]
      go_wp2
      go_ret
      exact ⟨ret_int HR.out.symm,HGW3.out⟩
open Go.RowKit
set_option linter.unusedVariables false
def cT (a b:ByteArray):Int:=Lib.compareBytes a.data.toList b.data.toList
theorem good_T:Good cT:=good_pull good_bytes (fun a:ByteArray=>a.data.toList)
theorem cT_eq {a b:ByteArray} (h:cT a b=0):a=b:=by
 unfold cT at h
 cases h1:Op.bytesLess a.data.toList b.data.toList with
 | true=>rw [(less_cmp _ _).1 h1] at h;cases h
 | false =>
  cases h2:(a.data.toList == b.data.toList) with
  | true=>exact ByteArray.ext (Array.ext' (by simpa using h2))
  | false=>rw [(less_cmp _ _).2.1 h1 h2] at h;cases h
theorem cT_less {a b:ByteArray} (h:cT a b < 0):Op.bytesLess a.toList b.toList=true:=by
 rw [Lib.toList_data,Lib.toList_data]
 cases h1:Op.bytesLess a.data.toList b.data.toList with
 | true=>rfl
 | false =>
  exfalso
  unfold cT at h
  cases h2:(a.data.toList == b.data.toList) with
  | true=>rw [(less_cmp _ _).2.2 h2] at h;cases h
  | false=>rw [(less_cmp _ _).2.1 h1 h2] at h;cases h
theorem cT_not {a b:ByteArray} (h:¬ cT a b < 0):Op.bytesLess a.toList b.toList=false:=by
 cases h1:Op.bytesLess a.toList b.toList with
 | false=>rfl
 | true=>exact absurd (show cT a b < 0 by unfold cT;rw [less_m1 h1];decide) h
theorem cT_flip {a b:ByteArray} (h:¬ cT a b < 0):cT b a<=0:=by
 have:=good_T.anti a b
 omega
theorem cT_trans {a b c:ByteArray} (h1:cT a b<=0) (h2:cT b c<=0):cT a c<=0:=(good_T.trans a b c h1 h2).1
def RiseT (S:List ByteArray):Prop:=S.Pairwise (fun a b=>cT a b<=0)
theorem perm_one {α:Type} (r:α->α->Prop):∀(A B:List α),A.Perm B->A.Pairwise r->B.Pairwise r->(∀a ∈ A,∀b ∈ A,r a b->r b a->a=b)->A=B
 | [],B,hp,_,_,_=>(List.Perm.nil_eq hp)
 | a :: A,[],hp,_,_,_=>by have:=hp.length_eq;simp at this
 | a :: A,b :: B,hp,hA,hB,hu=>by
  have hab:a=b:=by
   have h1:a ∈ b :: B:=hp.subset (by simp)
   have h2:b ∈ a :: A:=hp.symm.subset (by simp)
   rcases List.mem_cons.1 h1 with e | h1
   ·exact e
   ·rcases List.mem_cons.1 h2 with e | h2
    ·exact e.symm
    ·exact hu a (by simp) b (by simp [h2]) ((List.pairwise_cons.1 hA).1 b h2) ((List.pairwise_cons.1 hB).1 a h1)
  subst hab
  have hp':A.Perm B:=(List.perm_cons a).1 hp
  rw [perm_one r A B hp' (List.pairwise_cons.1 hA).2 (List.pairwise_cons.1 hB).2 (fun x hx y hy=>hu x (by simp [hx]) y (by simp [hy]))]
theorem rise_one {S T:List ByteArray} (hp:S.Perm T) (h1:RiseT S) (h2:RiseT T):S=T :=
 perm_one _ S T hp h1 h2 (fun a _ b _ r1 r2=>cT_eq (by have:=good_T.anti a b;omega))
theorem rise_mid {A B:List ByteArray} {x:ByteArray} (h:RiseT (A++B)) (hb:∀b ∈ B,cT x b < 0) (hl:∀A0 y,A=A0++[y]->cT y x<=0):RiseT (A++x :: B):=by
 unfold RiseT at *
 rw [List.pairwise_append] at h ⊢
 obtain ⟨h1,h2,h3⟩:=h
 have hax:∀a ∈ A,cT a x<=0:=by
  rcases List.eq_nil_or_concat A with rfl | ⟨A0,y,rfl⟩
  ·intro a ha;cases ha
  ·rw [List.concat_eq_append] at *
   have hy:=hl A0 y rfl
   intro a ha
   rcases List.mem_append.1 ha with ha | ha
   ·rw [List.pairwise_append] at h1
    exact cT_trans (h1.2.2 a ha y (by simp)) hy
   ·simp at ha;rw [ha];exact hy
 refine ⟨h1,List.pairwise_cons.2 ⟨fun b hb2=>Int.le_of_lt (hb b hb2),h2⟩,fun a ha b hb2=>?_⟩
 rcases List.mem_cons.1 hb2 with rfl | hb2
 ·exact hax a ha
 ·exact h3 a ha b hb2
def SrtPost (L:List ByteArray) (w:World) (e:Ending) (w':World):Prop:=∃(v:Value) (S:List ByteArray),e=.returned v/\w'.ownsRow w.heap.size 9 1 v S.length (S.map Value.string)/\S.Perm L/\RiseT S/\Below w.heap.size w w'
open Go.RowKit
set_option linter.unusedVariables false
theorem hown_set {w:World} {base:Nat} {e:TypeId} {size:Nat} {g n cap:Nat} {xs:List Value} (h:w.ownsRow base e size (.slice (some ⟨g,0,none⟩) n cap) n xs) (o:Nat) (x:Value) (ho:o < n * size):(w.setCell ⟨g,o,none⟩ x).ownsRow base e size (.slice (some ⟨g,0,none⟩) n cap) n (xs.set o x):=by
 refine ⟨by rw [List.length_set];exact h.1,?_⟩
 rcases h.2 with ⟨h1,_⟩ | ⟨g',cap',cur,h1,hb,hg,hn,hm,hs,ht⟩
 ·cases h1
 ·cases h1
  refine Or.inr ⟨g,cap,cur.setIfInBounds o x,rfl,hb,?_,hn,hm,by simpa using hs,?_⟩
  ·simp [World.setCell,Array.getElem?_modify,hg]
  ·rw [Array.toList_setIfInBounds,List.take_set,ht]
theorem hzero_off (g k:Nat):(⟨g,0,none⟩:Addr).add k=⟨g,k,none⟩:=by
 unfold Addr.add
 split
 ·rename_i h;rw [h]
 ·simp
theorem hown_f {w:World} {base:Nat} {e:TypeId} {size gs n cap:Nat} {xs:List Value} (h:w.ownsRow base e size (.slice (some ⟨gs,0,none⟩) n cap) n xs) (o:Nat):w.frozen? ⟨gs,o,none⟩=false:=by
 rcases h.2 with ⟨h1,_⟩ | ⟨g',cap',cur,h1,hb,hg,_⟩
 ·cases h1
 ·cases h1;exact Lib.frozen_of_heap hg o
theorem swap_set (P:List Value) (u v:Value) (Q:List Value):((P++u :: v :: Q).set (P.length+1) u).set P.length v=P++v :: u :: Q:=by
 rw [List.set_append_right _ _ (by omega),show P.length+1 - P.length=1 by omega]
 rw [List.set_append_right _ _ (by omega),Nat.sub_self]
 rfl
theorem below_set {B:Nat} {a w:World} (h:Below B a w) {g:Nat} (hg:B<=g) (o:Nat) (v:Value):Below B a (w.setCell ⟨g,o,none⟩ v) :=
 ⟨h.os,h.tape,h.output,by simpa [World.setCell] using h.size,fun k hk=>by rw [<-h.block k hk];exact heap_setCell_other w _ k v (by simp;omega)⟩
theorem own_stay {w w':World} {base:Nat} {e:TypeId} {size:Nat} {v:Value} {n:Nat} {xs:List Value} (h:w.ownsRow base e size v n xs) (hg:w.grownBy w' none):w'.ownsRow base e size v n xs :=
 h.kept hg (by cases v.ownBlock <;> simp)
theorem srow_cell {w:World} {base g n cap:Nat} {A B:List ByteArray} {x:ByteArray} (h:w.ownsRow base 9 1 (.slice (some ⟨g,0,none⟩) n cap) n ((A++x :: B).map Value.string)):w.cell? ⟨g,A.length,none⟩=some (.string x):=by
 have:=h.cells (g:=g) rfl A.length (.string x) (by simp)
 rw [hzero_off] at this
 exact this
set_option maxRecDepth 100000 in
set_option maxHeartbeats 6400000 in
theorem sorted_at (a:Addr) (c:Nat) (L:List ByteArray) (w:World) (hL:L.length<=1048576) (hpos:0 < L.length) (h:∀j (hj:j < L.length),w.cell? (a.add j)=some (.string L[j])) :
  Calls Tryz.prog 30 #[.slice (some a) L.length c] w (SrtPost L w):=by
 have hinfo2:=infoTx
 obtain ⟨j0,hj0,hjj⟩:=Option.map_eq_some_iff.1 hinfo2
 simp only [Prod.mk.injEq] at hjj
 obtain ⟨hy0,hy1,hyb⟩:=hjj
 clear hinfo2
 have hnews:∀j u,(L.map Value.string)[j]?=some u->w.cell? (a.add j)=some u:=fun j u hu=>by
  obtain ⟨hj,rfl⟩:=List.getElem?_eq_some_iff.1 hu
  rw [List.getElem_map];exact h j (by simpa using hj)
 obtain ⟨n,hn⟩:∃n,L.length=n:=⟨_,rfl⟩
 have HN:Hid (L.length=n):=hn
 rw [hn] at hL hpos ⊢
 clear h
 go_enter Tryz.func30,Tryz.ntmps30
 go_wp2_with (first | (at_builtin;refine wpList_append_lies _ rfl _ _ 40 rfl w.heap.size 9 j0 _ 1 16 Tryz.underlying40 hj0 hy0 hy1 hyb rfl (by decide) (.slice none 0 0) 0 [] rfl (World.ownsRow_nil _ _ _ _) a n c (L.map Value.string) rfl (by rw [List.length_map,hn,Nat.mul_one]) hnews (txt_one _) hpos (by unfold maxLen;omega) (by omega) (Nat.le_refl _) _ rfl ?_;intro g cap1 w1 hown1 hgrow1 hat1 hlt1))
 simp only [Nat.zero_add] at hown1 ⊢
 have HO1:Hid (w1.ownsRow w.heap.size 9 1 (.slice (some ⟨g,0,none⟩) n cap1) n (L.map Value.string)):=hown1
 have HB1:Hid (Below w.heap.size w w1):=⟨hgrow1.os,hgrow1.tape,hgrow1.output,hgrow1.size,fun k hk=>hgrow1.block k hk (by simp [Value.ownBlock])⟩
 have HCP:Hid (n<=cap1):=by
  rcases hown1.2 with ⟨h1,_⟩ | ⟨g',cap',cur,hv,_,_,h3,_⟩
  ·cases h1
  ·cases hv;exact h3
 clear hown1 hgrow1 hat1 hlt1 hnews hn
 have hcp:=HCP.out
 go_wp2
 go_loopw [4] (fun vi wr=>∃(i:Nat) (P:List ByteArray),vi=.int .i64 i/\1<=i/\i<=n/\P.Perm (L.take i)/\RiseT P/\wr.ownsRow w.heap.size 9 1 (.slice (some ⟨g,0,none⟩) n cap1) n ((P++L.drop i).map Value.string)/\Below w.heap.size w wr) (fun vi _=>n - (intOf vi).toNat)
 case atStart=>exact ⟨1,L.take 1,rfl,Nat.le_refl _,hpos,List.Perm.refl _,by
  unfold RiseT
  match L,HN.out with
  | [],h=>exact List.Pairwise.nil
  | x :: r,h=>simp,by rw [List.take_append_drop];exact HO1.out,HB1.out⟩
 case round =>
  obtain ⟨i,P,rfl,hi1,hi,hp,hs,hown,hb⟩:=hrel
  have HP:Hid (P.Perm (L.take i)/\RiseT P):=⟨hp,hs⟩
  have HB:Hid (Below w.heap.size w wr):=hb
  by_cases hlt:i < n
  ·have hlt':i < L.length:=by rw [HN.out];exact hlt
   obtain ⟨x,hx⟩:∃x,L[i]=x:=⟨_,rfl⟩
   have HPL:Hid (P.length=i):=by
    show _=_
    rw [hp.length_eq,List.length_take];omega
   have HTK:Hid (L.take (i+1)=L.take i++[x]):=by
    show _=_
    rw [List.take_succ_eq_append_getElem hlt',hx]
   obtain ⟨Z,hZ⟩:∃Z,L.drop (i+1)=Z:=⟨_,rfl⟩
   have HZ:Hid (L.drop (i+1)=Z):=hZ
   have HR0:Hid (wr.ownsRow w.heap.size 9 1 (.slice (some ⟨g,0,none⟩) n cap1) n ((P++x :: ([]++Z)).map Value.string)):=by
    show World.ownsRow _ _ _ _ _ _ _
    rw [List.nil_append,<-hZ,<-hx,<-List.drop_eq_getElem_cons hlt']
    exact hown
   clear hp hs hown hb hx hZ
   go_wp2
   go_loopw [5] (fun vk wk=>∃A B:List ByteArray,vk=.int .i64 (A.length:Int)/\A++B=P/\(∀b ∈ B,cT x b < 0)/\wk.ownsRow w.heap.size 9 1 (.slice (some ⟨g,0,none⟩) n cap1) n ((A++x :: (B++Z)).map Value.string)/\Below w.heap.size w wk) (fun vk _=>(intOf vk).toNat)
   case atStart=>exact ⟨P,[],by rw [HPL.out],by simp,by simp,HR0.out,HB.out⟩
   case round =>
    obtain ⟨A,B,rfl,hAB,hBn,hrow,hbk⟩:=hrel
    have HRW:Hid (wr.ownsRow w.heap.size 9 1 (.slice (some ⟨g,0,none⟩) n cap1) n ((A++x :: (B++Z)).map Value.string)):=hrow
    have HBK:Hid (Below w.heap.size w wr):=hbk
    have HBN:Hid (∀b ∈ B,cT x b < 0):=hBn
    have HAB:Hid (A++B=P):=hAB
    have HOUT:Hid ((∀A0 y,A=A0++[y]->cT y x<=0)->(A++x :: B).Perm (L.take (i+1))/\RiseT (A++x :: B)):=fun hlast=>by
     refine ⟨?_,rise_mid (by rw [HAB.out];exact HP.out.2) HBN.out hlast⟩
     have h1:(A++x :: B).Perm (x :: (A++B)):=List.perm_middle
     rw [HAB.out] at h1
     rw [HTK.out]
     exact h1.trans ((HP.out.1.cons x).trans (List.perm_append_singleton x _).symm)
    have HAE:Hid ((A++x :: (B++Z)).map Value.string=((A++x :: B)++L.drop (i+1)).map Value.string):=by
     show _=_
     rw [HZ.out];simp
    clear hAB hBn hrow hbk
    rcases List.eq_nil_or_concat A with rfl | ⟨A0,y,rfl⟩
    ·have HDN:=HOUT.out (fun A0 y e=>by simp at e)
     have HDO:Hid (([]++x :: B).Perm (L.take (i+1))/\RiseT ([]++x :: B)):=HDN
     clear HDN HOUT
     have k0:(([]:List ByteArray).length:Int)=0:=rfl
     rw [k0]
     clear k0
     have hdec:decide ((0:Int) < 0)=false:=by decide
     go_wp2
     go_quiet (fail)
     go_wp2
     go_roundw
     case rel=>exact ⟨i+1,[]++x :: B,by go_num,by omega,by omega,HDO.out.1,HDO.out.2,by rw [<-HAE.out];exact own_stay HRW.out (gb_drew (gb_refl _ none) _),below_drewN HBK.out _⟩
     case measure=>simp [intOf];omega
    ·simp only [List.concat_eq_append] at HRW HAB HOUT HAE ⊢
     have d1:wr.cell? ⟨g,A0.length+1,none⟩=some (.string x):=by
      have:=srow_cell HRW.out
      simpa using this
     have d2:wr.cell? ⟨g,A0.length,none⟩=some (.string y):=by
      have h1:=HRW.out
      rw [List.append_assoc] at h1
      exact srow_cell (A:=A0) (x:=y) (B:=x :: (B++Z)) h1
     have HLN:Hid (A0.length+1<=i):=by
      have h1:=congrArg List.length HAB.out
      have h2:=HPL.out
      simp only [List.length_append,List.length_cons,List.length_nil] at h1
      show _<=_
      omega
     obtain ⟨m,hm⟩:∃m,A0.length=m:=⟨_,rfl⟩
     have hmi:=HLN.out
     have kl:(((A0++[y]).length:Nat):Int)=(m:Int)+1:=by simp [hm]
     rw [kl]
     rw [hm] at d1 d2 hmi
     have HNN:Hid (A0.length=m):=hm
     clear hm kl
     have t1:((m:Int)+1).toNat=m+1:=by omega
     have t3:(0:Int) < (m:Int)+1:=by omega
     have t4:decide ((0:Int) < (m:Int)+1)=true:=decide_eq_true t3
     have t6:(m:Int)+1 < (n:Int):=by omega
     have t7:(0:Int)<=(m:Int)+1:=by omega
     have t8:(m:Int) < (n:Int):=by omega
     have tE:IntKind.i64.wrap (m:Int)=(m:Int):=by
      rw [IntKind.wrap_i64];omega
     have tD:(0:Int)<=(m:Int):=by omega
     have t9:m+1 < n:=by omega
     have t10:m < n:=by omega
     by_cases hr0:cT x y < 0
     ·have t5:=cT_less hr0
      have ff:=hown_f HRW.out
      go_wp2
      go_quiet (fail)
      go_wp2
      have hgb:=(HRW.out.lt g rfl).1
      refine ⟨⟨A0,y :: B,by rw [HNN.out],by have:=HAB.out;simpa using this,fun b hb=>?_,?_,below_set (below_set (below_drewN HBK.out _) hgb _ _) hgb _ _⟩,by simp [intOf]⟩
      ·rcases List.mem_cons.1 hb with rfl | hb
       ·exact hr0
       ·exact HBN.out b hb
      ·have e1:((A0++[y])++x :: (B++Z)).map Value.string=A0.map Value.string++.string y :: .string x :: (B++Z).map Value.string:=by simp
       have e2:(A0++x :: (y :: B++Z)).map Value.string=A0.map Value.string++.string x :: .string y :: (B++Z).map Value.string:=by simp
       have e4:m=(A0.map Value.string).length:=by rw [List.length_map];exact HNN.out.symm
       have h1:∀q,(((wr.drewN q).setCell ⟨g,m+1,none⟩ (.string y)).setCell ⟨g,m,none⟩ (.string x)).ownsRow w.heap.size 9 1 (.slice (some ⟨g,0,none⟩) n cap1) n ((A0++x :: (y :: B++Z)).map Value.string):=fun q=>by
        have h:=hown_set (hown_set (own_stay HRW.out (gb_drew (gb_refl wr none) q)) (m+1) (.string y) (by omega)) m (.string x) (by omega)
        rw [e1,e4,swap_set,<-e2,<-e4] at h
        exact h
       exact h1 _
     ·have t5:=cT_not hr0
      have HDN:=HOUT.out (fun A1 y1 e=>by
       have e1:=List.append_inj' e rfl
       have e2:y=y1:=by simpa using e1.2
       rw [<-e2];exact cT_flip hr0)
      have HDO:Hid (((A0++[y])++x :: B).Perm (L.take (i+1))/\RiseT ((A0++[y])++x :: B)):=HDN
      clear HDN HOUT
      go_wp2
      go_quiet (fail)
      go_wp2
      go_roundw
      case rel=>exact ⟨i+1,(A0++[y])++x :: B,by go_num,by omega,by omega,HDO.out.1,HDO.out.2,by rw [<-HAE.out];exact own_stay HRW.out (gb_drew (gb_refl _ none) _),below_drewN HBK.out _⟩
      case measure=>simp [intOf];omega
  ·have hil:i=n:=by omega
   have HQ:Hid (P.Perm L/\wr.ownsRow w.heap.size 9 1 (.slice (some ⟨g,0,none⟩) n cap1) P.length (P.map Value.string)):=by
    have hln:L.length=i:=HN.out.trans hil.symm
    have e1:L.take i=L:=by rw [<-hln,List.take_length]
    have e2:L.drop i=[]:=by rw [<-hln,List.drop_length]
    rw [e1] at hp
    rw [e2,List.append_nil] at hown
    refine ⟨hp,?_⟩
    rw [hp.length_eq,HN.out]
    exact hown
   clear hp hs hown hb hil hi
   go_wp2
   refine bodyPost_ret (results_tmp (t:=2) rfl _ _ _) rfl ⟨_,P,rfl,HQ.out.2,HQ.out.1,HP.out.2,HB.out⟩
theorem cSorted (v:Value) (L:List ByteArray) (w:World) (h:TxS w v L) (hL:L.length<=1048576):Calls Tryz.prog 30 #[v] w (SrtPost L w):=by
 obtain ⟨o,c,rfl⟩:=txs_slice h
 by_cases h0:L.length=0
 ·have hnil:=List.length_eq_zero_iff.1 h0
  subst hnil
  have hinfo2:=infoTx
  obtain ⟨j0,hj0,hjj⟩:=Option.map_eq_some_iff.1 hinfo2
  clear h hinfo2 hjj
  have hz:(([]:List ByteArray).length)=0:=rfl
  rw [hz]
  clear hz
  go_enter Tryz.func30,Tryz.ntmps30
  go_wp2_with (first | (at_builtin;refine append_zero rfl _ _ 40 rfl 9 j0 Tryz.underlying40 hj0 rfl _ _ rfl ?_))
  go_wp2
  go_loopw [4] (fun vi wr=>vi=.int .i64 1/\Below w.heap.size w wr) (fun vi _=>0)
  case atStart=>exact ⟨rfl,Below.refl _ _⟩
  case round =>
   obtain ⟨rfl,hb⟩:=hrel
   have HB:Hid (Below w.heap.size w wr):=hb
   clear hb
   go_wp2
   refine bodyPost_ret (results_tmp (t:=2) rfl _ _ _) rfl ⟨_,[],rfl,World.ownsRow_nil _ _ _ _,List.Perm.refl _,List.Pairwise.nil,HB.out⟩
 ·rcases h with ⟨h1,h2⟩ | ⟨a,cap,h1,h2,h3⟩
  ·rw [h2] at h0;exact absurd rfl h0
  ·cases h1
   exact sorted_at a c L w hL (by omega) h3
open Go.RowKit
set_option linter.unusedVariables false
def leT (a b:ByteArray):Bool:=decide (cT a b<=0)
theorem leT_trans (a b c:ByteArray) (h1:leT a b=true) (h2:leT b c=true):leT a c=true:=by
 unfold leT at *
 exact decide_eq_true (cT_trans (of_decide_eq_true h1) (of_decide_eq_true h2))
theorem leT_total (a b:ByteArray):(leT a b || leT b a)=true:=by
 unfold leT
 have:=good_T.anti a b
 simp only [Bool.or_eq_true,decide_eq_true_eq]
 omega
def sortT (L:List ByteArray):List ByteArray:=L.mergeSort leT
theorem sortT_perm (L:List ByteArray):(sortT L).Perm L:=List.mergeSort_perm L leT
theorem sortT_rise (L:List ByteArray):RiseT (sortT L):=(List.pairwise_mergeSort leT_trans leT_total L).imp (fun h=>of_decide_eq_true h)
theorem sortT_one {S L:List ByteArray} (hp:S.Perm L) (hs:RiseT S):S=sortT L:=rise_one (hp.trans (sortT_perm L).symm) hs (sortT_rise L)
def riseE (x:En):En:=⟨x.nm,x.ve,x.dg,sortT x.nd⟩
def leE (a b:En):Bool:=leT a.nm b.nm
def sortE (L:List En):List En:=L.mergeSort leE
def RiseE (E:List En):Prop:=E.Pairwise (fun a b=>cT a.nm b.nm<=0)
theorem sortE_perm (L:List En):(sortE L).Perm L:=List.mergeSort_perm L leE
theorem sortE_rise (L:List En):RiseE (sortE L):=(List.pairwise_mergeSort (fun a b c=>leT_trans a.nm b.nm c.nm) (fun a b=>leT_total a.nm b.nm) L).imp (fun h=>of_decide_eq_true h)
theorem name_one:∀{L:List En},(L.map (·.nm)).Nodup->∀a ∈ L,∀b ∈ L,a.nm=b.nm->a=b
 | [],_,a,ha,_,_,_=>by cases ha
 | x :: L,h,a,ha,b,hb,e=>by
  rw [List.map_cons,List.nodup_cons] at h
  rcases List.mem_cons.1 ha with ha1 | ha1
  ·rcases List.mem_cons.1 hb with hb1 | hb1
   ·rw [ha1,hb1]
   ·exact absurd (by rw [<-ha1,e];exact List.mem_map.2 ⟨b,hb1,rfl⟩) h.1
  ·rcases List.mem_cons.1 hb with hb1 | hb1
   ·exact absurd (by rw [<-hb1,<-e];exact List.mem_map.2 ⟨a,ha1,rfl⟩) h.1
   ·exact name_one h.2 a ha1 b hb1 e
theorem sortE_one {E L:List En} (hn:(L.map (·.nm)).Nodup) (hp:E.Perm L) (hs:RiseE E):E=sortE L:=by
 refine perm_one _ E (sortE L) (hp.trans (sortE_perm L).symm) hs (sortE_rise L) (fun a ha b hb r1 r2=>?_)
 exact name_one hn a (hp.subset ha) b (hp.subset hb) (cT_eq (by have:=good_T.anti a.nm b.nm;omega))
def entOf (L:List En) (n:ByteArray):En:=(L.find? (fun e=>decide (e.nm=n))).getD ⟨⟨#[]⟩,⟨#[]⟩,⟨#[]⟩,[]⟩
theorem entOf_at (L:List En) (n:ByteArray) (j:Nat) (hj:j < L.length) (h1:L[j].nm=n) (h2:hasNm (L.take j) n=false):entOf L n=L[j]:=by
 have:L.find? (fun e=>decide (e.nm=n))=some L[j]:=by
  rw [List.find?_eq_some_iff_getElem]
  refine ⟨by simpa using h1,j,hj,rfl,fun k hk=>?_⟩
  unfold hasNm at h2
  rw [List.any_eq_false] at h2
  have:=h2 L[k] (List.mem_take_iff_getElem.2 ⟨k,by omega,rfl⟩)
  simpa using this
 unfold entOf
 rw [this]
 rfl
theorem entOf_mem {L:List En} (hn:(L.map (·.nm)).Nodup) (x:En) (hx:x ∈ L):entOf L x.nm=x:=by
 unfold entOf
 cases hf:L.find? (fun e=>decide (e.nm=x.nm)) with
 | none =>
  have:=List.find?_eq_none.1 hf x hx
  simp at this
 | some y =>
  have h1:=List.mem_of_find?_eq_some hf
  have h2:y.nm=x.nm:=by simpa using List.find?_some hf
  exact name_one hn y h1 x hx h2
theorem ents_perm {L:List En} (hn:(L.map (·.nm)).Nodup) {S:List ByteArray} (hp:S.Perm (L.map (·.nm))):(S.map (entOf L)).Perm L:=by
 have h1:=hp.map (entOf L)
 rw [List.map_map] at h1
 have h2:L.map (entOf L ∘ (·.nm))=L:=by
  conv=>rhs;rw [<-List.map_id L]
  exact List.map_congr_left (fun x hx=>entOf_mem hn x hx)
 rw [h2] at h1
 exact h1
theorem ents_rise {L:List En} {S:List ByteArray} (hm:∀n ∈ S,(entOf L n).nm=n) (hs:RiseT S):RiseE (S.map (entOf L)):=by
 unfold RiseE
 rw [List.pairwise_map]
 refine List.Pairwise.imp_of_mem (fun {a b} ha hb h=>?_) hs
 rw [hm a ha,hm b hb]
 exact h
theorem ents_sort {L:List En} (hn:(L.map (·.nm)).Nodup) {S:List ByteArray} (hp:S.Perm (L.map (·.nm))) (hs:RiseT S):S.map (entOf L)=sortE L:=by
 refine sortE_one hn (ents_perm hn hp) (ents_rise (fun n hn2=>?_) hs)
 obtain ⟨x,hx,rfl⟩:=List.mem_map.1 (hp.subset hn2)
 rw [entOf_mem hn x hx]
theorem infoRn:(Tryz.prog.info? 42).map (fun i=>(i.zero,i.size,i.bytes))=some (some (.agg #[.string ⟨#[]⟩,.string ⟨#[]⟩,.string ⟨#[]⟩,.slice none 0 0]),4,72):=by kernel_rfl
def QRow (M:List En) (w:World) (base:Nat) (vm:Value):Prop:=∃vs:List Value,∃hl:vs.length=M.length,w.ownsRow base 42 4 vm M.length (enCs M vs)/\∀j (hj:j < M.length),TxS w (vs[j]'(by omega)) M[j].nd/\TxFar (vs[j]'(by omega)) vm.ownBlock
theorem qrow_ens {M:List En} {w:World} {base:Nat} {v:Value} (h:QRow M w base v):EnS w v M:=by
 obtain ⟨vs,hl,ho,hn⟩:=h
 rcases ho.2 with ⟨h1,h2⟩ | ⟨g,cap,cur,hv,hb,hc,h3,h4,h5,h6⟩
 ·exact Or.inl ⟨h1,List.length_eq_zero_iff.1 h2⟩
 ·refine Or.inr ⟨⟨g,0,none⟩,cap,hv,h3,fun i hi=>?_⟩
  have h':=ho
  rw [hv] at h'
  have key:∀k u,0 < k->(enC M[i] (vs[i]'(by omega)))[k]?=some u->w.cell? ⟨((⟨g,0,none⟩:Addr).add (i * 4)).block,((⟨g,0,none⟩:Addr).add (i * 4)).off+k,none⟩=some u:=fun k u hk hu=>by
   have:=h'.cells (g:=g) rfl (i * 4+k) u (en_get M vs hl.symm i hi k u hu)
   rw [hadd_off _ _ k hk] at this
   exact this
  have k0:=h'.cells (g:=g) rfl (i * 4+0) _ (en_get M vs hl.symm i hi 0 _ rfl)
  exact ⟨by simpa using k0,key 1 _ (by omega) rfl,key 2 _ (by omega) rfl,_,key 3 _ (by omega) rfl,(hn i hi).1⟩
theorem qrow_snoc {M:List En} {w w1 w3:World} {base g cap k:Nat} {vm v2:Value} {y:En} {vs:List Value} (hk:M.length=k) (hl:vs.length=M.length) (hown:w.ownsRow base 42 4 vm k (enCs M vs)) (hin:∀j (hj:j < M.length),TxS w (vs[j]'(by omega)) M[j].nd/\TxFar (vs[j]'(by omega)) vm.ownBlock) (hg:w.grownBy w1 none)
  (ho:w3.ownsRow base 42 4 (.slice (some ⟨g,0,none⟩) (k+1) cap) (k+1) (enCs M vs++enC y v2)) (hgrow:w1.grownBy w3 vm.ownBlock) (hat:vm.ownBlock=some g\/g=w1.heap.size)
  (ht:TxS w1 v2 y.nd) (hf:∀a n k,v2=.slice (some a) n k->0 < n->w.heap.size<=a.block/\a.block < w1.heap.size):QRow (M++[y]) w3 base (.slice (some ⟨g,0,none⟩) (k+1) cap):=by
 subst hk
 refine ⟨vs++[v2],by simp [hl],by rw [List.length_append,List.length_singleton,enCs_snoc M vs y v2 hl.symm];exact ho,fun j hj=>?_⟩
 have hfar:∀v N,TxS w1 v N->TxFar v vm.ownBlock->(∀a n k,v=.slice (some a) n k->0 < n->a.block < w1.heap.size)->TxFar v (some g):=fun v N h1 h2 h3 a n k e hn=>by
  rcases hat with h5 | h5
  ·rw [<-h5];exact h2 a n k e hn
  ·intro h6
   injection h6 with h6
   have:=h3 a n k e hn
   omega
 by_cases hji:j < M.length
 ·obtain ⟨k1,k2⟩:=hin j hji
  have ej:(vs++[v2])[j]'(by simp;omega)=vs[j]'(by omega):=List.getElem_append_left (by omega)
  have em:(M++[y])[j]'hj=M[j]:=List.getElem_append_left hji
  rw [ej,em]
  refine ⟨(k1.grow hg).far hgrow k2,hfar _ _ (k1.grow hg) k2 (fun a n k e hn=>?_)⟩
  have:=txs_lt (by rw [<-e];exact k1) hn
  exact Nat.lt_of_lt_of_le this hg.size
 ·have hje:j=M.length:=by simp at hj;omega
  subst hje
  have ej:(vs++[v2])[M.length]'(by simp [hl])=v2:=by simp [<-hl]
  have em:(M++[y])[M.length]'hj=y:=by simp
  rw [ej,em]
  have hfv:TxFar v2 vm.ownBlock:=fun a n k e hn h2=>by
   have h1:=(hf a n k e hn).1
   have h3:=(hown.lt a.block h2.symm).2
   omega
  exact ⟨ht.far hgrow hfv,hfar _ _ ht hfv (fun a n k e hn=>(hf a n k e hn).2)⟩
end Go.Proofs.YtbbmbnpebiakbaaGreatDoor
