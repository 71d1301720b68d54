import Derived.Test.YtfplkhnclmidnaaGreatDoorM31
import Derived.Test.YtfplkhnclmidnaaGreatDoorM32
import Derived.Test.YtfplkhnclmidnaaGreatDoorM02
import Derived.Test.YtfplkhnclmidnaaGreatDoorRows
import Derived.ProofKit
import Derived.OpenShut
import Derived.ShutString
import Derived.SizedLaws
import Derived.Lib.SmallJoins
import Derived.Deep.Slices
import Derived.Carry
import Derived.DataReads
namespace Go.Proofs.YtfplkhnclmidnaaGreatDoor
open Go.RowKit
set_option linter.unusedVariables false
def hitE (b:Bool) (W:Int):Int:=if b=true then 5 else W
theorem hit_next (L:List Re) (n v:ByteArray) (k:Nat) (hk:k < L.length):(L.take (k+1)).any (hitB n v)=((L.take k).any (hitB n v) || hitB n v L[k]):=by
 rw [List.take_succ_eq_append_getElem hk,List.any_append];simp
set_option maxRecDepth 100000 in
set_option maxHeartbeats 6400000 in
theorem checkShelf_at (a:Addr) (cap:Nat) (L:List Re) (w:World) (hcap:L.length<=cap) (h:∀j (hj:j < L.length),ReAt w (a.add (j * 4)) L[j]) (hL:L.length<=1048576) (hV:∀x ∈ L,x.nm.size < 2 ^ 60/\x.ve.size < 2 ^ 60) (hN:∀x ∈ L,x.nd.length<=1048576) (hS:∀x ∈ L,∀y ∈ x.nd,y.n.size < 2 ^ 60/\y.r.size < 2 ^ 60) :
  Calls Tryz.prog 7 #[.slice (some a) L.length cap] w fun e w'=>e=.returned (.tuple #[.int .i64 (chkFrom L L.length).1,.int .i64 ((chkFrom L L.length).2:Int)])/\w.grownBy w' none:=by
 have HA:Hid (∀j (hj:j < L.length),ReAt w (a.add (j * 4)) L[j]):=h
 have CN:Hid (∀x ∈ L,∀w,Calls Tryz.prog 15 #[.string x.nm] w fun e w'=>e=.returned (.bool (nameB x.nm))/\w'=w):=fun x hx w=>rname_any x.nm w (by have:=(hV x hx).1;omega)
 have CV:Hid (∀x ∈ L,∀w,Calls Tryz.prog 16 #[.string x.ve] w fun e w'=>e=.returned (.bool (okV x.ve))/\w.grownBy w' none):=fun x hx w=>isVersion_any x.ve w (by have:=(hV x hx).2;omega)
 have CW:Hid (∀x ∈ L,∀v w,NdS w v x.nd->Calls Tryz.prog 17 #[v] w fun e w'=>e=.returned (.int .i64 (wrongN x.nd))/\w.grownBy w' none):=fun x hx v w h=>cWrong v x.nd w h (hN x hx) (hS x hx)
 have CT:Hid (∀x ∈ L,∀y ∈ L,∀w,Calls Tryz.prog 18 #[.string y.ve,.string x.ve] w fun e w'=>e=.returned (.bool (togB y.ve x.ve))/\w.grownBy w' none):=fun x hx y hy w=>together_any y.ve x.ve w (by have:=(hV y hy).2;omega) (by have:=(hV x hx).2;omega)
 have HNL:Hid (∀x ∈ L,x.nd.length<=1048576):=hN
 have HH:Hid (∀i,i < L.length->¬ faultL L i=0->chkFrom L (L.length - i)=(faultL L i,i)):=chk_hit L
 have HM:Hid (∀i,i < L.length->faultL L i=0->chkFrom L (L.length - i)=chkFrom L (L.length - (i+1))):=chk_miss L
 obtain ⟨R,hR⟩:∃R,chkFrom L L.length=R:=⟨_,rfl⟩
 have HS0:Hid (chkFrom L (L.length - 0)=R):=hR
 rw [hR]
 clear h hV hN hS hR
 go_enter Tryz.func7,Tryz.ntmps7
 go_wp2
 go_loopw [4] (fun vi wr=>∃i:Nat,vi=.int .i64 i/\i<=L.length/\chkFrom L (L.length - i)=R/\w.grownBy wr none) (fun vi _=>L.length - (intOf vi).toNat)
 case atStart=>exact ⟨0,rfl,Nat.zero_le _,HS0.out,gb_refl _ _⟩
 case round =>
  obtain ⟨i,rfl,hi,hc,hg⟩:=hrel
  have HG:Hid (w.grownBy wr none):=hg
  have HC:Hid (chkFrom L (L.length - i)=R):=hc
  by_cases hlt:i < L.length
  ·obtain ⟨x,hx⟩:∃x,L[i]=x:=⟨_,rfl⟩
   have hmem:x ∈ L:=by rw [<-hx];exact List.getElem_mem _
   have HMEM:Hid (x ∈ L):=hmem
   have hFL:faultL L i=faultR i (L.take i) x:=by rw [faultL_at L i hlt,hx]
   have HH':Hid (¬ faultR i (L.take i) x=0->R=(faultR i (L.take i) x,i)):=fun h=>by rw [<-hFL] at h ⊢;exact HC.out.symm.trans (HH.out i hlt h)
   have HM':Hid (faultR i (L.take i) x=0->chkFrom L (L.length - (i+1))=R):=fun h=>by rw [<-hFL] at h;exact (HM.out i hlt h).symm.trans HC.out
   obtain ⟨e0,e1,⟨sv,e2,hsv⟩,e3⟩:ReAt wr (a.add (i * 4)) x:=by rw [<-hx];exact (HA.out i hlt).grow hg
   have HSV:Hid (NdS wr sv x.nd):=hsv
   obtain ⟨so,sc,rfl⟩:=nds_slice hsv
   have hnl:=HNL.out x hmem
   have CN':Hid (∀w,Calls Tryz.prog 15 #[.string x.nm] w fun e w'=>e=.returned (.bool (nameB x.nm))/\w'=w):=fun w=>CN.out x hmem w
   have CV':Hid (∀w,Calls Tryz.prog 16 #[.string x.ve] w fun e w'=>e=.returned (.bool (okV x.ve))/\w.grownBy w' none):=fun w=>CV.out x hmem w
   have CW':Hid (∀v w,NdS w v x.nd->Calls Tryz.prog 17 #[v] w fun e w'=>e=.returned (.int .i64 (wrongN x.nd))/\w.grownBy w' none):=fun v w h=>CW.out x hmem v w h
   have CT':Hid (∀y ∈ L,∀w,Calls Tryz.prog 18 #[.string y.ve,.string x.ve] w fun e w'=>e=.returned (.bool (togB y.ve x.ve))/\w.grownBy w' none):=fun y hy w=>CT.out x hmem y hy w
   clear hc hg hx hmem hFL hsv
   by_cases hm:50<=i
   ·have HR:Hid (R=(4,i)):=by
     have:=HH'.out (by rw [fault_many (Or.inl hm)];decide)
     rwa [fault_many (Or.inl hm)] at this
    go_wp2
    refine bodyPost_ret (results_tmp2 (t:=2) (u:=3) rfl _ _ _) rfl ⟨?_,gb_alloc HG.out _⟩
    rw [HR.out];rfl
   ·by_cases hn:20 < x.nd.length
    ·have HR:Hid (R=(4,i)):=by
      have:=HH'.out (by rw [fault_many (Or.inr hn)];decide)
      rwa [fault_many (Or.inr hn)] at this
     go_wp2
     refine bodyPost_ret (results_tmp2 (t:=2) (u:=3) rfl _ _ _) rfl ⟨?_,gb_alloc HG.out _⟩
     rw [HR.out];rfl
    ·have hmany:¬ (50<=i\/20 < x.nd.length):=by omega
     have HT:Hid (nameB x.nm=false\/okV x.ve=false\/wrongN x.nd=2->R=(2,i)):=fun h=>by
      have h1:=fault_text (P:=L.take i) hmany h
      have:=HH'.out (by rw [h1];decide)
      rwa [h1] at this
     have HQ:Hid (¬ (nameB x.nm=false\/okV x.ve=false\/wrongN x.nd=2)->(hitE ((L.take i).any (hitB x.nm x.ve)) (wrongN x.nd)=0->chkFrom L (L.length - (i+1))=R)/\(¬ hitE ((L.take i).any (hitB x.nm x.ve)) (wrongN x.nd)=0->R=(hitE ((L.take i).any (hitB x.nm x.ve)) (wrongN x.nd),i))):=fun h=>by
      have h1:=fault_rest (P:=L.take i) hmany h
      have h2:hitE ((L.take i).any (hitB x.nm x.ve)) (wrongN x.nd)=faultR i (L.take i) x:=by
       rw [h1]
       unfold hitE
       rcases wrong_one x.nd with h3 | h3 | h3
       ·rw [h3];cases (L.take i).any (hitB x.nm x.ve) <;> simp
       ·exact absurd (Or.inr (Or.inr h3)) h
       ·rw [h3];cases (L.take i).any (hitB x.nm x.ve) <;> simp
      rw [h2]
      exact ⟨HM'.out,HH'.out⟩
     obtain ⟨q1,hq1⟩:∃q,nameB x.nm=q:=⟨_,rfl⟩
     obtain ⟨q2,hq2⟩:∃q,okV x.ve=q:=⟨_,rfl⟩
     obtain ⟨W,hW⟩:∃W,wrongN x.nd=W:=⟨_,rfl⟩
     rw [hq1] at HT HQ CN'
     rw [hq2] at HT HQ CV'
     rw [hW] at HT HQ CW'
     obtain ⟨nn,hnn⟩:∃nn,x.nd.length=nn:=⟨_,rfl⟩
     rw [hnn] at HSV e2 hn hnl
     have HXX:Hid (∀k (hk:k < L.length),hitB x.nm x.ve L[k]=(decide (L[k].nm=x.nm) && togB L[k].ve x.ve)):=fun k hk=>rfl
     obtain ⟨xn,xv,xd,xa⟩:=x
     simp only [] at CN' CV' CW' CT' e0 e1 e3 HSV HQ HXX
     clear hmany hq1 hq2 hW hnn
     obtain ⟨A,hA⟩:∃A,wr.heap.size=A:=⟨_,rfl⟩
     go_wp2_with (first | (go_at_call 15;refine (CN'.out _).mono ?_;rintro e w' ⟨rfl,rfl⟩) | (go_at_call 16;refine (CV'.out _).mono ?_))
     rintro e w1 ⟨rfl,hg1⟩
     obtain ⟨c0,c1,c2,c3⟩:=re_block ((hg1.block wr.heap.size (by simp) (by simp)).trans (heap_alloc_new wr _))
     have HG1:Hid (wr.grownBy w1 none):=gb_trans (gb_alloc (gb_refl wr none) _) hg1
     try rw [hA]
     rw [hA] at c0 c1 c2 c3
     clear hg1 e0 e1 e2 e3 hA
     go_wp2_with (first | (go_at_call 17;refine (CW'.out _ _ (HSV.out.grow HG1.out)).mono ?_))
     rintro e w2 ⟨rfl,hg2⟩
     have f0:=hg2.cell c0 (by simp)
     have f1:=hg2.cell c1 (by simp)
     have HG2:Hid (w.grownBy w2 none):=gb_trans HG.out (gb_trans HG1.out hg2)
     have HF01:Hid (w2.cell? ⟨A,0,none⟩=some (.string xn)/\w2.cell? ⟨A,1,none⟩=some (.string xv)):=⟨f0,f1⟩
     clear c0 c1 c2 c3 hg2 HSV f0 f1
     cases q1 with
     | false =>
      go_wp2
      refine bodyPost_ret (results_tmp2 (t:=2) (u:=3) rfl _ _ _) rfl ⟨?_,HG2.out⟩
      rw [HT.out (Or.inl (by trivial))];rfl
     | true =>
      cases q2 with
      | false =>
       go_wp2
       refine bodyPost_ret (results_tmp2 (t:=2) (u:=3) rfl _ _ _) rfl ⟨?_,HG2.out⟩
       rw [HT.out (Or.inr (Or.inl (by trivial)))];rfl
      | true =>
       by_cases hW2:W=2
       ·subst hW2
        go_wp2
        refine bodyPost_ret (results_tmp2 (t:=2) (u:=3) rfl _ _ _) rfl ⟨?_,HG2.out⟩
        rw [HT.out (Or.inr (Or.inr (by trivial)))];rfl
       ·have hw2:(W == 2)=false:=by simp [hW2]
        have HQ':Hid ((hitE ((L.take i).any (hitB xn xv)) W=0->chkFrom L (L.length - (i+1))=R)/\(¬ hitE ((L.take i).any (hitB xn xv)) W=0->R=(hitE ((L.take i).any (hitB xn xv)) W,i))):=HQ.out (by simp [hW2])
        clear hW2
        go_wp2
        clear hw2
        go_loopw [8,9] (fun ve vk wk=>∃k:Nat,vk=.int .i64 k/\ve=.int .i64 (hitE ((L.take k).any (hitB xn xv)) W)/\k<=i/\w2.grownBy wk none) (fun _ vk _=>i - (intOf vk).toNat)
        case atStart=>exact ⟨0,rfl,rfl,Nat.zero_le _,gb_refl _ _⟩
        case round =>
         obtain ⟨k,rfl,rfl,hk,hgk⟩:=hrel
         have HGK:Hid (w2.grownBy wr none):=hgk
         have HGW:Hid (w.grownBy wr none):=gb_trans HG2.out hgk
         have f0:=hgk.cell HF01.out.1 (by simp)
         have f1:=hgk.cell HF01.out.2 (by simp)
         by_cases hki:k < i
         ·have hkl:k < L.length:=by omega
          obtain ⟨y,hy⟩:∃y,L[k]=y:=⟨_,rfl⟩
          obtain ⟨p0,p1,-,-⟩:ReAt wr (a.add (k * 4)) y:=by rw [<-hy];exact (HA.out k hkl).grow HGW.out
          have CTT:Hid (Calls Tryz.prog 18 #[.string y.ve,.string xv] wr.drew fun e w'=>e=.returned (.bool (togB y.ve xv))/\wr.drew.grownBy w' none):=CT'.out y (by rw [<-hy];exact List.getElem_mem _) _
          have HAN:Hid ((L.take (k+1)).any (hitB xn xv)=((L.take k).any (hitB xn xv) || (decide (y.nm=xn) && togB y.ve xv))):=by
           show _=_
           rw [hit_next L xn xv k hkl,HXX.out k hkl,hy]
          obtain ⟨q0,hq0⟩:∃q,(L.take k).any (hitB xn xv)=q:=⟨_,rfl⟩
          obtain ⟨tg,htg⟩:∃q,togB y.ve xv=q:=⟨_,rfl⟩
          rw [hq0] at HAN
          rw [htg] at CTT HAN
          try rw [hq0]
          obtain ⟨yn,yv,yd,ya⟩:=y
          simp only [] at CTT HAN p0 p1
          clear hgk hy hq0 htg
          have HCELLS:Hid (wr.cell? (a.add (k * 4))=some (.string yn)/\wr.cell? ⟨A,0,none⟩=some (.string xn)):=⟨p0,f0⟩
          go_wp2
          go_region_held3 (fun w'=>w'.cell? ⟨(a.add (k * 4)).block,(a.add (k * 4)).off+1,none⟩=some (.string yv)/\w'.cell? ⟨A,1,none⟩=some (.string xv)) ((first | exact ⟨World.grownBy.cell (by assumption) (And.left (by assumption)) (by simp),World.grownBy.cell (by assumption) (And.right (by assumption)) (by simp)⟩ | go_keep)) (first | (go_at_call 18;refine CTT.out.mono ?_;rintro e w3 ⟨rfl,hg3⟩))
          have hg4:wr.grownBy w3 none:=gb_undrew hg3
          have r0:=hg4.cell HCELLS.out.1 (by simp)
          have r1:=hg4.cell HCELLS.out.2 (by simp)
          have HG4:Hid (w2.grownBy w3 none):=gb_trans HGK.out hg4
          clear hg3 hg4 p0 p1 f0 f1
          by_cases hxy:yn=xn
          ·have q:=txt_eq hxy
           cases tg with
           | true =>
            have HV:Hid ((5:Int)=hitE ((L.take (k+1)).any (hitB xn xv)) W):=by
             show _=_
             rw [HAN.out]
             simp [hxy,hitE]
            go_wp2
            go_quiet (fail)
            go_wp2
            go_roundw
            case rel=>exact ⟨k+1,by go_num,by rw [<-HV.out],by omega,gb_drew HG4.out _⟩
            case measure=>simp [intOf];omega
           | false =>
            have HV:Hid (hitE q0 W=hitE ((L.take (k+1)).any (hitB xn xv)) W):=by
             show _=_
             rw [HAN.out]
             simp
            go_wp2
            go_quiet (fail)
            go_wp2
            go_roundw
            case rel=>exact ⟨k+1,by go_num,by rw [<-HV.out],by omega,gb_drew HG4.out _⟩
            case measure=>simp [intOf];omega
          ·have q:=txt_ne hxy
           have HV:Hid (hitE q0 W=hitE ((L.take (k+1)).any (hitB xn xv)) W):=by
            show _=_
            rw [HAN.out]
            simp [hxy]
           go_wp2
           go_quiet (fail)
           go_wp2
           go_roundw
           case rel=>exact ⟨k+1,by go_num,by rw [<-HV.out],by omega,gb_drew HG4.out _⟩
           case measure=>simp [intOf];omega
         ·have hke:k=i:=by omega
          subst hke
          clear hgk hk f0 f1
          obtain ⟨E1,hE1⟩:∃E,hitE ((L.take k).any (hitB xn xv)) W=E:=⟨_,rfl⟩
          rw [hE1] at HQ'
          try rw [hE1]
          clear hE1
          by_cases hz:E1=0
          ·subst hz
           go_wp2
           go_roundw
           case rel=>exact ⟨k+1,by go_num,by omega,HQ'.out.1 rfl,HGW.out⟩
           case measure=>simp [intOf];omega
          ·have hz1:(E1 != 0)=true:=by simp [hz]
           have HR:Hid (R=(E1,k)):=HQ'.out.2 hz
           clear hz
           go_wp2
           refine bodyPost_ret (results_tmp2 (t:=2) (u:=3) rfl _ _ _) rfl ⟨?_,HGW.out⟩
           rw [HR.out];rfl
  ·have hil:i=L.length:=by omega
   have HR:Hid (R=(0,0)):=by
    show R=_
    rw [<-hc,hil,Nat.sub_self];rfl
   clear hc hg hil hi
   go_wp2
   refine bodyPost_ret (results_tmp2 (t:=2) (u:=3) rfl _ _ _) rfl ⟨?_,HG.out⟩
   rw [HR.out];rfl
theorem checkShelf_nil (w:World):Calls Tryz.prog 7 #[.slice none 0 0] w fun e w'=>e=.returned (.tuple #[.int .i64 0,.int .i64 0])/\w.grownBy w' none:=by
 go_enter Tryz.func7,Tryz.ntmps7
 go_wp2
 go_loopw [4] (fun vi wr=>vi=.int .i64 0/\w.grownBy wr none) (fun vi _=>0)
 case atStart=>exact ⟨rfl,gb_refl _ _⟩
 case round =>
  obtain ⟨rfl,hb⟩:=hrel
  have HB:Hid (w.grownBy wr none):=hb
  clear hb
  go_wp2
  exact bodyPost_ret (results_tmp2 (t:=2) (u:=3) rfl _ _ _) rfl ⟨rfl,HB.out⟩
theorem cCheckShelf (v:Value) (L:List Re) (w:World) (h:ReS w v L) (hL:L.length<=1048576) (hV:∀x ∈ L,x.nm.size < 2 ^ 60/\x.ve.size < 2 ^ 60) (hN:∀x ∈ L,x.nd.length<=1048576) (hS:∀x ∈ L,∀y ∈ x.nd,y.n.size < 2 ^ 60/\y.r.size < 2 ^ 60) :
  Calls Tryz.prog 7 #[v] w fun e w'=>e=.returned (.tuple #[.int .i64 (chkFrom L L.length).1,.int .i64 ((chkFrom L L.length).2:Int)])/\w.grownBy w' none:=by
 rcases h with ⟨rfl,rfl⟩ | ⟨a,cap,rfl,h2,h3⟩
 ·exact checkShelf_nil w
 ·exact checkShelf_at a cap L w h2 h3 hL hV hN hS
open Go.RowKit
set_option linter.unusedVariables false
set_option maxRecDepth 100000 in
set_option maxHeartbeats 800000 in
theorem shelfChecksLaw (sl:Value) (L:List Re) (w:World) (h:ReS w sl L) (hL:L.length<=1048576) (hV:∀x ∈ L,x.nm.size < 2 ^ 60/\x.ve.size < 2 ^ 60) (hN:∀x ∈ L,x.nd.length<=1048576) (hS:∀x ∈ L,∀y ∈ x.nd,y.n.size < 2 ^ 60/\y.r.size < 2 ^ 60) :
  Calls Tryz.prog 3 #[sl] w fun e w'=>e=.returned (.bool true)/\w.grownBy w' none:=by
 have CRl:Hid (∀w',w.grownBy w' none->Calls Tryz.prog 5 #[sl] w' fun e w''=>∃o n c,e=.returned (.slice o n c)/\ReS w'' (.slice o n c) L/\w'.grownBy w'' none):=fun w' hg=>(cReleases sl L w' (h.grow hg) hL hN).mono fun e w'' ⟨v,h1,h2,h3⟩=>by
  obtain ⟨o,n,c,rfl⟩:=res_slice h2
  exact ⟨o,n,c,h1,h2,h3⟩
 have CC:Hid (∀v w',ReS w' v L->Calls Tryz.prog 6 #[v] w' fun e w''=>e=.returned (.tuple #[.int .i64 (chkFrom L L.length).1,.int .i64 ((chkFrom L L.length).2:Int)])/\w'.grownBy w'' none):=fun v w' h=>check_any v L w' h hL hV hN hS
 have CD:Hid (∀w',w.grownBy w' none->Calls Tryz.prog 7 #[sl] w' fun e w''=>e=.returned (.tuple #[.int .i64 (chkFrom L L.length).1,.int .i64 ((chkFrom L L.length).2:Int)])/\w'.grownBy w'' none):=fun w' hg=>cCheckShelf sl L w' (h.grow hg) hL hV hN hS
 have CS:Hid (∀v w',ReS w' v L->w.grownBy w' none->Calls Tryz.prog 8 #[v,sl] w' fun e w''=>e=.returned (.bool true)/\w'.grownBy w'' none):=fun v w' h1 hg=>sameReleases_any v sl L w' h1 (h.grow hg) hL hN
 have CM:Hid (∀n w,Calls Tryz.prog 9 #[.int .i64 n] w fun e w'=>e=.returned (.int .i64 n)/\w.grownBy w' none):=fun n w=>lnum_gb n w
 obtain ⟨o0,n0,c0,rfl⟩:=res_slice h
 obtain ⟨E,hE⟩:∃E,(chkFrom L L.length).1=E:=⟨_,rfl⟩
 obtain ⟨K,hK⟩:∃K:Int,((chkFrom L L.length).2:Int)=K:=⟨_,rfl⟩
 rw [hE,hK] at CC CD
 have hee:(E == E)=true:=by simp
 have hkk:(K == K)=true:=by simp
 clear h hV hN hS hE hK
 have HG:Hid (w.grownBy w none):=gb_refl _ _
 go_enter Tryz.func3,Tryz.ntmps3
 go_wp2_with (first | (go_at_call 5;refine (CRl.out _ HG.out).mono ?_))
 rintro e w1 ⟨o1,n1,c1,rfl,hr1,hg⟩
 replace HG:Hid (w.grownBy w1 none):=gb_trans HG.out hg
 have HR1:Hid (ReS w1 (.slice o1 n1 c1) L):=hr1
 clear hg hr1
 go_wp2_with (first | (go_at_call 6;refine (CC.out _ _ HR1.out).mono ?_))
 rintro e w2 ⟨rfl,hg⟩
 replace HG:Hid (w.grownBy w2 none):=gb_trans HG.out hg
 replace HR1:Hid (ReS w2 (.slice o1 n1 c1) L):=HR1.out.grow hg
 clear hg
 go_wp2_with (first | (go_at_call 7;refine (CD.out _ HG.out).mono ?_))
 rintro e w3 ⟨rfl,hg⟩
 replace HG:Hid (w.grownBy w3 none):=gb_trans HG.out hg
 replace HR1:Hid (ReS w3 (.slice o1 n1 c1) L):=HR1.out.grow hg
 clear hg
 go_wp2_with (first | (go_at_call 8;refine (CS.out _ _ HR1.out HG.out).mono ?_))
 rintro e w4 ⟨rfl,hg⟩
 replace HG:Hid (w.grownBy w4 none):=gb_trans HG.out hg
 clear hg HR1
 go_wp2_with (first | (go_at_call 9;refine (CM.out _ _).mono ?_;rintro e w5 ⟨rfl,hg5⟩))
 go_ret
 exact ⟨rfl,gb_trans HG.out hg5⟩
end Go.Proofs.YtfplkhnclmidnaaGreatDoor
namespace Go.Proofs.YtfplkhnclmidnaaGreatDoor
open Go.ChangeShapes Go.WideShapes Go.ChangeAt Go.RowKit Go.Joins
set_option linter.unusedVariables false
instance:Inhabited Nd:=⟨⟨⟨#[]⟩,⟨#[]⟩⟩⟩
instance:Inhabited Re:=⟨⟨⟨#[]⟩,⟨#[]⟩,[],⟨#[]⟩⟩⟩
theorem cellsNd:Tryz.prog.cellsOf 64=2:=by kernel_rfl
theorem cellsRe:Tryz.prog.cellsOf 41=4:=by kernel_rfl
theorem one_bulk {H:Type} (d:DataW H):1<=Rows.uptoBulk d:=by
 cases d with
 | lit l=>cases l <;> simp [Rows.uptoBulk]
 | _=>simp [Rows.uptoBulk]
theorem len_bulk {H:Type} (l:List (DataW H)):l.length<=Rows.uptoBulkAll l:=by
 induction l with
 | nil=>simp
 | cons d l ih =>
  have:=one_bulk d
  simp only [Rows.uptoBulkAll,List.length_cons]
  omega
theorem mem_bulk {H:Type} (l:List (DataW H)) (d:DataW H) (h:d ∈ l):Rows.uptoBulk d<=Rows.uptoBulkAll l:=by
 induction l with
 | nil=>cases h
 | cons e l ih =>
  simp only [Rows.uptoBulkAll]
  rcases List.mem_cons.1 h with rfl | h
  ·omega
  ·have:=ih h
   omega
theorem list2 {α:Type} {cs:List α} (h:cs.length=2):∃c0 c1,cs=[c0,c1]:=by
 match cs,h with
 | [c0,c1],_=>exact ⟨c0,c1,rfl⟩
theorem list4 {α:Type} {cs:List α} (h:cs.length=4):∃c0 c1 c2 c3,cs=[c0,c1,c2,c3]:=by
 match cs,h with
 | [c0,c1,c2,c3],_=>exact ⟨c0,c1,c2,c3,rfl⟩
set_option maxRecDepth 100000 in
set_option maxHeartbeats 800000 in
theorem need_cells {H:Type} {enc:TypeId × Value->H} {w:World} {base:Nat} {spare:Nat->Bool} {held:Bool} {fuel:Nat} {cs:List Value} {x:DataW H × List MemPlace}
  (h:DataW.trod enc Tryz.prog w base spare held fuel 64 cs=some x):∃s:Nd,cs=ndC s/\s.n.size<=Rows.uptoBulk x.1/\s.r.size<=Rows.uptoBulk x.1:=by
 have hu:=Tryz.underlying64
 obtain ⟨xs,n,_,hx,hl,hlen,hfs⟩:=DataW.trod_struct hu h
 obtain ⟨c0,c1,rfl⟩:=list2 (hl.trans cellsNd)
 match xs,hlen with
 | [y0,y1],_ =>
  have k9:Tryz.prog.cellsOf 9=1:=by kernel_rfl
  have g0:=hfs 0 _ rfl
  have g1:=hfs 1 _ rfl
  simp [k9] at g0 g1
  obtain ⟨a4,e4,rfl,w4⟩:=DataW.trod_string Tryz.underlying9 g0
  obtain ⟨a5,e5,rfl,w5⟩:=DataW.trod_string Tryz.underlying9 g1
  simp at e4 e5
  subst e4
  subst e5
  refine ⟨⟨a4,a5⟩,rfl,?_,?_⟩
  ·rw [hx]
   simp only [List.map,Rows.uptoBulk,Rows.uptoBulkAll,Array.length_toList]
   have e1:a4.data.size=a4.size:=rfl
   omega
  ·rw [hx]
   simp only [List.map,Rows.uptoBulk,Rows.uptoBulkAll,Array.length_toList]
   have e1:a5.data.size=a5.size:=rfl
   omega
theorem nd_of_cells {w:World} {a:Addr} {n:Nat} {s:Nd} (h:∀k v,(ndC s)[k]?=some v->w.cell? (a.add (n+k))=some v):NdAt w (a.add n) s :=
 ⟨by have:=h 0 _ rfl;simpa using this,by have:=h 1 _ rfl;rw [hadd_off a n 1 (by omega)] at this;exact this⟩
set_option maxRecDepth 100000 in
theorem open_needs {H:Type} {enc:TypeId × Value->H} {w:World} {base:Nat} {spare:Nat->Bool} {held:Bool} {fuel:Nat} {v:Value} {x:DataW H × List MemPlace}
  (h:DataW.trod enc Tryz.prog w base spare held fuel 33 [v]=some x):∃L:List Nd,NdS w v L/\L.length<=Rows.uptoBulk x.1/\∀y ∈ L,y.n.size<=Rows.uptoBulk x.1/\y.r.size<=Rows.uptoBulk x.1:=by
 have hu:=Tryz.underlying33
 rcases Deep.open_slice hu h with ⟨hcs,hx⟩ | ⟨a,len,cap,m,n,D,Pl,hcs,hb,hl,hm,hmm,hx,hel⟩
 ·simp at hcs
  exact ⟨[],Or.inl ⟨hcs,rfl⟩,by simp,by simp⟩
 ·simp at hcs
  subst hcs
  have hle:len<=m:=by rw [hmm];split <;> omega
  have hS:∀i,i < len->∃s:Nd,(∀k u,(ndC s)[k]?=some u->w.cell? (a.add (i * 2+k))=some u)/\s.n.size<=Rows.uptoBulk (D i)/\s.r.size<=Rows.uptoBulk (D i):=by
   intro i hi
   obtain ⟨cs',h1,h2⟩:=hel i (by omega)
   obtain ⟨s,hc,hs1,hs2⟩:=need_cells h2
   refine ⟨s,fun k u hu=>?_,hs1,hs2⟩
   rw [cellsNd] at h1
   obtain ⟨-,h4,h3⟩:=World.cells?_some h1
   have hk:k < 2:=(List.getElem?_eq_some_iff.1 hu).1
   have h5:=h3 k hk
   rw [Deep.add_add,hc,hu] at h5
   exact h5
  obtain ⟨S,hS⟩:=Deep.choose_lt hS
  have hlen:((List.range len).map S).length=len:=by simp
  refine ⟨(List.range len).map S,Or.inr ⟨a,cap,by rw [hlen],by rw [hlen];exact hl,fun i hi=>?_⟩,?_,fun y hy=>?_⟩
  ·have hi':i < len:=by rw [hlen] at hi;exact hi
   rw [List.getElem_map,List.getElem_range]
   exact nd_of_cells (hS i hi').1
  ·rw [hx,hlen]
   simp only [Rows.uptoBulk]
   have:=len_bulk ((List.range len).map D)
   simp only [List.length_map,List.length_range] at this
   omega
  ·obtain ⟨i,hi,rfl⟩:=List.mem_map.1 hy
   have hm:=mem_bulk ((List.range len).map D) (D i) (List.mem_map.2 ⟨i,hi,rfl⟩)
   have:=(hS i (List.mem_range.1 hi)).2
   rw [hx];simp only [Rows.uptoBulk];omega
set_option maxRecDepth 100000 in
set_option maxHeartbeats 800000 in
theorem rel_cells {H:Type} {enc:TypeId × Value->H} {w:World} {base:Nat} {spare:Nat->Bool} {held:Bool} {fuel:Nat} {cs:List Value} {x:DataW H × List MemPlace}
  (h:DataW.trod enc Tryz.prog w base spare held fuel 41 cs=some x) :
  ∃(r:Re) (v:Value),cs=[.string r.nm,.string r.ve,v,.string r.da]/\NdS w v r.nd/\r.nm.size<=Rows.uptoBulk x.1/\r.ve.size<=Rows.uptoBulk x.1/\r.nd.length<=Rows.uptoBulk x.1/\∀y ∈ r.nd,y.n.size<=Rows.uptoBulk x.1/\y.r.size<=Rows.uptoBulk x.1:=by
 have hu:=Tryz.underlying41
 obtain ⟨xs,n,_,hx,hl,hlen,hfs⟩:=DataW.trod_struct hu h
 obtain ⟨c0,c1,c2,c3,rfl⟩:=list4 (hl.trans cellsRe)
 match xs,hlen with
 | [y0,y1,y2,y3],_ =>
  have k9:Tryz.prog.cellsOf 9=1:=by kernel_rfl
  have k8:Tryz.prog.cellsOf 33=1:=by kernel_rfl
  have g0:=hfs 0 _ rfl
  have g1:=hfs 1 _ rfl
  have g2:=hfs 2 _ rfl
  have g3:=hfs 3 _ rfl
  simp [k8,k9] at g0 g1 g2 g3
  obtain ⟨a0,e0,rfl,w0⟩:=DataW.trod_string Tryz.underlying9 g0
  obtain ⟨a1,e1,rfl,w1⟩:=DataW.trod_string Tryz.underlying9 g1
  obtain ⟨a3,e3,rfl,w3⟩:=DataW.trod_string Tryz.underlying9 g3
  obtain ⟨N,hN,hNl,hNy⟩:=open_needs g2
  simp at e0 e1 e3
  subst e0
  subst e1
  subst e3
  refine ⟨⟨a0,a1,N,a3⟩,c2,rfl,hN,?_,?_,?_,fun y hy=>?_⟩
  ·rw [hx]
   simp only [List.map,Rows.uptoBulk,Rows.uptoBulkAll,Array.length_toList]
   have e1:a0.data.size=a0.size:=rfl
   omega
  ·rw [hx]
   simp only [List.map,Rows.uptoBulk,Rows.uptoBulkAll,Array.length_toList]
   have e1:a1.data.size=a1.size:=rfl
   omega
  ·rw [hx]
   simp only [List.map,Rows.uptoBulk,Rows.uptoBulkAll,Array.length_toList]
   omega
  ·have:=hNy y hy
   rw [hx]
   simp only [List.map,Rows.uptoBulk,Rows.uptoBulkAll,Array.length_toList]
   omega
set_option maxRecDepth 100000 in
theorem open_releases {H:Type} {enc:TypeId × Value->H} {w:World} {base:Nat} {spare:Nat->Bool} {held:Bool} {r:Reach} {b0:Nat} {v:Value} {d:DataW H} {p:List MemPlace}
  (hv:Value.okWide Tryz.prog w r b0 22 v) (h:DataW.Trod enc Tryz.prog w base spare held 22 v d p) :
  ∃L:List Re,ReS w v L/\L.length<=Rows.uptoBulk d/\∀s ∈ L,s.nm.size<=Rows.uptoBulk d/\s.ve.size<=Rows.uptoBulk d/\s.nd.length<=Rows.uptoBulk d/\∀y ∈ s.nd,y.n.size<=Rows.uptoBulk d/\y.r.size<=Rows.uptoBulk d:=by
 have hu:=Tryz.underlying22
 obtain ⟨a0,l0,c0,rfl⟩:=okWide_slice hu hv
 obtain ⟨fuel,hf⟩:=h
 rcases Deep.open_slice hu hf with ⟨hcs,hx⟩ | ⟨a,len,cap,m,n,D,Pl,hcs,hb,hl,hm,hmm,hx,hel⟩
 ·simp [Value.cells] at hcs
  obtain ⟨rfl,rfl,rfl⟩:=hcs
  exact ⟨[],Or.inl ⟨rfl,rfl⟩,by simp,by simp⟩
 ·simp [Value.cells] at hcs
  obtain ⟨rfl,rfl,rfl⟩:=hcs
  have hle:l0<=m:=by rw [hmm];split <;> omega
  have hS:∀i,i < l0->∃s:Re,ReAt w (a.add (i * 4)) s/\s.nm.size<=Rows.uptoBulk (D i)/\s.ve.size<=Rows.uptoBulk (D i)/\s.nd.length<=Rows.uptoBulk (D i)/\∀y ∈ s.nd,y.n.size<=Rows.uptoBulk (D i)/\y.r.size<=Rows.uptoBulk (D i):=by
   intro i hi
   obtain ⟨cs',h1,h2⟩:=hel i (by omega)
   obtain ⟨s,v,hc,hn,hv1,hv2,hv3,hv4⟩:=rel_cells h2
   rw [cellsRe] at h1
   obtain ⟨-,h4,h3⟩:=World.cells?_some h1
   subst hc
   have q0:=h3 0 (by omega)
   have q1:=h3 1 (by omega)
   have q2:=h3 2 (by omega)
   have q3:=h3 3 (by omega)
   rw [Deep.add_add] at q0 q1 q2 q3
   rw [hadd_off _ _ _ (by omega)] at q1 q2 q3
   exact ⟨s,⟨by simpa using q0,by simpa using q1,⟨v,by simpa using q2,hn⟩,by simpa using q3⟩,hv1,hv2,hv3,hv4⟩
  obtain ⟨S,hS⟩:=Deep.choose_lt hS
  have hlen:((List.range l0).map S).length=l0:=by simp
  have hd:d=.slice ((List.range l0).map D) ((List.range (m - l0)).map fun j=>D (l0+j)):=congrArg Prod.fst hx
  have hbl:=len_bulk ((List.range l0).map D)
  simp only [List.length_map,List.length_range] at hbl
  refine ⟨(List.range l0).map S,Or.inr ⟨a,c0,by rw [hlen],by rw [hlen];exact hl,fun i hi=>?_⟩,?_,fun s hs=>?_⟩
  ·have hi':i < l0:=by rw [hlen] at hi;exact hi
   rw [List.getElem_map,List.getElem_range]
   exact (hS i hi').1
  ·rw [hd,hlen];simp only [Rows.uptoBulk];omega
  ·obtain ⟨i,hi,rfl⟩:=List.mem_map.1 hs
   have hm:=mem_bulk ((List.range l0).map D) (D i) (List.mem_map.2 ⟨i,hi,rfl⟩)
   obtain ⟨-,b1,b2,b3,b4⟩:=hS i (List.mem_range.1 hi)
   rw [hd];simp only [Rows.uptoBulk]
   exact ⟨by omega,by omega,by omega,fun y hy=>by have:=b4 y hy;exact ⟨by omega,by omega⟩⟩
end Go.Proofs.YtfplkhnclmidnaaGreatDoor
