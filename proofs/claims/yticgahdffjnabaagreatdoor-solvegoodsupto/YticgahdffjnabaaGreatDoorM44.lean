import Derived.Test.YticgahdffjnabaaGreatDoorM42
import Derived.Test.YticgahdffjnabaaGreatDoorM39
import Derived.Test.YticgahdffjnabaaGreatDoorM43
import Derived.Test.YticgahdffjnabaaGreatDoorM03
set_option linter.unusedVariables false
set_option maxHeartbeats 6400000
namespace Go.Proofs.YticgahdffjnabaaGreatDoor
open Go.RowKit
def hitE (b:Bool) (W:Int):Int:=if b=true then 5 else W
theorem hit_next (L:List Re) (n v:ByteArray) (k:Nat) (hk:k < L.length):(L.take (k+1)).any (hitB n v)=((L.take k).any (hitB n v) || hitB n v L[k]):=by
 rw [List.take_succ_eq_append_getElem hk,List.any_append];simp
set_option maxRecDepth 100000 in
theorem checkShelf_at (a:Addr) (cap:Nat) (L:List Re) (w:World) (hcap:L.length<=cap) (h:∀j (hj:j < L.length),ReAt w (a.add (j * 4)) L[j]) (hL:L.length<=1048576) (hV:∀x ∈ L,x.nm.size < 2 ^ 60/\x.ve.size < 2 ^ 60) (hN:∀x ∈ L,x.nd.length<=1048576) (hS:∀x ∈ L,∀y ∈ x.nd,y.n.size < 2 ^ 60/\y.r.size < 2 ^ 60) :
  Calls Tryz.prog 14 #[.slice (some a) L.length cap] w fun e w'=>e=.returned (.tuple #[.int .i64 (chkFrom L L.length).1,.int .i64 ((chkFrom L L.length).2:Int)])/\w.grownBy w' none:=by
 have HA:Hd (∀j (hj:j < L.length),ReAt w (a.add (j * 4)) L[j]):=h;have CN:Hd (∀x ∈ L,∀w,Calls Tryz.prog 26 #[.string x.nm] w fun e w'=>e=.returned (.bool (nameB x.nm))/\w'=w):=fun x hx w=>rname_any x.nm w (by have:=(hV x hx).1;omega)
 have CV:Hd (∀x ∈ L,∀w,Calls Tryz.prog 27 #[.string x.ve] w fun e w'=>e=.returned (.bool (okV x.ve))/\w.grownBy w' none):=fun x hx w=>isVersion_any x.ve w (by have:=(hV x hx).2;omega)
 have CW:Hd (∀x ∈ L,∀v w,NdS w v x.nd->Calls Tryz.prog 15 #[v] w fun e w'=>e=.returned (.int .i64 (wrongN x.nd))/\w.grownBy w' none):=fun x hx v w h=>cWrong v x.nd w h (hN x hx) (hS x hx)
 have CT:Hd (∀x ∈ L,∀y ∈ L,∀w,Calls Tryz.prog 28 #[.string y.ve,.string x.ve] w fun e w'=>e=.returned (.bool (togB y.ve x.ve))/\w.grownBy w' none):=fun x hx y hy w=>together_any y.ve x.ve w (by have:=(hV y hy).2;omega) (by have:=(hV x hx).2;omega)
 have HNL:Hd (∀x ∈ L,x.nd.length<=1048576):=hN;have HH:Hd (∀i,i < L.length->¬ faultL L i=0->chkFrom L (L.length - i)=(faultL L i,i)):=chk_hit L;have HM:Hd (∀i,i < L.length->faultL L i=0->chkFrom L (L.length - i)=chkFrom L (L.length - (i+1))):=chk_miss L;obtain ⟨R,hR⟩:=nm (chkFrom L L.length);have HS0:Hd (chkFrom L (L.length - 0)=R):=hR;rw [hR];clear h hV hN hS hR;go_enter Tryz.func14,Tryz.ntmps14;go_wp2;go_loopw [4] (fun vi wr=>∃i:Nat,vi=.int .i64 i/\i<=L.length/\chkFrom L (L.length - i)=R/\w.grownBy wr none) (fun vi _=>L.length - (intOf vi).toNat)
 case atStart=>exact ⟨0,rfl,Nat.zero_le _,HS0.o,gb_refl _ _⟩
 case round =>
  obtain ⟨i,rfl,hi,hc,hg⟩:=hrel;have HG:Hd (w.grownBy wr none):=hg;have HC:Hd (chkFrom L (L.length - i)=R):=hc
  by_cases hlt:i < L.length
  ·obtain ⟨x,hx⟩:=nm (L[i]);have hmem:x ∈ L:=by rw [<-hx];exact List.getElem_mem _
   have HMEM:Hd (x ∈ L):=hmem;have hFL:faultL L i=faultR i (L.take i) x:=by rw [faultL_at L i hlt,hx]
   have HH':Hd (¬ faultR i (L.take i) x=0->R=(faultR i (L.take i) x,i)):=fun h=>by rw [<-hFL] at h ⊢;exact HC.o.symm.trans (HH.o i hlt h)
   have HM':Hd (faultR i (L.take i) x=0->chkFrom L (L.length - (i+1))=R):=fun h=>by rw [<-hFL] at h;exact (HM.o i hlt h).symm.trans HC.o
   obtain ⟨e0,e1,⟨sv,e2,hsv⟩,e3⟩:ReAt wr (a.add (i * 4)) x:=by rw [<-hx];exact (HA.o i hlt).grow hg
   have HSV:Hd (NdS wr sv x.nd):=hsv;obtain ⟨so,sc,rfl⟩:=nds_slice hsv;have hnl:=HNL.o x hmem;have CN':Hd (∀w,Calls Tryz.prog 26 #[.string x.nm] w fun e w'=>e=.returned (.bool (nameB x.nm))/\w'=w):=fun w=>CN.o x hmem w
   have CV':Hd (∀w,Calls Tryz.prog 27 #[.string x.ve] w fun e w'=>e=.returned (.bool (okV x.ve))/\w.grownBy w' none):=fun w=>CV.o x hmem w
   have CW':Hd (∀v w,NdS w v x.nd->Calls Tryz.prog 15 #[v] w fun e w'=>e=.returned (.int .i64 (wrongN x.nd))/\w.grownBy w' none):=fun v w h=>CW.o x hmem v w h
   have CT':Hd (∀y ∈ L,∀w,Calls Tryz.prog 28 #[.string y.ve,.string x.ve] w fun e w'=>e=.returned (.bool (togB y.ve x.ve))/\w.grownBy w' none):=fun y hy w=>CT.o x hmem y hy w
   clear hc hg hx hmem hFL hsv
   by_cases hm:50<=i
   ·have HR:Hd (R=(4,i)):=by
     have:=HH'.o (by rw [fault_many (Or.inl hm)];decide)
     rwa [fault_many (Or.inl hm)] at this
    go_wp2;refine bodyPost_ret (results_tmp2 (t:=2) (u:=3) rfl _ _ _) rfl ⟨?_,gb_alloc HG.o _⟩;rw [HR.o];rfl
   ·by_cases hn:20 < x.nd.length
    ·have HR:Hd (R=(4,i)):=by
      have:=HH'.o (by rw [fault_many (Or.inr hn)];decide)
      rwa [fault_many (Or.inr hn)] at this
     go_wp2;refine bodyPost_ret (results_tmp2 (t:=2) (u:=3) rfl _ _ _) rfl ⟨?_,gb_alloc HG.o _⟩;rw [HR.o];rfl
    ·have hmany:¬ (50<=i\/20 < x.nd.length):=by omega
     have HT:Hd (nameB x.nm=false\/okV x.ve=false\/wrongN x.nd=2->R=(2,i)):=fun h=>by
      have h1:=fault_text (P:=L.take i) hmany h;have:=HH'.o (by rw [h1];decide)
      rwa [h1] at this
     have HQ:Hd (¬ (nameB x.nm=false\/okV x.ve=false\/wrongN x.nd=2)->(hitE ((L.take i).any (hitB x.nm x.ve)) (wrongN x.nd)=0->chkFrom L (L.length - (i+1))=R)/\(¬ hitE ((L.take i).any (hitB x.nm x.ve)) (wrongN x.nd)=0->R=(hitE ((L.take i).any (hitB x.nm x.ve)) (wrongN x.nd),i))):=fun h=>by
      have h1:=fault_rest (P:=L.take i) hmany h;have h2:hitE ((L.take i).any (hitB x.nm x.ve)) (wrongN x.nd)=faultR i (L.take i) x:=by
       rw [h1];unfold hitE
       rcases wrong_one x.nd with h3 | h3 | h3
       ·rw [h3];cases (L.take i).any (hitB x.nm x.ve) <;> simp
       ·exact absurd (Or.inr (Or.inr h3)) h
       ·rw [h3];cases (L.take i).any (hitB x.nm x.ve) <;> simp
      rw [h2];exact ⟨HM'.o,HH'.o⟩
     obtain ⟨q1,hq1⟩:∃q,nameB x.nm=q:=⟨_,rfl⟩;obtain ⟨q2,hq2⟩:∃q,okV x.ve=q:=⟨_,rfl⟩;obtain ⟨W,hW⟩:=nm (wrongN x.nd);rw [hq1] at HT HQ CN';rw [hq2] at HT HQ CV';rw [hW] at HT HQ CW';obtain ⟨nn,hnn⟩:=nm (x.nd.length);rw [hnn] at HSV e2 hn hnl;have HXX:Hd (∀k (hk:k < L.length),hitB x.nm x.ve L[k]=(decide (L[k].nm=x.nm) && togB L[k].ve x.ve)):=fun k hk=>rfl
     obtain ⟨xn,xv,xd,xa⟩:=x;simp only [] at CN' CV' CW' CT' e0 e1 e3 HSV HQ HXX;clear hmany hq1 hq2 hW hnn;obtain ⟨A,hA⟩:=nm (wr.heap.size);go_wp2_with (first | (go_at_call 26;refine (CN'.o _).mono ?_;rintro e w' ⟨rfl,rfl⟩) | (go_at_call 27;refine (CV'.o _).mono ?_));rintro e w1 ⟨rfl,hg1⟩;obtain ⟨c0,c1,c2,c3⟩:=re_block ((hg1.block wr.heap.size (by simp) (by simp)).trans (heap_alloc_new wr _));have HG1:Hd (wr.grownBy w1 none):=gb_trans (gb_alloc (gb_refl wr none) _) hg1
     try rw [hA]
     rw [hA] at c0 c1 c2 c3;clear hg1 e0 e1 e2 e3 hA;go_wp2_with (first | (go_at_call 15;refine (CW'.o _ _ (HSV.o.grow HG1.o)).mono ?_));rintro e w2 ⟨rfl,hg2⟩;have f0:=hg2.cell c0 (by simp);have f1:=hg2.cell c1 (by simp);have HG2:Hd (w.grownBy w2 none):=gb_trans HG.o (gb_trans HG1.o hg2);have HF01:Hd (w2.cell? ⟨A,0,none⟩=some (.string xn)/\w2.cell? ⟨A,1,none⟩=some (.string xv)):=⟨f0,f1⟩;clear c0 c1 c2 c3 hg2 HSV f0 f1
     cases q1 with
     | false =>
      go_wp2;refine bodyPost_ret (results_tmp2 (t:=2) (u:=3) rfl _ _ _) rfl ⟨?_,HG2.o⟩;rw [HT.o (Or.inl (by trivial))];rfl
     | true =>
      cases q2 with
      | false =>
       go_wp2;refine bodyPost_ret (results_tmp2 (t:=2) (u:=3) rfl _ _ _) rfl ⟨?_,HG2.o⟩;rw [HT.o (Or.inr (Or.inl (by trivial)))];rfl
      | true =>
       by_cases hW2:W=2
       ·subst hW2;go_wp2;refine bodyPost_ret (results_tmp2 (t:=2) (u:=3) rfl _ _ _) rfl ⟨?_,HG2.o⟩;rw [HT.o (Or.inr (Or.inr (by trivial)))];rfl
       ·have hw2:(W == 2)=false:=by simp [hW2]
        have HQ':Hd ((hitE ((L.take i).any (hitB xn xv)) W=0->chkFrom L (L.length - (i+1))=R)/\(¬ hitE ((L.take i).any (hitB xn xv)) W=0->R=(hitE ((L.take i).any (hitB xn xv)) W,i))):=HQ.o (by simp [hW2]);clear hW2;go_wp2;clear hw2;go_loopw [8,9] (fun ve vk wk=>∃k:Nat,vk=.int .i64 k/\ve=.int .i64 (hitE ((L.take k).any (hitB xn xv)) W)/\k<=i/\w2.grownBy wk none) (fun _ vk _=>i - (intOf vk).toNat)
        case atStart=>exact ⟨0,rfl,rfl,Nat.zero_le _,gb_refl _ _⟩
        case round =>
         obtain ⟨k,rfl,rfl,hk,hgk⟩:=hrel;have HGK:Hd (w2.grownBy wr none):=hgk;have HGW:Hd (w.grownBy wr none):=gb_trans HG2.o hgk;have f0:=hgk.cell HF01.o.1 (by simp);have f1:=hgk.cell HF01.o.2 (by simp)
         by_cases hki:k < i
         ·have hkl:k < L.length:=by omega
          obtain ⟨y,hy⟩:=nm (L[k]);obtain ⟨p0,p1,-,-⟩:ReAt wr (a.add (k * 4)) y:=by rw [<-hy];exact (HA.o k hkl).grow HGW.o
          have CTT:Hd (Calls Tryz.prog 28 #[.string y.ve,.string xv] wr.drew fun e w'=>e=.returned (.bool (togB y.ve xv))/\wr.drew.grownBy w' none):=CT'.o y (by rw [<-hy];exact List.getElem_mem _) _;have HAN:Hd ((L.take (k+1)).any (hitB xn xv)=((L.take k).any (hitB xn xv) || (decide (y.nm=xn) && togB y.ve xv))):=by
           show _=_;rw [hit_next L xn xv k hkl,HXX.o k hkl,hy]
          obtain ⟨q0,hq0⟩:∃q,(L.take k).any (hitB xn xv)=q:=⟨_,rfl⟩;obtain ⟨tg,htg⟩:∃q,togB y.ve xv=q:=⟨_,rfl⟩;rw [hq0] at HAN;rw [htg] at CTT HAN
          try rw [hq0]
          obtain ⟨yn,yv,yd,ya⟩:=y;simp only [] at CTT HAN p0 p1;clear hgk hy hq0 htg;have HCELLS:Hd (wr.cell? (a.add (k * 4))=some (.string yn)/\wr.cell? ⟨A,0,none⟩=some (.string xn)):=⟨p0,f0⟩;go_wp2
          go_region_held3 (fun w'=>w'.cell? ⟨(a.add (k * 4)).block,(a.add (k * 4)).off+1,none⟩=some (.string yv)/\w'.cell? ⟨A,1,none⟩=some (.string xv)) ((first | exact ⟨World.grownBy.cell (by assumption) (And.left (by assumption)) (by simp),World.grownBy.cell (by assumption) (And.right (by assumption)) (by simp)⟩ | go_keep)) (first | (go_at_call 28;refine CTT.o.mono ?_;rintro e w3 ⟨rfl,hg3⟩))
          have hg4:wr.grownBy w3 none:=gb_undrew hg3;have r0:=hg4.cell HCELLS.o.1 (by simp);have r1:=hg4.cell HCELLS.o.2 (by simp);have HG4:Hd (w2.grownBy w3 none):=gb_trans HGK.o hg4;clear hg3 hg4 p0 p1 f0 f1
          by_cases hxy:yn=xn
          ·have q:=txt_eq hxy
           cases tg with
           | true =>
            have HV:Hd ((5:Int)=hitE ((L.take (k+1)).any (hitB xn xv)) W):=by
             show _=_;rw [HAN.o];simp [hxy,hitE]
            go_wp2;go_quiet (fail);go_wp2;go_roundw
            case rel=>exact ⟨k+1,by go_num,by rw [<-HV.o],by omega,gb_drew HG4.o _⟩
            case measure=>simp [intOf];omega
           | false =>
            have HV:Hd (hitE q0 W=hitE ((L.take (k+1)).any (hitB xn xv)) W):=by
             show _=_;rw [HAN.o];simp
            go_wp2;go_quiet (fail);go_wp2;go_roundw
            case rel=>exact ⟨k+1,by go_num,by rw [<-HV.o],by omega,gb_drew HG4.o _⟩
            case measure=>simp [intOf];omega
          ·have q:=txt_ne hxy;have HV:Hd (hitE q0 W=hitE ((L.take (k+1)).any (hitB xn xv)) W):=by
            show _=_;rw [HAN.o];simp [hxy]
           go_wp2;go_quiet (fail);go_wp2;go_roundw
           case rel=>exact ⟨k+1,by go_num,by rw [<-HV.o],by omega,gb_drew HG4.o _⟩
           case measure=>simp [intOf];omega
         ·have hke:k=i:=by omega
          subst hke;clear hgk hk f0 f1;obtain ⟨E1,hE1⟩:∃E,hitE ((L.take k).any (hitB xn xv)) W=E:=⟨_,rfl⟩;rw [hE1] at HQ'
          try rw [hE1]
          clear hE1
          by_cases hz:E1=0
          ·subst hz;go_wp2;go_roundw
           case rel=>exact ⟨k+1,by go_num,by omega,HQ'.o.1 rfl,HGW.o⟩
           case measure=>simp [intOf];omega
          ·have hz1:(E1 != 0)=true:=by simp [hz]
           have HR:Hd (R=(E1,k)):=HQ'.o.2 hz;clear hz;go_wp2;refine bodyPost_ret (results_tmp2 (t:=2) (u:=3) rfl _ _ _) rfl ⟨?_,HGW.o⟩;rw [HR.o];rfl
  ·have hil:i=L.length:=by omega
   have HR:Hd (R=(0,0)):=by
    show R=_;rw [<-hc,hil,Nat.sub_self];rfl
   clear hc hg hil hi;go_wp2;refine bodyPost_ret (results_tmp2 (t:=2) (u:=3) rfl _ _ _) rfl ⟨?_,HG.o⟩;rw [HR.o];rfl
theorem checkShelf_nil (w:World):Calls Tryz.prog 14 #[.slice none 0 0] w fun e w'=>e=.returned (.tuple #[.int .i64 0,.int .i64 0])/\w.grownBy w' none:=by
 go_enter Tryz.func14,Tryz.ntmps14;go_wp2;go_loopw [4] (fun vi wr=>vi=.int .i64 0/\w.grownBy wr none) (fun vi _=>0)
 case atStart=>exact ⟨rfl,gb_refl _ _⟩
 case round =>
  obtain ⟨rfl,hb⟩:=hrel;have HB:Hd (w.grownBy wr none):=hb;clear hb;go_wp2;exact bodyPost_ret (results_tmp2 (t:=2) (u:=3) rfl _ _ _) rfl ⟨rfl,HB.o⟩
theorem cCheckShelf (v:Value) (L:List Re) (w:World) (h:ReS w v L) (hL:L.length<=1048576) (hV:∀x ∈ L,x.nm.size < 2 ^ 60/\x.ve.size < 2 ^ 60) (hN:∀x ∈ L,x.nd.length<=1048576) (hS:∀x ∈ L,∀y ∈ x.nd,y.n.size < 2 ^ 60/\y.r.size < 2 ^ 60) :
  Calls Tryz.prog 14 #[v] w fun e w'=>e=.returned (.tuple #[.int .i64 (chkFrom L L.length).1,.int .i64 ((chkFrom L L.length).2:Int)])/\w.grownBy w' none:=by
 rcases h with ⟨rfl,rfl⟩ | ⟨a,cap,rfl,h2,h3⟩
 ·exact checkShelf_nil w
 ·exact checkShelf_at a cap L w h2 h3 hL hV hN hS
open Go.RowKit Go.Maps
theorem is_take {w:World} {a:Addr} {cap:Nat} {C:List Int} (hcap:C.length<=cap) (h:∀j (hj:j < C.length),w.cell? (a.add j)=some (.int .i64 C[j])) (i:Nat) (hi:i<=C.length):IS w (.slice (some a) (C.take i).length cap) (C.take i):=by
 refine Or.inr ⟨a,cap,rfl,by rw [List.length_take];omega,fun j hj=>?_⟩;rw [List.length_take] at hj;rw [List.getElem_take];exact h j (by omega)
set_option maxRecDepth 100000 in
theorem rGood_any (v v' vc:Value) (N:List Nd) (L:List Re) (C:List Int) (w:World) (h:NdS w v N) (h':ReS w v' L) (hc:IS w vc C) (hN:N.length<=1048576) (hL:L.length<=1048576) (hC:C.length<=1048576) (hS:∀y ∈ N,y.n.size < 2 ^ 60/\y.r.size < 2 ^ 60) (hV:∀x ∈ L,x.nm.size < 2 ^ 60/\x.ve.size < 2 ^ 60) (hLN:∀x ∈ L,x.nd.length<=1048576) (hSS:∀x ∈ L,∀y ∈ x.nd,y.n.size < 2 ^ 60/\y.r.size < 2 ^ 60) :
  Calls Tryz.prog 8 #[v,v',vc] w fun e w'=>(∃b:Bool,e=.returned (.bool b)/\(b=true ↔ GoodP N L C))/\w.grownBy w' none:=by
 have CK:Hd (Calls Tryz.prog 14 #[v'] w fun e w'=>e=.returned (.tuple #[.int .i64 (chkFrom L L.length).1,.int .i64 ((chkFrom L L.length).2:Int)])/\w.grownBy w' none):=cCheckShelf v' L w h' hL hV hLN hSS;have CWr:Hd (∀w',w.grownBy w' none->Calls Tryz.prog 15 #[v] w' fun e w''=>e=.returned (.int .i64 (wrongN N))/\w'.grownBy w'' none):=fun w' hg=>cWrong v N w' (h.grow hg) hN hS
 obtain ⟨o,c,rfl⟩:=reS_sl h';obtain ⟨oc,cc,rfl⟩:=is_slice hc;have CM:Hd ((chkFrom L L.length).1=0->wrongN N=0->(∀z ∈ C,0<=z/\z < (L.length:Int))->∀w',w.grownBy w' none->Calls Tryz.prog 16 #[v,.slice o L.length c,.slice oc C.length cc] w' fun e w''=>e=.returned (.bool (metD N L C))/\w'.grownBy w'' none):=fun h1 h2 hin w' hg=>rMet_any v o oc c cc N L C w' (h.grow hg) (h'.grow hg) (hc.grow hg) hN hL hC hin (fun y hy=>by
  have:=wrong_zero h2 y hy;unfold goodN at this;rw [Bool.and_eq_true] at this;exact this.2) (fun y hy=>(hS y hy).2) (fun x hx=>(hV x hx).2)
 have CR:Hd ((chkFrom L L.length).1=0->(∀z ∈ C,0<=z/\z < (L.length:Int))->∀x ∈ L,∀sv w',w.grownBy w' none->NdS w' sv x.nd->Calls Tryz.prog 16 #[sv,.slice o L.length c,.slice oc C.length cc] w' fun e w''=>e=.returned (.bool (metD x.nd L C))/\w'.grownBy w'' none):=fun h1 hin x hx sv w' hg hs=>rMet_any sv o oc c cc x.nd L C w' hs (h'.grow hg) (hc.grow hg) (hLN x hx) hL hC hin ((chk_small L h1).2 x hx).2.2 (fun y hy=>(hSS x hx y hy).2) (fun x hx=>(hV x hx).2)
 have CC:Hd ((∀z ∈ C,0<=z/\z < (L.length:Int))->∀i,i < C.length->∀n w',w.grownBy w' none->Calls Tryz.prog 17 #[.slice o L.length c,.slice oc i cc,.string n] w' fun e w''=>e=.returned (.int .i64 (chI L (C.take i) n))/\w'.grownBy w'' none):=fun hin i hi n w' hg=>by
  obtain ⟨a,ho,hcp,hat⟩:=is_at (hc.grow hg) hi;subst ho;have hl:(C.take i).length=i:=by rw [List.length_take];omega
  have h1:=is_take hcp hat i (by omega);have:=chosenOf_any o (some a) c cc L (C.take i) n w' (h'.grow hg) h1 hL (by omega) (fun z hz=>hin z (List.mem_of_mem_take hz));rw [hl] at this;exact this
 have CT:Hd ((∀z ∈ C,0<=z/\z < (L.length:Int))->∀w',w.grownBy w' none->Calls Tryz.prog 18 #[v,.slice o L.length c,.slice oc C.length cc] w' fun e w''=>∃B,e=.returned (.slice (some ⟨B,0,none⟩) C.length C.length)/\BB w'' B (wD N L C (C.length+1))/\w'.grownBy w'' none):=fun hin w' hg=>rWanted_any v o oc c cc N L C w' (h.grow hg) (h'.grow hg) (hc.grow hg) hN hL hC hin hLN
 have HEL:Hd (∀w',w.grownBy w' none->∀i,i < L.length->∃a,o=some a/\L.length<=c/\∀j (hj:j < L.length),ReAt w' (a.add (j * 4)) L[j]):=fun w' hg i hi=>reS_at (h'.grow hg) hi
 have HEI:Hd (∀w',w.grownBy w' none->∀i,i < C.length->∃a,oc=some a/\C.length<=cc/\∀j (hj:j < C.length),w'.cell? (a.add j)=some (.int .i64 C[j])):=fun w' hg i hi=>is_at (hc.grow hg) hi
 have HIS:Hd (∀i (hi:i < C.length),inR L C (i+1)=(inR L C i && decide (0<=C[i]/\C[i] < (L.length:Int)))):=fun i hi=>inR_step L C i hi
 have HGO:Hd (∀i (hi:i < C.length),¬ (0<=C[i]/\C[i] < (L.length:Int))->¬ GoodP N L C):=fun i hi hn hg=>hn (good_in hg _ (List.getElem_mem hi))
 have HIA:Hd (inR L C C.length=true->∀z ∈ C,0<=z/\z < (L.length:Int)):=fun hr z hz=>by
  unfold inR at hr;rw [List.take_length,List.all_eq_true] at hr;exact of_decide_eq_true (hr z hz)
 have HGF:Hd (¬ ((chkFrom L L.length).1=0/\wrongN N=0)->¬ GoodP N L C):=fun hn hg=>hn (by
  have:=hg.f;unfold faultB at this;split at this
  ·rename_i h1;exact ⟨h1,this⟩
  ·exact absurd this (by decide))
 have HGD:Hd ((chkFrom L L.length).1=0->wrongN N=0->(∀z ∈ C,0<=z/\z < (L.length:Int))->(GoodP N L C ↔ ok2 N L C C.length=true/\(wD N L C (C.length+1)).all id=true)):=fun h1 h2 hin=>good_doc (by unfold faultB;rw [if_pos h1];exact h2) hin
 have HO2:Hd (∀i,ok2 N L C (i+1)=(ok2 N L C i && metD (ndQ L C i) L C && decide (chI L (C.take i) (nC L C i) < 0))):=fun i=>rfl
 have HO0:Hd (ok2 N L C 0=metD N L C):=rfl;have HNC:Hd (∀i (hi:i < C.length) (k:Nat) (hk:k < L.length),C[i]=(k:Int)->nC L C i=L[k].nm/\ndQ L C i=L[k].nd):=fun i hi k hk he=>by
  have e1:(C[i]).toNat=k:=by omega
  exact ⟨by rw [nC_at L C i hi,e1,nmK_at L k hk],by rw [ndQ_at L C i hi,e1,ndK_at L k hk]⟩
 have HWL:Hd ((wD N L C (C.length+1)).length=C.length):=wD_len _;obtain ⟨on,nn,cn,rfl⟩:∃o n c,v=.slice o n c:=by
  rcases h with ⟨rfl,-⟩ | ⟨_,_,rfl,-⟩ <;> exact ⟨_,_,_,rfl⟩
 obtain ⟨E,hE⟩:=nm ((chkFrom L L.length).1);obtain ⟨K,hK⟩:∃K:Int,((chkFrom L L.length).2:Int)=K:=⟨_,rfl⟩;obtain ⟨F,hFe⟩:=nm (wrongN N);rw [hE,hK] at CK;rw [hE] at CM CR HGF HGD;rw [hFe] at CWr CM HGF HGD;clear h h' hc hS hV hLN hSS hE hK hFe;have hno:∀e,e=Ending.returned (.bool false)->¬ GoodP N L C->∃b:Bool,e=.returned (.bool b)/\(b=true ↔ GoodP N L C):=fun e he hn=>⟨false,he,⟨fun h=>(by cases h),fun h=>absurd h hn⟩⟩
 have HNO:Hd (∀e,e=Ending.returned (.bool false)->¬ GoodP N L C->∃b:Bool,e=.returned (.bool b)/\(b=true ↔ GoodP N L C)):=hno;clear hno;go_enter Tryz.func8,Tryz.ntmps8;go_wp2_with (first | (go_at_call 14;refine CK.o.mono ?_));rintro e w1 ⟨rfl,hg1⟩;have HG1:Hd (w.grownBy w1 none):=hg1;clear hg1
 by_cases hz:E=0
 ·subst hz;go_wp2_with (first | (go_at_call 15;refine (CWr.o _ HG1.o).mono ?_));rintro e w2 ⟨rfl,hg2⟩;have HG2:Hd (w.grownBy w2 none):=gb_trans HG1.o hg2;clear hg2
  by_cases hf:F=0
  ·subst hf;go_wp2;go_loopw [9] (fun vi wr=>∃i:Nat,vi=.int .i64 i/\i<=C.length/\inR L C i=true/\w.grownBy wr none) (fun vi _=>C.length - (intOf vi).toNat)
   case atStart=>exact ⟨0,rfl,Nat.zero_le _,rfl,HG2.o⟩
   case round =>
    obtain ⟨i,rfl,hi,hr,hg⟩:=hrel;have HR:Hd (inR L C i=true):=hr;have HG:Hd (w.grownBy wr none):=hg;obtain ⟨wo,hwo⟩:∃wo,wo=wr:=⟨_,rfl⟩;subst hwo
    by_cases hlt:i < C.length
    ·obtain ⟨a1,ho1,hcp1,hat1⟩:=HEI.o wo hg i hlt;have f0:=hat1 i hlt;have his:=HIS.o i hlt;have hgo:=HGO.o i hlt;obtain ⟨z,hzz⟩:=nm (C[i]);rw [hzz] at f0 his hgo;have HIS2:Hd (inR L C (i+1)=(inR L C i && decide (0<=z/\z < (L.length:Int)))):=his;have HGO2:Hd (¬ (0<=z/\z < (L.length:Int))->¬ GoodP N L C):=hgo;have hic:i < cc:=by omega
     subst ho1;clear hr hg hat1 hcp1 hzz his hgo
     by_cases hz0:z < 0
     ·have HN:Hd (¬ GoodP N L C):=HGO2.o (by omega);go_wp2;refine bodyPost_ret (results_tmp (t:=6) rfl _ _ _) rfl ⟨⟨false,rfl,⟨fun h=>(by cases h),fun h=>absurd h HN.o⟩⟩,HG.o⟩
     ·by_cases hz1:z ≥ (L.length:Int)
      ·have HN:Hd (¬ GoodP N L C):=HGO2.o (by omega);go_wp2;refine bodyPost_ret (results_tmp (t:=6) rfl _ _ _) rfl ⟨?_,HG.o⟩
       first | exact ⟨false,rfl,⟨fun h=>(by cases h),fun h=>absurd h HN.o⟩⟩ | exact Or.inl ⟨rfl,HN.o⟩
      ·have HRN:Hd (inR L C (i+1)=true):=by
        show _=_;rw [HIS2.o,HR.o,decide_eq_true (by omega)];rfl
       go_wp2;go_roundw
       case rel=>exact ⟨i+1,by go_num,by omega,HRN.o,HG.o⟩
       case measure=>simp [intOf];omega
    ·have hil:i=C.length:=by omega
     have hin:∀z ∈ C,0<=z/\z < (L.length:Int):=HIA.o (by rw [hil] at hr;exact hr);have HIN:Hd (∀z ∈ C,0<=z/\z < (L.length:Int)):=hin;have C1:Hd (Calls Tryz.prog 16 #[.slice on nn cn,.slice o L.length c,.slice oc C.length cc] wo fun e w''=>e=.returned (.bool (ok2 N L C 0))/\wo.grownBy w'' none):=by
      rw [HO0.o];exact CM.o (by trivial) (by trivial) hin wo hg
     have HGD2:Hd (GoodP N L C ↔ ok2 N L C C.length=true/\(wD N L C (C.length+1)).all id=true):=HGD.o (by trivial) (by trivial) hin;clear hr hg hil hi hin;go_wp2_with (first | (go_at_call 16;refine C1.o.mono ?_));rintro e w3 ⟨rfl,hg3⟩;have HG3:Hd (w.grownBy w3 none):=gb_trans HG.o hg3;clear hg3;go_wp2;go_loopw [10,11] (fun vo vi wr=>∃i:Nat,vi=.int .i64 i/\vo=.bool (ok2 N L C i)/\i<=C.length/\w.grownBy wr none) (fun _ vi _=>C.length - (intOf vi).toNat)
     case atStart=>exact ⟨0,rfl,rfl,Nat.zero_le _,HG3.o⟩
     case round =>
      obtain ⟨i,rfl,rfl,hi,hg⟩:=hrel;have HGI:Hd (w.grownBy wr none):=hg;obtain ⟨wp,hwp⟩:∃wp,wp=wr:=⟨_,rfl⟩;subst hwp
      by_cases hlt:i < C.length
      ·obtain ⟨k,hk,hkL⟩:∃k:Nat,C[i]=(k:Int)/\k < L.length:=by
        have:=HIN.o _ (List.getElem_mem hlt);exact ⟨(C[i]).toNat,by omega,by omega⟩
       obtain ⟨a1,ho1,hcp1,hat1⟩:=HEI.o wp hg i hlt;have f0:=hat1 i hlt;obtain ⟨a2,ho2,hcp2,hat2⟩:=HEL.o wp hg k hkL;obtain ⟨e0,e1,⟨sv,e2,e2'⟩,e3⟩:=hat2 k hkL;obtain ⟨hn1,hn2⟩:=HNC.o i hlt k hkL hk;have hmem:=List.getElem_mem hkL;have ho:=HO2.o i;rw [hk] at f0;obtain ⟨x,hx⟩:=nm (L[k]);rw [hx] at e0 e1 e2' e3 hn1 hn2 hmem;rw [hn1,hn2] at ho;have HOK:Hd (ok2 N L C (i+1)=(ok2 N L C i && metD x.nd L C && decide (chI L (C.take i) x.nm < 0))):=ho;obtain ⟨so,sn,sc,rfl⟩:∃o n c,sv=.slice o n c:=by
        rcases e2' with ⟨rfl,-⟩ | ⟨_,_,rfl,-⟩ <;> exact ⟨_,_,_,rfl⟩
       obtain ⟨X0,hX0⟩:∃X,wp.heap.size=X:=⟨_,rfl⟩;obtain ⟨W4,hW4⟩:∃W,wp.alloc (.cells #[.string x.nm,.string x.ve,.slice so sn sc,.string x.da] 51)=W:=⟨_,rfl⟩;have g4:wp.grownBy W4 none:=by rw [<-hW4];exact gb_alloc (gb_refl wp none) _
       have HBX:Hd (W4.heap[X0]?=some (.cells #[.string x.nm,.string x.ve,.slice so sn sc,.string x.da] 51 (0,0))):=by rw [<-hW4,<-hX0];exact heap_alloc_new wp _
       obtain ⟨x0,x1,x2,x3⟩:=re_block HBX.o;have HG4:Hd (w.grownBy W4 none):=gb_trans HGI.o g4;have C2:Hd (Calls Tryz.prog 16 #[.slice so sn sc,.slice o L.length c,.slice oc C.length cc] W4 fun e w''=>e=.returned (.bool (metD x.nd L C))/\W4.grownBy w'' none):=CR.o (by trivial) HIN.o x hmem _ W4 HG4.o (e2'.grow g4);have C3:Hd (∀w',w.grownBy w' none->Calls Tryz.prog 17 #[.slice o L.length c,.slice oc i cc,.string x.nm] w' fun e w''=>e=.returned (.int .i64 (chI L (C.take i) x.nm))/\w'.grownBy w'' none):=fun w' hg=>CC.o HIN.o i hlt x.nm w' hg
       obtain ⟨p,hp⟩:=nm (ok2 N L C i);obtain ⟨m,hm⟩:=nm (metD x.nd L C);obtain ⟨z,hzz⟩:=nm (chI L (C.take i) x.nm);rw [hp,hm,hzz] at HOK;rw [hm] at C2;rw [hzz] at C3;rw [hp];have hic:i < cc:=by omega
       have hkc:k < c:=by omega
       have hiC:i<=C.length:=hi
       cases ho1
       cases ho2
       clear hg hat1 hat2 hk hn1 hn2 hmem ho hx e2' g4 hp hm hzz hcp1 hcp2;go_wp2_with (first | (go_at_call 16;refine C2.o.mono ?_));rintro e w5 ⟨rfl,hg5⟩;have hx5:=(re_block ((hg5.block X0 (hqL HBX.o) (by simp)).trans HBX.o)).1;have HG5:Hd (w.grownBy w5 none):=gb_trans HG4.o hg5;clear hg5 f0 e0 e1 e2 e3 x0 x1 x2 x3 hW4 hX0;have G6:w.grownBy w5.drew none:=gb_trans HG5.o (show w5.grownBy w5.drew none from ⟨rfl,rfl,rfl,Nat.le_refl _,fun _ _ _=>rfl⟩);go_upto_region 15 with fail
       go_region_with (first | (go_at_call 17;refine (C3.o _ G6).mono ?_;rintro e w6 ⟨rfl,hg6⟩))
       all_goals (
        have HG6:Hd (w.grownBy w6 none):=gb_trans HG5.o (gb_trans (show w5.grownBy w5.drew none from ⟨rfl,rfl,rfl,Nat.le_refl _,fun _ _ _=>rfl⟩) hg6);clear hg6 hx5 G6
        cases p with
        | false =>
         have HN:Hd (ok2 N L C (i+1)=false):=by show _=_;rw [HOK.o];rfl
         go_wp2;go_roundw
         case rel=>exact ⟨i+1,by go_num,by rw [HN.o],by omega,HG6.o⟩
         case measure=>simp [intOf];omega
        | true =>
         cases m with
         | false =>
          have HN:Hd (ok2 N L C (i+1)=false):=by show _=_;rw [HOK.o];rfl
          go_wp2;go_roundw
          case rel=>exact ⟨i+1,by go_num,by rw [HN.o],by omega,HG6.o⟩
          case measure=>simp [intOf];omega
         | true =>
          have HN:Hd (ok2 N L C (i+1)=decide (z < 0)):=by show _=_;rw [HOK.o];rfl
          go_wp2;go_roundw
          case rel=>exact ⟨i+1,by go_num,by rw [HN.o],by omega,HG6.o⟩
          case measure=>simp [intOf];omega)
      ·have hil:i=C.length:=by omega
       have HP:Hd (ok2 N L C i=ok2 N L C C.length):=by show _=_;rw [hil]
       obtain ⟨p,hp⟩:=nm (ok2 N L C i);rw [hp] at HP;rw [hp];have C4:Hd (Calls Tryz.prog 18 #[.slice on nn cn,.slice o L.length c,.slice oc C.length cc] wp fun e w''=>∃B,e=.returned (.slice (some ⟨B,0,none⟩) C.length C.length)/\BB w'' B (wD N L C (C.length+1))/\wp.grownBy w'' none):=CT.o HIN.o wp hg;clear hg hil hi hp
       cases p with
       | false =>
        have HN:Hd (¬ GoodP N L C):=fun hgp=>by
         have:=(HGD2.o.1 hgp).1;rw [<-HP.o] at this
         cases this
        go_wp2;refine bodyPost_ret (results_tmp (t:=6) rfl _ _ _) rfl ⟨HNO.o _ rfl HN.o,HGI.o⟩
       | true =>
        have HGE:Hd (GoodP N L C ↔ (wD N L C (C.length+1)).all id=true):=by
         show _ ↔ _;rw [HGD2.o,<-HP.o];simp
        go_wp2_with (first | (go_at_call 18;refine C4.o.mono ?_));rintro e w7 ⟨B,rfl,hbb,hg7⟩;have HB7:Hd (BB w7 B (wD N L C (C.length+1))):=hbb;have HG7:Hd (w.grownBy w7 none):=gb_trans HGI.o hg7;obtain ⟨b,hb⟩:=nm (wD N L C (C.length+1));have hbl:=HWL.o;rw [hb] at HB7 HGE hbl;clear hbb hg7 hb;go_wp2;go_loopw [10,16] (fun vo vi wr=>∃i:Nat,vi=.int .i64 i/\vo=.bool ((b.take i).all id)/\i<=C.length/\w7.grownBy wr none) (fun _ vi _=>C.length - (intOf vi).toNat)
        case atStart=>exact ⟨0,rfl,rfl,Nat.zero_le _,gb_refl _ _⟩
        case round =>
         obtain ⟨i,rfl,rfl,hi,hg⟩:=hrel;have HGR:Hd (w7.grownBy wr none):=hg
         by_cases hlt:i < C.length
         ·have hib:i < b.length:=by omega
          obtain ⟨c0,-⟩:=(HB7.o.grow hg).cell i hib;have HST:Hd ((b.take (i+1)).all id=((b.take i).all id && bA b i)):=by
           show _=_;rw [List.take_succ_eq_append_getElem hib,List.all_append,bA_at b i hib];simp
          obtain ⟨p,hp⟩:=nm ((b.take i).all id);obtain ⟨u,hu⟩:=nm (bA b i);rw [hp,hu] at HST;rw [hu] at c0;rw [hp];clear hg hp hu
          cases p with
          | false =>
           have HN:Hd ((b.take (i+1)).all id=false):=by show _=_;rw [HST.o];rfl
           go_wp2;go_roundw
           case rel=>exact ⟨i+1,by go_num,by rw [HN.o],by omega,HGR.o⟩
           case measure=>simp [intOf];omega
          | true =>
           have HN:Hd ((b.take (i+1)).all id=u):=by show _=_;rw [HST.o];simp
           go_wp2;go_roundw
           case rel=>exact ⟨i+1,by go_num,by rw [HN.o],by omega,HGR.o⟩
           case measure=>simp [intOf];omega
         ·have hil:i=C.length:=by omega
          have HP2:Hd ((b.take i).all id=b.all id):=by
           show _=_;rw [hil,<-hbl,List.take_length]
          obtain ⟨p,hp⟩:=nm ((b.take i).all id);rw [hp] at HP2;rw [hp];clear hg hil hi hp;go_wp2;refine bodyPost_ret (results_tmp (t:=6) rfl _ _ _) rfl ⟨⟨p,rfl,?_⟩,gb_trans HG7.o HGR.o⟩;rw [HGE.o,HP2.o]
  ·have hb:(F != 0)=true:=by simp [hf]
   have HN:Hd (¬ GoodP N L C):=HGF.o fun hh=>hf hh.2
   clear hf;go_wp2;refine bodyPost_ret (results_tmp (t:=6) rfl _ _ _) rfl ⟨HNO.o _ rfl HN.o,HG2.o⟩
 ·have hb:(E != 0)=true:=by simp [hz]
  have HN:Hd (¬ GoodP N L C):=HGF.o fun hh=>hz hh.1
  clear hz;go_wp2;refine bodyPost_ret (results_tmp (t:=6) rfl _ _ _) rfl ⟨HNO.o _ rfl HN.o,HG1.o⟩
open Go.RowKit
theorem rrow_res {L:List Re} {w:World} {base:Nat} {v:Value} (h:RRow L w base v L.length):ReS w v L:=by
 obtain ⟨vs,hl,ho,hn⟩:=h;rw [List.take_length] at ho
 rcases ho.2 with ⟨h1,h2⟩ | ⟨g,cap,cur,hv,hb,hc,h3,h4,h5,h6⟩
 ·exact Or.inl ⟨h1,List.length_eq_zero_iff.1 h2⟩
 ·refine Or.inr ⟨⟨g,0,none⟩,cap,hv,h3,fun i hi=>?_⟩;have h':=ho;rw [hv] at h';have key:∀k u,0 < k->(reC L[i] (vs[i]'(by omega)))[k]?=some u->w.cell? ⟨((⟨g,0,none⟩:Addr).add (i * 4)).block,((⟨g,0,none⟩:Addr).add (i * 4)).off+k,none⟩=some u:=fun k u hk hu=>by
   have:=h'.cells (g:=g) rfl (i * 4+k) u (re_get L vs hl.symm i hi k u hu);rw [hadd_off _ _ k hk] at this;exact this
  have k0:=h'.cells (g:=g) rfl (i * 4+0) _ (re_get L vs hl.symm i hi 0 _ rfl);exact ⟨by simpa using k0,key 1 _ (by omega) rfl,⟨_,key 2 _ (by omega) rfl,(hn i hi hi).1⟩,key 3 _ (by omega) rfl⟩
theorem cReleases (sl:Value) (L:List Re) (w:World) (h:ReS w sl L) (hL:L.length<=1048576) (hN:∀x ∈ L,x.nd.length<=1048576) :
  Calls Tryz.prog 6 #[sl] w fun e w'=>∃v,e=.returned v/\ReS w' v L/\w.grownBy w' none:=by
 rcases h with ⟨rfl,rfl⟩ | ⟨a,cap,rfl,h2,h3⟩
 ·go_enter Tryz.func6,Tryz.ntmps6;go_wp2;go_loopw [3,4] (fun vm vi wr=>vi=.int .i64 0/\vm=.slice none 0 0/\w.grownBy wr none) (fun _ vi _=>0)
  case atStart=>exact ⟨rfl,rfl,gb_refl _ _⟩
  case round =>
   obtain ⟨rfl,rfl,hb⟩:=hrel;have HB:Hd (w.grownBy wr none):=hb;clear hb;go_wp2;refine bodyPost_ret (results_tmp (t:=2) rfl _ _ _) rfl ⟨_,rfl,Or.inl ⟨rfl,rfl⟩,HB.o⟩
 ·refine (releases_at a cap L w hL h2 hN h3).mono ?_;rintro e w' ⟨v,rfl,hr,hb⟩;exact ⟨v,rfl,rrow_res hr,bel_gb hb⟩
end Go.Proofs.YticgahdffjnabaaGreatDoor
