import Derived.Test.YtapodndfpecglaaGreatDoorK31
set_option linter.all false
set_option maxRecDepth 100000
set_option maxHeartbeats 0
open Go.Proofs.Tryz
namespace Go.Proofs.YtapodndfpecglaaGreatDoor
open Go.RowKit
def nR(b:Bool)(W:Int):Int:=if b=true then 5 else W
theorem aeB(L:List Re)(n v:ByteArray)(k:Nat)(hk:k<L.length):(L.take (k+1)).any (fG n v)=((L.take k).any (fG n v) || fG n v L[k]):=by
 rw[List.take_succ_eq_append_getElem hk,List.any_append];simp
theorem aeC(a:Addr)(cap:Nat)(L:List Re)(w:World)(hcap:L.length<=cap)(h:∀j (hj:j<L.length),ReAt w (a.add (j*4)) L[j])(hL:L.length<=1048576)(hV:∀x∈L,x.nm.size<2 ^ 60/\x.ve.size<2 ^ 60)(hN:∀x∈L,x.nd.length<=1048576)(hS:∀x∈L,∀y∈x.nd,y.n.size<2 ^ 60/\y.r.size<2 ^ 60) :
  Calls prog 11 #[.slice (some a) L.length cap] w fun e w'=>e=.returned (.tuple #[.int .i64 (dV L L.length).1,.int .i64 ((dV L L.length).2:Int)])/\w.grownBy w' none:=by
 have HA:=ae h;have CN:=ae (fun x (hx:x∈L) w=>OE x.nm w (by have:=(hV x hx).1;omega));have CV:=ae (fun x (hx:x∈L) w=>IM x.ve w (by have:=(hV x hx).2;omega));have CW:=ae (fun x (hx:x∈L) v w (h:NdS w v x.nd)=>SG v x.nd w h (hN x hx) (hS x hx));have CT:=ae (fun x (hx:x∈L) y (hy:y∈L) w=>PV y.ve x.ve w (by have:=(hV y hy).2;omega) (by have:=(hV x hx).2;omega));have ou:=ae hN;have HH:=ae (QS L);have HM:=ae (QT L);obtain⟨R,hR⟩:=zN (dV L L.length);have JR:Hd (dV L (L.length-0)=R):=hR;rw[hR];clear h hV hN hS hR;go_enter func11,ntmps11;go_wp2;go_loopw [4] (fun vi wr=>∃i:Nat,vi=.int .i64 i/\i<=L.length/\dV L (L.length-i)=R/\w.grownBy wr none) (fun vi _=>L.length-(intOf vi).toNat)
 case atStart=>exact⟨0,rfl,Nat.zero_le _,JR.o,ak _ _⟩
 case round =>
  obtain⟨i,rfl,hi,hc,hg⟩:=hrel;have HG:=ae hg;have HC:=ae hc
  by_cases hlt:i<L.length
  ·obtain⟨x,hx⟩:=zN (L[i]);have hmem:x∈L:=by rw[<-hx];exact List.getElem_mem _
   have aff:=ae hmem;have KH:kM L i=mJ i (L.take i) x:=by rw[Jr L i hlt,hx]
   have xJ:Hd (¬mJ i (L.take i) x=0->R=(mJ i (L.take i) x,i)):=fun h=>by rw[<-KH]at h ⊢;exact HC.o.symm.trans (HH.o i hlt h)
   have Fb:Hd (mJ i (L.take i) x=0->dV L (L.length-(i+1))=R):=fun h=>by rw[<-KH]at h;exact(HM.o i hlt h).symm.trans HC.o
   obtain⟨e0,e1,⟨sv,e2,hsv⟩,e3⟩:ReAt wr (a.add (i*4)) x:=by rw[<-hx];exact(HA.o i hlt).grow hg
   have uh:=ae hsv;obtain⟨so,sc,rfl⟩:=rY hsv;have hnl:=ou.o x hmem;have KI:=ae (CN.o x hmem);have KJ:=ae (CV.o x hmem);have KL:=ae (CW.o x hmem);have Um:=ae (CT.o x hmem);clear hc hg hx hmem KH hsv
   by_cases hm:50<=i
   ·have HR:Hd (R=(4,i)):=by
     have:=xJ.o (by rw[xG (Or.inl hm)];decide)
     rwa [xG (Or.inl hm)]at this
    go_wp2;refine bodyPost_ret (results_tmp2 (t:=2) (u:=3) rfl _ _ _) rfl ⟨?_,au HG.o _⟩;rw[HR.o];rfl
   ·by_cases hn:20<x.nd.length
    ·have HR:Hd (R=(4,i)):=by
      have:=xJ.o (by rw[xG (Or.inr hn)];decide)
      rwa [xG (Or.inr hn)]at this
     go_wp2;refine bodyPost_ret (results_tmp2 (t:=2) (u:=3) rfl _ _ _) rfl ⟨?_,au HG.o _⟩;rw[HR.o];rfl
    ·have xH:¬(50<=i\/20<x.nd.length):=by omega
     have HT:Hd (nameB x.nm=false\/okV x.ve=false\/dm x.nd=2->R=(2,i)):=fun h=>by
      have h1:=JP (P:=L.take i) xH h;have:=xJ.o (by rw[h1];decide)
      rwa [h1]at this
     have HQ:Hd (¬(nameB x.nm=false\/okV x.ve=false\/dm x.nd=2)->(nR ((L.take i).any (fG x.nm x.ve)) (dm x.nd)=0->dV L (L.length-(i+1))=R)/\(¬nR ((L.take i).any (fG x.nm x.ve)) (dm x.nd)=0->R=(nR ((L.take i).any (fG x.nm x.ve)) (dm x.nd),i))):=fun h=>by
      have h1:=JQ (P:=L.take i) xH h;have h2:nR ((L.take i).any (fG x.nm x.ve)) (dm x.nd)=mJ i (L.take i) x:=by
       rw[h1];unfold nR
       rcases QQ x.nd with h3|h3|h3
       ·rw[h3];cases (L.take i).any (fG x.nm x.ve)<;>simp
       ·exact absurd (Or.inr (Or.inr h3)) h
       ·rw[h3];cases (L.take i).any (fG x.nm x.ve)<;>simp
      rw[h2];exact⟨Fb.o,xJ.o⟩
     obtain⟨q1,hq1⟩:=zN (nameB x.nm);obtain⟨q2,hq2⟩:=zN (okV x.ve);obtain⟨W,hW⟩:=zN (dm x.nd);rw[hq1]at HT HQ KI;rw[hq2]at HT HQ KJ;rw[hW]at HT HQ KL;obtain⟨nn,hnn⟩:=zN (x.nd.length);rw[hnn]at uh e2 hn hnl;have Un:Hd (∀k (hk:k<L.length),fG x.nm x.ve L[k]=(decide (L[k].nm=x.nm) && mF L[k].ve x.ve)):=fun k hk=>rfl
     obtain⟨xn,xv,xd,xa⟩:=x;simp only[]at KI KJ KL Um e0 e1 e3 uh HQ Un;clear xH hq1 hq2 hW hnn;obtain⟨A,hA⟩:=zN (wr.heap.size);go_wp2_with (first|(go_at_call 23;refine(KI.o _).mono ?_;rintro e w' ⟨rfl,rfl⟩)|(go_at_call 24;refine(KJ.o _).mono ?_));rintro e w1 ⟨rfl,hg1⟩;obtain⟨c0,c1,c2,c3⟩:=zQ ((hg1.block wr.heap.size (by simp) (by simp)).trans (heap_alloc_new wr _));have bI:=ae (ah (au (ak wr none) _) hg1)
     try rw[hA]
     rw[hA]at c0 c1 c2 c3;clear hg1 e0 e1 e2 e3 hA;go_wp2_with (first|(go_at_call 12;refine(KL.o _ _ (uh.o.grow bI.o)).mono ?_));rintro e w2 ⟨rfl,hg2⟩;have f0:=hg2.cell c0 (by simp);have f1:=hg2.cell c1 (by simp);have HG2:=ae (ah HG.o (ah bI.o hg2));have Uo:Hd (w2.cell? ⟨A,0,none⟩=some (.string xn)/\w2.cell? ⟨A,1,none⟩=some (.string xv)):=⟨f0,f1⟩;clear c0 c1 c2 c3 hg2 uh f0 f1
     cases q1 with
     | false =>
      go_wp2;refine bodyPost_ret (results_tmp2 (t:=2) (u:=3) rfl _ _ _) rfl ⟨?_,HG2.o⟩;rw[HT.o (Or.inl (by trivial))];rfl
     | true =>
      cases q2 with
      | false =>
       go_wp2;refine bodyPost_ret (results_tmp2 (t:=2) (u:=3) rfl _ _ _) rfl ⟨?_,HG2.o⟩;rw[HT.o (Or.inr (Or.inl (by trivial)))];rfl
      | true =>
       by_cases hW2:W=2
       ·subst hW2;go_wp2;refine bodyPost_ret (results_tmp2 (t:=2) (u:=3) rfl _ _ _) rfl ⟨?_,HG2.o⟩;rw[HT.o (Or.inr (Or.inr (by trivial)))];rfl
       ·have hw2:(W == 2)=false:=by simp[hW2]
        have xI:=ae (HQ.o (by simp[hW2]));clear hW2;go_wp2;clear hw2;go_loopw [8,9] (fun ve vk wk=>∃k:Nat,vk=.int .i64 k/\ve=.int .i64 (nR ((L.take k).any (fG xn xv)) W)/\k<=i/\w2.grownBy wk none) (fun _ vk _=>i-(intOf vk).toNat)
        case atStart=>exact⟨0,rfl,rfl,Nat.zero_le _,ak _ _⟩
        case round =>
         obtain⟨k,rfl,rfl,hk,hgk⟩:=hrel;have jG:=ae hgk;have bM:=ae (ah HG2.o hgk);have f0:=hgk.cell Uo.o.1 (by simp);have f1:=hgk.cell Uo.o.2 (by simp)
         by_cases hki:k<i
         ·have hkl:k<L.length:=by omega
          obtain⟨y,hy⟩:=zN (L[k]);obtain⟨p0,p1,-,-⟩:ReAt wr (a.add (k*4)) y:=by rw[<-hy];exact(HA.o k hkl).grow bM.o
          have xE:Hd (Calls prog 25 #[.string y.ve,.string xv] wr.drew fun e w'=>e=.returned (.bool (mF y.ve xv))/\wr.drew.grownBy w' none):=Um.o y (by rw[<-hy];exact List.getElem_mem _) _;have qZ:Hd ((L.take (k+1)).any (fG xn xv)=((L.take k).any (fG xn xv) || (decide (y.nm=xn) && mF y.ve xv))):=by
           show _=_;rw[aeB L xn xv k hkl,Un.o k hkl,hy]
          obtain⟨q0,hq0⟩:=zN ((L.take k).any (fG xn xv));obtain⟨tg,Ur⟩:=zN (mF y.ve xv);rw[hq0]at qZ;rw[Ur]at xE qZ
          try rw[hq0]
          obtain⟨yn,yv,yd,ya⟩:=y;simp only[]at xE qZ p0 p1;clear hgk hy hq0 Ur;have Us:Hd (wr.cell? (a.add (k*4))=some (.string yn)/\wr.cell? ⟨A,0,none⟩=some (.string xn)):=⟨p0,f0⟩;go_wp2
          go_region_held3 (fun w'=>w'.cell? ⟨(a.add (k*4)).block,(a.add (k*4)).off+1,none⟩=some (.string yv)/\w'.cell? ⟨A,1,none⟩=some (.string xv)) ((first|exact⟨World.grownBy.cell (by assumption) (And.left (by assumption)) (by simp),World.grownBy.cell (by assumption) (And.right (by assumption)) (by simp)⟩|go_keep)) (first|(go_at_call 25;refine xE.o.mono ?_;rintro e w3 ⟨rfl,hg3⟩))
          have hg4:=cZ hg3;have r0:=hg4.cell Us.o.1 (by simp);have r1:=hg4.cell Us.o.2 (by simp);have gm:=ae (ah jG.o hg4);clear hg3 hg4 p0 p1 f0 f1
          by_cases hxy:yn=xn
          ·have q:=BK hxy
           cases tg with
           | true =>
            have HV:Hd ((5:Int)=nR ((L.take (k+1)).any (fG xn xv)) W):=by
             show _=_;rw[qZ.o];simp[hxy,nR]
            go_wp2;go_quiet (fail);go_wp2;go_roundw
            case rel=>exact⟨k+1,by go_num,by rw[<-HV.o],by omega,aF gm.o _⟩
            case measure=>simp[intOf];omega
           | false =>
            have HV:Hd (nR q0 W=nR ((L.take (k+1)).any (fG xn xv)) W):=by
             show _=_;rw[qZ.o];simp
            go_wp2;go_quiet (fail);go_wp2;go_roundw
            case rel=>exact⟨k+1,by go_num,by rw[<-HV.o],by omega,aF gm.o _⟩
            case measure=>simp[intOf];omega
          ·have q:=uY hxy;have HV:Hd (nR q0 W=nR ((L.take (k+1)).any (fG xn xv)) W):=by
            show _=_;rw[qZ.o];simp[hxy]
           go_wp2;go_quiet (fail);go_wp2;go_roundw
           case rel=>exact⟨k+1,by go_num,by rw[<-HV.o],by omega,aF gm.o _⟩
           case measure=>simp[intOf];omega
         ·have hke:k=i:=by omega
          subst hke;clear hgk hk f0 f1;obtain⟨E1,hE1⟩:=zN (nR ((L.take k).any (fG xn xv)) W);rw[hE1]at xI
          try rw[hE1]
          clear hE1
          by_cases hz:E1=0
          ·subst hz;go_wp2;go_roundw
           case rel=>exact⟨k+1,by go_num,by omega,xI.o.1 rfl,bM.o⟩
           case measure=>simp[intOf];omega
          ·have hz1:(E1 != 0)=true:=by simp[hz]
           have HR:=ae (xI.o.2 hz);clear hz;go_wp2;refine bodyPost_ret (results_tmp2 (t:=2) (u:=3) rfl _ _ _) rfl ⟨?_,bM.o⟩;rw[HR.o];rfl
  ·have hil:i=L.length:=by omega
   have HR:Hd (R=(0,0)):=by
    show R=_;rw[<-hc,hil,Nat.sub_self];rfl
   clear hc hg hil hi;go_wp2;refine bodyPost_ret (results_tmp2 (t:=2) (u:=3) rfl _ _ _) rfl ⟨?_,HG.o⟩;rw[HR.o];rfl
theorem aeD(w:World):Calls prog 11 #[.slice none 0 0] w fun e w'=>e=.returned (.tuple #[.int .i64 0,.int .i64 0])/\w.grownBy w' none:=by
 go_enter func11,ntmps11;go_wp2;go_loopw [4] (fun vi wr=>vi=.int .i64 0/\w.grownBy wr none) (fun vi _=>0)
 case atStart=>exact⟨rfl,ak _ _⟩
 case round =>
  obtain⟨rfl,hb⟩:=hrel;have HB:=ae hb;clear hb;go_wp2;exact bodyPost_ret (results_tmp2 (t:=2) (u:=3) rfl _ _ _) rfl ⟨rfl,HB.o⟩
theorem aeE(v:Value)(L:List Re)(w:World)(h:ReS w v L)(hL:L.length<=1048576)(hV:∀x∈L,x.nm.size<2 ^ 60/\x.ve.size<2 ^ 60)(hN:∀x∈L,x.nd.length<=1048576)(hS:∀x∈L,∀y∈x.nd,y.n.size<2 ^ 60/\y.r.size<2 ^ 60) :
  Calls prog 11 #[v] w fun e w'=>e=.returned (.tuple #[.int .i64 (dV L L.length).1,.int .i64 ((dV L L.length).2:Int)])/\w.grownBy w' none:=by
 rcases h with⟨rfl,rfl⟩|⟨a,cap,rfl,h2,h3⟩
 ·exact aeD w
 ·exact aeC a cap L w h2 h3 hL hV hN hS
end Go.Proofs.YtapodndfpecglaaGreatDoor
