import Derived.Test.YteciokcdpadmpaaGreatDoorS29
set_option linter.all false
set_option maxRecDepth 100000
set_option maxHeartbeats 0
open Go.Proofs.Tryz
namespace Go.Proofs.YteciokcdpadmpaaGreatDoor
open Go.RowKit
def oN(b:Bool)(W:Int):Int:=if b=true then 5 else W
theorem aeB(L:List Re)(n v:ByteArray)(k:Nat)(hk:k<L.length):(L.take (k+1)).any (iE n v)=((L.take k).any (iE n v) || iE n v L[k]):=by
 rw[List.take_succ_eq_append_getElem hk,List.any_append];simp
theorem aeC(a:Addr)(cap:Nat)(L:List Re)(w:World)(hcap:L.length<=cap)(h:∀j (hj:j<L.length),ReAt w (a.add (j*4)) L[j])(hL:L.length<=1048576)(hV:∀x∈L,x.nm.size<2 ^ 60/\x.ve.size<2 ^ 60)(hN:∀x∈L,x.nd.length<=1048576)(hS:∀x∈L,∀y∈x.nd,y.n.size<2 ^ 60/\y.r.size<2 ^ 60) :
  Calls prog 8 #[.slice (some a) L.length cap] w fun e w'=>e=.returned (.tuple #[.int .i64 (dV L L.length).1,.int .i64 ((dV L L.length).2:Int)])/\w.grownBy w' none:=by
 have HA:=ae h;have CN:=ae (fun x (hx:x∈L) w=>Pj x.nm w (by have:=(hV x hx).1;omega));have CV:=ae (fun x (hx:x∈L) w=>JA x.ve w (by have:=(hV x hx).2;omega));have CW:=ae (fun x (hx:x∈L) v w (h:NdS w v x.nd)=>TV v x.nd w h (hN x hx) (hS x hx));have CT:=ae (fun x (hx:x∈L) y (hy:y∈L) w=>ZH y.ve x.ve w (by have:=(hV y hy).2;omega) (by have:=(hV x hx).2;omega));have o5:=ae hN;have HH:=ae (Rf L);have HM:=ae (Rh L);obtain⟨R,hR⟩:=zN (dV L L.length);have Lm:Hd (dV L (L.length-0)=R):=hR;rw[hR];clear h hV hN hS hR;go_enter func8,ntmps8;go_wp2;go_loopw [4] (fun vi wr=>∃i:Nat,vi=.int .i64 i/\i<=L.length/\dV L (L.length-i)=R/\w.grownBy wr none) (fun vi _=>L.length-(intOf vi).toNat)
 case atStart=>exact⟨0,rfl,Nat.zero_le _,Lm.o,ak _ _⟩
 case round =>
  obtain⟨i,rfl,hi,hc,hg⟩:=hrel;have HG:=ae hg;have HC:=ae hc
  by_cases hlt:i<L.length
  ·obtain⟨x,hx⟩:=zN (L[i]);have hmem:x∈L:=by rw[<-hx];exact List.getElem_mem _
   have afk:=ae hmem;have LZ:lC L i=nG i (L.take i) x:=by rw[JZ L i hlt,hx]
   have yJ:Hd (¬nG i (L.take i) x=0->R=(nG i (L.take i) x,i)):=fun h=>by rw[<-LZ]at h ⊢;exact HC.o.symm.trans (HH.o i hlt h)
   have Gu:Hd (nG i (L.take i) x=0->dV L (L.length-(i+1))=R):=fun h=>by rw[<-LZ]at h;exact(HM.o i hlt h).symm.trans HC.o
   obtain⟨e0,e1,⟨sv,e2,hsv⟩,e3⟩:ReAt wr (a.add (i*4)) x:=by rw[<-hx];exact(HA.o i hlt).grow hg
   have uN:=ae hsv;obtain⟨so,sc,rfl⟩:=uh hsv;have hnl:=o5.o x hmem;have L6:=ae (CN.o x hmem);have L8:=ae (CV.o x hmem);have L9:=ae (CW.o x hmem);have UN:=ae (CT.o x hmem);clear hc hg hx hmem LZ hsv
   by_cases hm:50<=i
   ·have HR:Hd (R=(4,i)):=by
     have:=yJ.o (by rw[yG (Or.inl hm)];decide)
     rwa [yG (Or.inl hm)]at this
    go_wp2;refine bodyPost_ret (results_tmp2 (t:=2) (u:=3) rfl _ _ _) rfl ⟨?_,aj HG.o _⟩;rw[HR.o];rfl
   ·by_cases hn:20<x.nd.length
    ·have HR:Hd (R=(4,i)):=by
      have:=yJ.o (by rw[yG (Or.inr hn)];decide)
      rwa [yG (Or.inr hn)]at this
     go_wp2;refine bodyPost_ret (results_tmp2 (t:=2) (u:=3) rfl _ _ _) rfl ⟨?_,aj HG.o _⟩;rw[HR.o];rfl
    ·have yH:¬(50<=i\/20<x.nd.length):=by omega
     have HT:Hd (nameB x.nm=false\/okV x.ve=false\/dB x.nd=2->R=(2,i)):=fun h=>by
      have h1:=Lj (P:=L.take i) yH h;have:=yJ.o (by rw[h1];decide)
      rwa [h1]at this
     have HQ:Hd (¬(nameB x.nm=false\/okV x.ve=false\/dB x.nd=2)->(oN ((L.take i).any (iE x.nm x.ve)) (dB x.nd)=0->dV L (L.length-(i+1))=R)/\(¬oN ((L.take i).any (iE x.nm x.ve)) (dB x.nd)=0->R=(oN ((L.take i).any (iE x.nm x.ve)) (dB x.nd),i))):=fun h=>by
      have h1:=Ll (P:=L.take i) yH h;have h2:oN ((L.take i).any (iE x.nm x.ve)) (dB x.nd)=nG i (L.take i) x:=by
       rw[h1];unfold oN
       rcases Q8 x.nd with h3|h3|h3
       ·rw[h3];cases (L.take i).any (iE x.nm x.ve)<;>simp
       ·exact absurd (Or.inr (Or.inr h3)) h
       ·rw[h3];cases (L.take i).any (iE x.nm x.ve)<;>simp
      rw[h2];exact⟨Gu.o,yJ.o⟩
     obtain⟨q1,hq1⟩:=zN (nameB x.nm);obtain⟨q2,hq2⟩:=zN (okV x.ve);obtain⟨W,hW⟩:=zN (dB x.nd);rw[hq1]at HT HQ L6;rw[hq2]at HT HQ L8;rw[hW]at HT HQ L9;obtain⟨nn,hnn⟩:=zN (x.nd.length);rw[hnn]at uN e2 hn hnl;have UO:Hd (∀k (hk:k<L.length),iE x.nm x.ve L[k]=(decide (L[k].nm=x.nm) && uu L[k].ve x.ve)):=fun k hk=>rfl
     obtain⟨xn,xv,xd,xa⟩:=x;simp only[]at L6 L8 L9 UN e0 e1 e3 uN HQ UO;clear yH hq1 hq2 hW hnn;obtain⟨A,hA⟩:=zN (wr.heap.size);go_wp2_with (first|(go_at_call 17;refine(L6.o _).mono ?_;rintro e w' ⟨rfl,rfl⟩)|(go_at_call 18;refine(L8.o _).mono ?_));rintro e w1 ⟨rfl,hg1⟩;obtain⟨c0,c1,c2,c3⟩:=Gt ((hg1.block wr.heap.size (by simp) (by simp)).trans (heap_alloc_new wr _));have bJ:=ae (ag (aj (ak wr none) _) hg1)
     try rw[hA]
     rw[hA]at c0 c1 c2 c3;clear hg1 e0 e1 e2 e3 hA;go_wp2_with (first|(go_at_call 19;refine(L9.o _ _ (uN.o.grow bJ.o)).mono ?_));rintro e w2 ⟨rfl,hg2⟩;have f0:=hg2.cell c0 (by simp);have f1:=hg2.cell c1 (by simp);have HG2:=ae (ag HG.o (ag bJ.o hg2));have UQ:Hd (w2.cell? ⟨A,0,none⟩=some (.string xn)/\w2.cell? ⟨A,1,none⟩=some (.string xv)):=⟨f0,f1⟩;clear c0 c1 c2 c3 hg2 uN f0 f1
     cases q1 with
     | false =>
      go_wp2;refine bodyPost_ret (results_tmp2 (t:=2) (u:=3) rfl _ _ _) rfl ⟨?_,HG2.o⟩;rw[HT.o (Or.inl (by trivial))];rfl
     | true =>
      cases q2 with
      | false =>
       go_wp2;refine bodyPost_ret (results_tmp2 (t:=2) (u:=3) rfl _ _ _) rfl ⟨?_,HG2.o⟩;rw[HT.o (Or.inr (Or.inl (by trivial)))];rfl
      | true =>
       by_cases hW2:W=2
       ·subst hW2;go_wp2;refine bodyPost_ret (results_tmp2 (t:=2) (u:=3) rfl _ _ _) rfl ⟨?_,HG2.o⟩;rw[HT.o (Or.inr (Or.inr (by trivial)))];rfl
       ·have hw2:(W == 2)=false:=by simp[hW2]
        have yI:=ae (HQ.o (by simp[hW2]));clear hW2;go_wp2;clear hw2;go_loopw [8,9] (fun ve vk wk=>∃k:Nat,vk=.int .i64 k/\ve=.int .i64 (oN ((L.take k).any (iE xn xv)) W)/\k<=i/\w2.grownBy wk none) (fun _ vk _=>i-(intOf vk).toNat)
        case atStart=>exact⟨0,rfl,rfl,Nat.zero_le _,ak _ _⟩
        case round =>
         obtain⟨k,rfl,rfl,hk,hgk⟩:=hrel;have jY:=ae hgk;have bT:=ae (ag HG2.o hgk);have f0:=hgk.cell UQ.o.1 (by simp);have f1:=hgk.cell UQ.o.2 (by simp)
         by_cases hki:k<i
         ·have hkl:k<L.length:=by omega
          obtain⟨y,hy⟩:=zN (L[k]);obtain⟨p0,p1,-,-⟩:ReAt wr (a.add (k*4)) y:=by rw[<-hy];exact(HA.o k hkl).grow bT.o
          have yF:Hd (Calls prog 20 #[.string y.ve,.string xv] wr.drew fun e w'=>e=.returned (.bool (uu y.ve xv))/\wr.drew.grownBy w' none):=UN.o y (by rw[<-hy];exact List.getElem_mem _) _;have wL:Hd ((L.take (k+1)).any (iE xn xv)=((L.take k).any (iE xn xv) || (decide (y.nm=xn) && uu y.ve xv))):=by
           show _=_;rw[aeB L xn xv k hkl,UO.o k hkl,hy]
          obtain⟨q0,hq0⟩:=zN ((L.take k).any (iE xn xv));obtain⟨tg,UR⟩:=zN (uu y.ve xv);rw[hq0]at wL;rw[UR]at yF wL
          try rw[hq0]
          obtain⟨yn,yv,yd,ya⟩:=y;simp only[]at yF wL p0 p1;clear hgk hy hq0 UR;have UT:Hd (wr.cell? (a.add (k*4))=some (.string yn)/\wr.cell? ⟨A,0,none⟩=some (.string xn)):=⟨p0,f0⟩;go_wp2
          go_region_held3 (fun w'=>w'.cell? ⟨(a.add (k*4)).block,(a.add (k*4)).off+1,none⟩=some (.string yv)/\w'.cell? ⟨A,1,none⟩=some (.string xv)) ((first|exact⟨World.grownBy.cell (by assumption) (And.left (by assumption)) (by simp),World.grownBy.cell (by assumption) (And.right (by assumption)) (by simp)⟩|go_keep)) (first|(go_at_call 20;refine yF.o.mono ?_;rintro e w3 ⟨rfl,hg3⟩))
          have hg4:=bZ hg3;have r0:=hg4.cell UT.o.1 (by simp);have r1:=hg4.cell UT.o.2 (by simp);have gB:=ae (ag jY.o hg4);clear hg3 hg4 p0 p1 f0 f1
          by_cases hxy:yn=xn
          ·have q:=JC hxy
           cases tg with
           | true =>
            have HV:Hd ((5:Int)=oN ((L.take (k+1)).any (iE xn xv)) W):=by
             show _=_;rw[wL.o];simp[hxy,oN]
            go_wp2;go_quiet (fail);go_wp2;go_roundw
            case rel=>exact⟨k+1,by go_num,by rw[<-HV.o],by omega,aG gB.o _⟩
            case measure=>simp[intOf];omega
           | false =>
            have HV:Hd (oN q0 W=oN ((L.take (k+1)).any (iE xn xv)) W):=by
             show _=_;rw[wL.o];simp
            go_wp2;go_quiet (fail);go_wp2;go_roundw
            case rel=>exact⟨k+1,by go_num,by rw[<-HV.o],by omega,aG gB.o _⟩
            case measure=>simp[intOf];omega
          ·have q:=zO hxy;have HV:Hd (oN q0 W=oN ((L.take (k+1)).any (iE xn xv)) W):=by
            show _=_;rw[wL.o];simp[hxy]
           go_wp2;go_quiet (fail);go_wp2;go_roundw
           case rel=>exact⟨k+1,by go_num,by rw[<-HV.o],by omega,aG gB.o _⟩
           case measure=>simp[intOf];omega
         ·have hke:k=i:=by omega
          subst hke;clear hgk hk f0 f1;obtain⟨E1,hE1⟩:=zN (oN ((L.take k).any (iE xn xv)) W);rw[hE1]at yI
          try rw[hE1]
          clear hE1
          by_cases hz:E1=0
          ·subst hz;go_wp2;go_roundw
           case rel=>exact⟨k+1,by go_num,by omega,yI.o.1 rfl,bT.o⟩
           case measure=>simp[intOf];omega
          ·have hz1:(E1 != 0)=true:=by simp[hz]
           have HR:=ae (yI.o.2 hz);clear hz;go_wp2;refine bodyPost_ret (results_tmp2 (t:=2) (u:=3) rfl _ _ _) rfl ⟨?_,bT.o⟩;rw[HR.o];rfl
  ·have hil:i=L.length:=by omega
   have HR:Hd (R=(0,0)):=by
    show R=_;rw[<-hc,hil,Nat.sub_self];rfl
   clear hc hg hil hi;go_wp2;refine bodyPost_ret (results_tmp2 (t:=2) (u:=3) rfl _ _ _) rfl ⟨?_,HG.o⟩;rw[HR.o];rfl
theorem aeD(w:World):Calls prog 8 #[.slice none 0 0] w fun e w'=>e=.returned (.tuple #[.int .i64 0,.int .i64 0])/\w.grownBy w' none:=by
 go_enter func8,ntmps8;go_wp2;go_loopw [4] (fun vi wr=>vi=.int .i64 0/\w.grownBy wr none) (fun vi _=>0)
 case atStart=>exact⟨rfl,ak _ _⟩
 case round =>
  obtain⟨rfl,hb⟩:=hrel;have HB:=ae hb;clear hb;go_wp2;exact bodyPost_ret (results_tmp2 (t:=2) (u:=3) rfl _ _ _) rfl ⟨rfl,HB.o⟩
theorem UU(v:Value)(L:List Re)(w:World)(h:ReS w v L)(hL:L.length<=1048576)(hV:∀x∈L,x.nm.size<2 ^ 60/\x.ve.size<2 ^ 60)(hN:∀x∈L,x.nd.length<=1048576)(hS:∀x∈L,∀y∈x.nd,y.n.size<2 ^ 60/\y.r.size<2 ^ 60) :
  Calls prog 8 #[v] w fun e w'=>e=.returned (.tuple #[.int .i64 (dV L L.length).1,.int .i64 ((dV L L.length).2:Int)])/\w.grownBy w' none:=by
 rcases h with⟨rfl,rfl⟩|⟨a,cap,rfl,h2,h3⟩
 ·exact aeD w
 ·exact aeC a cap L w h2 h3 hL hV hN hS
open Go.RowKit Go.Maps Go.Joins
structure PQ(w wr:World)(R0 V S0 P0 n g m:Nat)(x:Pl)(L:List Re):Prop where
 s0:wr.heap[S0]?=some (.cells #[.int .u64 (x.nam:Nat),.int .u64 (x.bar:Nat),.slice (some ⟨g,0,none⟩) m m,.slice (some ⟨P0,0,none⟩) n n] 72 (0,0))
 g0:wr.heap[g]?=some (.cells (iM x.mt) 64 (0,0))
 v0:RowV wr V n n L
 r0:wr.heap[R0]?=some (.cells #[.int .u64 0,.int .u64 0,.slice none 0 0,.slice none 0 0] 72 (0,0))
 gb:w.grownBy wr none
theorem PQ.grow{w wr w':World}{R0 V S0 P0 n g m:Nat}{x:Pl}{L:List Re}(h:PQ w wr R0 V S0 P0 n g m x L)(hg:wr.grownBy w' none):PQ w w' R0 V S0 P0 n g m x L :=
 ⟨(hg.block S0 (aB h.s0) (by simp)).trans h.s0,(hg.block g (aB h.g0) (by simp)).trans h.g0,h.v0.grow hg,(hg.block R0 (aB h.r0) (by simp)).trans h.r0,ag h.gb hg⟩
theorem PQ.set{w wr:World}{R0 V S0 P0 n g m:Nat}{x:Pl}{L:List Re}(h:PQ w wr R0 V S0 P0 n g m x L){cs:Array Value}{fz:Nat × Nat}(hp:wr.heap[P0]?=some (.cells cs 69 fz))(hw:w.heap.size<=P0)(o:Nat)(v:Value):PQ w (wr.setCell ⟨P0,o,none⟩ v) R0 V S0 P0 n g m x L:=by
 have hne:∀(k:Nat) (ds:Array Value) (t:TypeId),wr.heap[k]?=some (.cells ds t (0,0))->¬t=69->¬k=P0:=fun k ds t hk ht e=>by
  subst e;rw[hp]at hk;injection hk with hk
  injection hk with _ e2 _
  exact ht e2.symm
 refine⟨(heap_setCell_other _ _ S0 _ (hne _ _ _ h.s0 (by decide))).trans h.s0,(heap_setCell_other _ _ g _ (hne _ _ _ h.g0 (by decide))).trans h.g0,?_,(heap_setCell_other _ _ R0 _ (hne _ _ _ h.r0 (by decide))).trans h.r0,lI h.gb hw _ _⟩;obtain⟨cur,h1,h2,h3⟩:=h.v0;exact⟨cur,(heap_setCell_other _ _ V _ (hne _ _ _ h1 (by decide))).trans h1,h2,h3⟩
theorem aeE{w:World}{P n:Nat}{Q:List Pl}(h:RowP w P n Q):∃cs,w.heap[P]?=some (.cells cs 69 (0,0)):=by
 obtain⟨cur,h1,-⟩:=h;exact⟨cur,h1⟩
theorem RowP.other{w:World}{P n:Nat}{Q:List Pl}(h:RowP w P n Q){q:Nat}{cs:Array Value}{fz:Nat × Nat}(hq:w.heap[q]?=some (.cells cs 72 fz))(o:Nat)(v:Value):RowP (w.setCell ⟨q,o,none⟩ v) P n Q:=by
 have hne:∀(k:Nat) (ds:Array Value) (t:TypeId),w.heap[k]?=some (.cells ds t (0,0))->¬t=72->¬k=q:=fun k ds t hk ht e=>by
  subst e;rw[hq]at hk;injection hk with hk
  injection hk with _ e2 _
  exact ht e2.symm
 obtain⟨cur,h1,h2,h3⟩:=h;refine⟨cur,(heap_setCell_other _ _ P _ (hne _ _ _ h1 (by decide))).trans h1,h2,fun j hj=>?_⟩;obtain⟨g,c1,c2,c3,c4⟩:=h3 j hj;exact⟨g,c1,c2,c3,(heap_setCell_other _ _ g _ (hne _ _ _ c4 (by decide))).trans c4⟩
theorem AQ{w:World}{P n:Nat}(h:w.heap[P]?=some (.cells (madeCells #[.int .u64 0,.int .u64 0,.slice none 0 0] (n*3)) 69 (0,0))):RowP w P n []:=⟨_,h,size_madeCells _ _,fun j hj=>by simp at hj⟩
theorem aeF{w:World}{V n:Nat}{L:List Re}(h:w.heap[V]?=some (.cells (madeCells #[.int .i64 0,.int .i64 0,.int .i64 0,.string ⟨#[]⟩,.string ⟨#[]⟩] (n*5)) 108 (0,0))):RowV w V n 0 L:=⟨_,h,size_madeCells _ _,fun j hj h0=>by omega⟩
theorem Md{w W:World}{R0 V S0 P0 n g m:Nat}{x:Pl}{L:List Re}{a b c d:Value}(hs:W.heap[S0]?=some (.cells #[a,b,c,d] 72 (0,0)))(hg0:W.heap[g]?=some (.cells (iM x.mt) 64 (0,0)))(hv:RowV W V n n L)(hr:W.heap[R0]?=some (.cells #[.int .u64 0,.int .u64 0,.slice none 0 0,.slice none 0 0] 72 (0,0)))(hgb:w.grownBy W none)(hp:RowP W P0 n [])(hne:¬R0=S0)(hw:w.heap.size<=S0) :
  PQ w ((((W.setCell ⟨S0,0,none⟩ (.int .u64 (x.nam:Nat))).setCell ⟨S0,1,none⟩ (.int .u64 (x.bar:Nat))).setCell ⟨S0,2,none⟩ (.slice (some ⟨g,0,none⟩) m m)).setCell ⟨S0,3,none⟩ (.slice (some ⟨P0,0,none⟩) n n)) R0 V S0 P0 n g m x L/\RowP ((((W.setCell ⟨S0,0,none⟩ (.int .u64 (x.nam:Nat))).setCell ⟨S0,1,none⟩ (.int .u64 (x.bar:Nat))).setCell ⟨S0,2,none⟩ (.slice (some ⟨g,0,none⟩) m m)).setCell ⟨S0,3,none⟩ (.slice (some ⟨P0,0,none⟩) n n)) P0 n []:=by
 have hk:∀(k:Nat),¬k=S0->((((W.setCell ⟨S0,0,none⟩ (.int .u64 (x.nam:Nat))).setCell ⟨S0,1,none⟩ (.int .u64 (x.bar:Nat))).setCell ⟨S0,2,none⟩ (.slice (some ⟨g,0,none⟩) m m)).setCell ⟨S0,3,none⟩ (.slice (some ⟨P0,0,none⟩) n n)).heap[k]?=W.heap[k]?:=fun k hk=>by
  rw[heap_setCell_other _ _ k _ hk,heap_setCell_other _ _ k _ hk,heap_setCell_other _ _ k _ hk,heap_setCell_other _ _ k _ hk]
 have hne2:∀(k:Nat) (ds:Array Value) (t:TypeId),W.heap[k]?=some (.cells ds t (0,0))->¬t=72->¬k=S0:=fun k ds t hkk ht e=>by
  subst e;rw[hs]at hkk;injection hkk with hkk
  injection hkk with _ e2 _
  exact ht e2.symm
 refine⟨⟨?_,(hk g (hne2 _ _ _ hg0 (by decide))).trans hg0,?_,(hk R0 hne).trans hr,lI (lI (lI (lI hgb hw _ _) hw _ _) hw _ _) hw _ _⟩,?_⟩
 ·exact block_setCell (i:=3) (block_setCell (i:=2) (block_setCell (i:=1) (block_setCell (i:=0) hs _) _) _) _
 ·obtain⟨cur,h1,h2,h3⟩:=hv;exact⟨cur,(hk V (hne2 _ _ _ h1 (by decide))).trans h1,h2,h3⟩
 ·obtain⟨cur,h1,h2,h3⟩:=hp;exact⟨cur,(hk P0 (hne2 _ _ _ h1 (by decide))).trans h1,h2,fun j hj=>by simp at hj⟩
theorem qQ{w:World}{b:Nat}{v0 v1 v2 v3:Value}{t:TypeId}(h:w.heap[b]?=some (.cells #[v0,v1,v2,v3] t (0,0))):w.cell? ⟨b,0,none⟩=some v0/\w.cell? ⟨b,1,none⟩=some v1/\w.cell? ⟨b,2,none⟩=some v2/\w.cell? ⟨b,3,none⟩=some v3/\∀i,w.frozen? ⟨b,i,none⟩=false :=
 ⟨by rw[ah h];rfl,by rw[ah h];rfl,by rw[ah h];rfl,by rw[ah h];rfl,fun i=>Lib.frozen_of_heap h i⟩
theorem UV(o o':Option Addr)(c c':Nat)(N:List Nd)(L:List Re)(w:World)(h:NdS w (.slice o N.length c) N)(h':ReS w (.slice o' L.length c') L)(hvo:∀x∈L,okV x.ve=true)(hr:∀y∈N,okR y.r=true)(hrr:∀x∈L,∀y∈x.nd,okR y.r=true)(hN:N.length<=1048576)(hL:L.length<=64)(hLN:∀x∈L,x.nd.length<=1048576)(hS:∀y∈N,y.n.size<2 ^ 60/\y.r.size<2 ^ 60)(hSS:∀x∈L,∀y∈x.nd,y.n.size<2 ^ 60/\y.r.size<2 ^ 60)(hV:∀x∈L,x.ve.size<2 ^ 60) :
  Calls prog 25 #[.slice o N.length c,.slice o' L.length c'] w fun e w'=>∃(x:Pl) (Q:List Pl) (mv pv:Value),e=.returned (.agg #[.int .u64 (x.nam:Nat),.int .u64 (x.bar:Nat),mv,pv])/\SnS w' mv x.mt/\PlS w' pv Q/\dO N L x/\Q.length=L.length/\(∀j (h1:j<L.length) (h2:j<Q.length),dO L[j].nd L Q[j])/\w.grownBy w' none:=by
 have kH:Hd (∀w',w.grownBy w' none->∀i,i<L.length->∃a,o'=some a/\L.length<=c'/\∀j (hj:j<L.length),ReAt w' (a.add (j*4)) L[j]):=fun w' hg i hi=>rG (h'.grow hg) hi
 have CP:Hd (∀x∈L,∀w,Calls prog 49 #[.string x.ve] w fun e w'=>∃E K:Int,e=.returned (.tuple #[jP (bi x.ve),.int .i64 E,.int .i64 K])/\w.grownBy w' none):=fun x hx w=>(parse_any x.ve w (by have:=hV x hx;omega)).mono fun e w' ⟨h1,h2⟩=>⟨_,_,h1,h2⟩
 have CN:Hd (∀V w',w.grownBy w' none->RowV w' V L.length L.length L->Calls prog 50 #[.slice o N.length c,.slice o' L.length c',.slice (some ⟨V,0,none⟩) L.length L.length] w' fun e w''=>∃(x:Pl) (g:Nat),e=.returned (.agg #[.int .u64 (x.nam:Nat),.int .u64 (x.bar:Nat),.slice (some ⟨g,0,none⟩) N.length N.length])/\w''.heap[g]?=some (.cells (iM x.mt) 64 (0,0))/\dO N L x/\w'.grownBy w'' none):=fun V w' hg hv=>Ub o o' c c' ⟨V,0,none⟩ N L w' (h.grow hg) (h'.grow hg) hv.vrs hvo hr hN hL hS
 have CR:Hd (∀V w' so sc (x:Re),x∈L->w.grownBy w' none->NdS w' (.slice so x.nd.length sc) x.nd->RowV w' V L.length L.length L->Calls prog 50 #[.slice so x.nd.length sc,.slice o' L.length c',.slice (some ⟨V,0,none⟩) L.length L.length] w' fun e w''=>∃(y:Pl) (g:Nat),e=.returned (.agg #[.int .u64 (y.nam:Nat),.int .u64 (y.bar:Nat),.slice (some ⟨g,0,none⟩) x.nd.length x.nd.length])/\w''.heap[g]?=some (.cells (iM y.mt) 64 (0,0))/\dO x.nd L y/\w'.grownBy w'' none):=fun V w' so sc x hx hg hn hv=>Ub so o' sc c' ⟨V,0,none⟩ x.nd L w' hn (h'.grow hg) hv.vrs hvo (hrr x hx) (hLN x hx) hL (hSS x hx)
 obtain⟨R0,hR0⟩:=zN w.heap.size;have HR0:Hd (w.heap.size=R0):=hR0;have hmk:=adJ L.length (by omega) (w.alloc (.cells #[.int .u64 0,.int .u64 0,.slice none 0 0,.slice none 0 0] 72));rw[World.size_alloc,hR0]at hmk;clear h h' hvo hr hrr hS hSS hV hLN;go_enter func25,ntmps25;go_wp2;obtain⟨V,G7⟩:=zN (R0+1);rw[G7];have Az:Hd (R0+1=V):=G7;have HI0:Hd (RowV ((w.alloc (.cells #[.int .u64 0,.int .u64 0,.slice none 0 0,.slice none 0 0] 72)).alloc (.cells (madeCells #[.int .i64 0,.int .i64 0,.int .i64 0,.string ⟨#[]⟩,.string ⟨#[]⟩] (L.length*5)) 108)) V L.length 0 L/\((w.alloc (.cells #[.int .u64 0,.int .u64 0,.slice none 0 0,.slice none 0 0] 72)).alloc (.cells (madeCells #[.int .i64 0,.int .i64 0,.int .i64 0,.string ⟨#[]⟩,.string ⟨#[]⟩] (L.length*5)) 108)).heap[R0]?=some (.cells #[.int .u64 0,.int .u64 0,.slice none 0 0,.slice none 0 0] 72 (0,0))/\w.grownBy ((w.alloc (.cells #[.int .u64 0,.int .u64 0,.slice none 0 0,.slice none 0 0] 72)).alloc (.cells (madeCells #[.int .i64 0,.int .i64 0,.int .i64 0,.string ⟨#[]⟩,.string ⟨#[]⟩] (L.length*5)) 108)) none):=by
  have s1:(w.alloc (.cells #[.int .u64 0,.int .u64 0,.slice none 0 0,.slice none 0 0] 72)).heap.size=V:=by rw[World.size_alloc,HR0.o,G7]
  refine⟨aeF ?_,?_,aj (aj (ak w none) _) _⟩
  ·have:=heap_alloc_new (w.alloc (.cells #[.int .u64 0,.int .u64 0,.slice none 0 0,.slice none 0 0] 72)) (.cells (madeCells #[.int .i64 0,.int .i64 0,.int .i64 0,.string ⟨#[]⟩,.string ⟨#[]⟩] (L.length*5)) 108);rw[s1]at this;exact this
  ·have:=heap_alloc_new w (.cells #[.int .u64 0,.int .u64 0,.slice none 0 0,.slice none 0 0] 72);rw[HR0.o]at this;exact((aj (ak _ none) _).block R0 (by rw[s1];omega) (by simp)).trans this
 clear hmk hR0 G7;go_loopw [16] (fun vi wr=>∃i:Nat,vi=.int .i64 i/\i<=L.length/\(RowV wr V L.length i L/\wr.heap[R0]?=some (.cells #[.int .u64 0,.int .u64 0,.slice none 0 0,.slice none 0 0] 72 (0,0))/\w.grownBy wr none)) (fun vi _=>L.length-(intOf vi).toNat)
 case atStart=>exact⟨0,rfl,Nat.zero_le _,HI0.o⟩
 case round =>
  obtain⟨i,rfl,hi,hrow,hrb,hg⟩:=hrel;have aeG:Hd (RowV wr V L.length i L):=hrow;have iP:Hd (wr.heap[R0]?=some (.cells #[.int .u64 0,.int .u64 0,.slice none 0 0,.slice none 0 0] 72 (0,0))):=hrb;have HG:Hd (w.grownBy wr none):=hg
  by_cases hlt:i<L.length
  ·have hil:i<L.length:=hlt;obtain⟨a2,ho2,hcp2,kC⟩:=kH.o wr hg i hlt;obtain⟨f0,f1,⟨sv,f2,f2'⟩,f3⟩:=kC i hil;have D5:=CP.o _ (List.getElem_mem hil);obtain⟨x,hx⟩:=zN (L[i]);have HX:Hd (L[i]=x):=hx;rw[hx]at f0 f1 f2' f3 D5;obtain⟨so,sn,sc,rfl⟩:∃o n c,sv=.slice o n c:=by
    rcases f2' with⟨rfl,-⟩|⟨_,_,rfl,-⟩<;>exact⟨_,_,_,rfl⟩
   unfold jP at D5;obtain⟨v1,hv1⟩:=zN ((bi x.ve).major);obtain⟨v2,hv2⟩:=zN ((bi x.ve).minor);obtain⟨v3,hv3⟩:=zN ((bi x.ve).patch);obtain⟨v4,hv4⟩:∃v:ByteArray,⟨(bi x.ve).pre.toArray⟩=v:=⟨_,rfl⟩;obtain⟨v5,hv5⟩:∃v:ByteArray,⟨(bi x.ve).build.toArray⟩=v:=⟨_,rfl⟩;have yP:Hd ((bi x.ve).major=v1/\(bi x.ve).minor=v2/\(bi x.ve).patch=v3/\(⟨(bi x.ve).pre.toArray⟩:ByteArray)=v4/\(⟨(bi x.ve).build.toArray⟩:ByteArray)=v5):=⟨hv1,hv2,hv3,hv4,hv5⟩;rw[hv1,hv2,hv3,hv4,hv5]at D5;have Lt:Hd (∀w,Calls prog 49 #[.string x.ve] w fun e w'=>∃E K:Int,e=.returned (.tuple #[.agg #[.int .i64 v1,.int .i64 v2,.int .i64 v3,.string v4,.string v5],.int .i64 E,.int .i64 K])/\w.grownBy w' none):=D5;have dJ:Hd (wr.grownBy (wr.alloc (.cells #[.string x.nm,.string x.ve,.slice so sn sc,.string x.da] 52)) none):=aj (ak wr none) _;have hic:i<c':=by omega
   subst ho2;clear kC hcp2 hrow hrb hg hx f2' D5 hv1 hv2 hv3 hv4 hv5;go_wp2_with (go_at_call 49;refine(Lt.o _).mono ?_);rintro e w4 ⟨E,K,rfl,hg4⟩;have gB:Hd (wr.grownBy w4 none):=ag dJ.o hg4;have yR:=aeG.o.grow gB.o;obtain⟨⟨z0,k0⟩,l0⟩:=yR.room (i*5) (by omega);obtain⟨⟨z1,k1⟩,l1⟩:=yR.room (i*5+1) (by omega);obtain⟨⟨z2,k2⟩,l2⟩:=yR.room (i*5+2) (by omega);obtain⟨⟨z3,k3⟩,l3⟩:=yR.room (i*5+3) (by omega);obtain⟨⟨z4,k4⟩,l4⟩:=yR.room (i*5+4) (by omega);have Cb:Hd (RowV (((((w4.setCell ⟨V,i*5,none⟩ (.int .i64 v1)).setCell ⟨V,i*5+1,none⟩ (.int .i64 v2)).setCell ⟨V,i*5+2,none⟩ (.int .i64 v3)).setCell ⟨V,i*5+3,none⟩ (.string v4)).setCell ⟨V,i*5+4,none⟩ (.string v5)) V L.length (i+1) L):=yR.set hil rfl v1 v2 v3 v4 v5 (by rw[HX.o];exact yP.o.1) (by rw[HX.o];exact yP.o.2.1) (by rw[HX.o];exact yP.o.2.2.1) (by rw[HX.o];exact yP.o.2.2.2.1) (by rw[HX.o];exact yP.o.2.2.2.2)
   have hwV:w.heap.size<=V:=by have:=HR0.o;have:=Az.o;omega
   have HGN:Hd (w.grownBy (((((w4.setCell ⟨V,i*5,none⟩ (.int .i64 v1)).setCell ⟨V,i*5+1,none⟩ (.int .i64 v2)).setCell ⟨V,i*5+2,none⟩ (.int .i64 v3)).setCell ⟨V,i*5+3,none⟩ (.string v4)).setCell ⟨V,i*5+4,none⟩ (.string v5)) none):=lI (lI (lI (lI (lI (ag HG.o gB.o) hwV _ _) hwV _ _) hwV _ _) hwV _ _) hwV _ _;have yQ:Hd ((((((w4.setCell ⟨V,i*5,none⟩ (.int .i64 v1)).setCell ⟨V,i*5+1,none⟩ (.int .i64 v2)).setCell ⟨V,i*5+2,none⟩ (.int .i64 v3)).setCell ⟨V,i*5+3,none⟩ (.string v4)).setCell ⟨V,i*5+4,none⟩ (.string v5)).heap[R0]?=some (.cells #[.int .u64 0,.int .u64 0,.slice none 0 0,.slice none 0 0] 72 (0,0))):=by
    have hne:¬R0=V:=by have:=Az.o;omega
    show _=_;rw[heap_setCell_other _ _ R0 _ hne,heap_setCell_other _ _ R0 _ hne,heap_setCell_other _ _ R0 _ hne,heap_setCell_other _ _ R0 _ hne,heap_setCell_other _ _ R0 _ hne];exact(gB.o.block R0 (aB iP.o) (by simp)).trans iP.o
   clear hg4 yR f0 f1 f2 f3 hwV;go_wp2;go_roundw
   case rel=>exact⟨i+1,by go_num,by omega,Cb.o,yQ.o,HGN.o⟩
   case measure=>simp[intOf];omega
  ·have hil:i=L.length:=by omega
   rw[hil]at hrow;have jV:Hd (RowV wr V L.length L.length L):=hrow;have vP:=adK L.length (by omega);obtain⟨wo,hwo⟩:∃wo,wo=wr:=⟨_,rfl⟩;subst hwo;clear hrow hrb hg hil hi;go_upto_region 7 with fail
   go_cut [8] from 32 (fun v8 wx=>∃(S0 P0 g:Nat) (x:Pl),v8=.pointer (some ⟨S0,0,none⟩)/\PQ w wx R0 V S0 P0 L.length g N.length x L/\dO N L x/\RowP wx P0 L.length []/\w.heap.size<=P0)
   case first =>
    have G1:wo.grownBy wo.drew none:=pO _;have G3:wo.grownBy (wo.alloc (.cells (madeCells #[.int .u64 0,.int .u64 0,.slice none 0 0] (L.length*3)) 69)).drew none:=ag (aj (ak wo none) _) (pO _);have G4:wo.grownBy (wo.alloc (.cells #[.int .u64 0,.int .u64 0,.slice none 0 0,.slice none 0 0] 72)).drew none:=ag (aj (ak wo none) _) (pO _);have G5:wo.grownBy ((wo.alloc (.cells (madeCells #[.int .u64 0,.int .u64 0,.slice none 0 0] (L.length*3)) 69)).alloc (.cells #[.int .u64 0,.int .u64 0,.slice none 0 0,.slice none 0 0] 72)).drew none:=ag (aj (aj (ak wo none) _) _) (pO _);have G6:wo.grownBy ((wo.alloc (.cells #[.int .u64 0,.int .u64 0,.slice none 0 0,.slice none 0 0] 72)).alloc (.cells (madeCells #[.int .u64 0,.int .u64 0,.slice none 0 0] (L.length*3)) 69)).drew none:=ag (aj (aj (ak wo none) _) _) (pO _)
    have afl:=vP wo.drew;have afm:=vP (wo.alloc (.cells #[.int .u64 0,.int .u64 0,.slice none 0 0,.slice none 0 0] 72)).drew;have hS4:=heap_alloc_new wo (.cells #[.int .u64 0,.int .u64 0,.slice none 0 0,.slice none 0 0] 72);have hS5:=heap_alloc_new (wo.alloc (.cells (madeCells #[.int .u64 0,.int .u64 0,.slice none 0 0] (L.length*3)) 69)) (.cells #[.int .u64 0,.int .u64 0,.slice none 0 0,.slice none 0 0] 72);rw[World.size_alloc]at hS5;have hS6:=((aj (ak (wo.alloc (.cells #[.int .u64 0,.int .u64 0,.slice none 0 0,.slice none 0 0] 72)) none) (.cells (madeCells #[.int .u64 0,.int .u64 0,.slice none 0 0] (L.length*3)) 69)).block wo.heap.size (by simp) (by simp)).trans hS4;go_region_with (first|(go_at_call 50;first|(refine(CN.o V (wo.drew) (ag HG.o G1) (jV.o.grow G1)).mono ?_;rintro e w5 ⟨x,g,rfl,hgb,hpi,hg5⟩;have aeH:=vP w5;have afn:=vP (w5.alloc (.cells #[.int .u64 0,.int .u64 0,.slice none 0 0,.slice none 0 0] 72));have hs2:=((aj (ak (w5.alloc (.cells #[.int .u64 0,.int .u64 0,.slice none 0 0,.slice none 0 0] 72)) none) (.cells (madeCells #[.int .u64 0,.int .u64 0,.slice none 0 0] (L.length*3)) 69)).block w5.heap.size (by simp) (by simp)).trans (heap_alloc_new w5 (.cells #[.int .u64 0,.int .u64 0,.slice none 0 0,.slice none 0 0] 72));obtain⟨b0,b1,b2,b3,bf⟩:=qQ hs2;have bf0:=bf 0;have bf1:=bf 1;have bf2:=bf 2;have bf3:=bf 3)|(refine(CN.o V ((wo.alloc (.cells (madeCells #[.int .u64 0,.int .u64 0,.slice none 0 0] (L.length*3)) 69)).drew) (ag HG.o G3) (jV.o.grow G3)).mono ?_;rintro e w5 ⟨x,g,rfl,hgb,hpi,hg5⟩)|(refine(CN.o V ((wo.alloc (.cells #[.int .u64 0,.int .u64 0,.slice none 0 0,.slice none 0 0] 72)).drew) (ag HG.o G4) (jV.o.grow G4)).mono ?_;rintro e w5 ⟨x,g,rfl,hgb,hpi,hg5⟩;have aeH:=vP w5;have hs5:=(hg5.block wo.heap.size (aB hS4) (by simp)).trans hS4;obtain⟨c0,c1,c2,c3,cf⟩:=qQ hs5;have cf0:=cf 0;have cf1:=cf 1;have cf2:=cf 2;have cf3:=cf 3;have hs2:=((aj (ak w5 none) (.cells (madeCells #[.int .u64 0,.int .u64 0,.slice none 0 0] (L.length*3)) 69)).block wo.heap.size (aB hs5) (by simp)).trans hs5;obtain⟨b0,b1,b2,b3,bf⟩:=qQ hs2;have bf0:=bf 0;have bf1:=bf 1;have bf2:=bf 2;have bf3:=bf 3)|(refine(CN.o V (((wo.alloc (.cells (madeCells #[.int .u64 0,.int .u64 0,.slice none 0 0] (L.length*3)) 69)).alloc (.cells #[.int .u64 0,.int .u64 0,.slice none 0 0,.slice none 0 0] 72)).drew) (ag HG.o G5) (jV.o.grow G5)).mono ?_;rintro e w5 ⟨x,g,rfl,hgb,hpi,hg5⟩;have hs5:=(hg5.block (wo.heap.size+1) (aB hS5) (by simp)).trans hS5;obtain⟨c0,c1,c2,c3,cf⟩:=qQ hs5;have cf0:=cf 0;have cf1:=cf 1;have cf2:=cf 2;have cf3:=cf 3)|(refine(CN.o V (((wo.alloc (.cells #[.int .u64 0,.int .u64 0,.slice none 0 0,.slice none 0 0] 72)).alloc (.cells (madeCells #[.int .u64 0,.int .u64 0,.slice none 0 0] (L.length*3)) 69)).drew) (ag HG.o G6) (jV.o.grow G6)).mono ?_;rintro e w5 ⟨x,g,rfl,hgb,hpi,hg5⟩;have hs5:=(hg5.block wo.heap.size (aB hS6) (by simp)).trans hS6;obtain⟨c0,c1,c2,c3,cf⟩:=qQ hs5;have cf0:=cf 0;have cf1:=cf 1;have cf2:=cf 2;have cf3:=cf 3)))
    ·have g5:wo.grownBy w5 none:=ag G1 hg5;have hv5:=jV.o.grow g5;have iV:=(g5.block R0 (aB iP.o) (by simp)).trans iP.o;have hw5:=ag HG.o g5;have hwo:w.heap.size<=wo.heap.size:=HG.o.size;have qR:wo.heap.size<=w5.heap.size:=g5.size;have qU:R0<wo.heap.size:=(aB iP.o);have ga:=aj (aj (ak w5 none) (.cells (madeCells #[.int .u64 0,.int .u64 0,.slice none 0 0] (L.length*3)) 69)) (.cells #[.int .u64 (x.nam:Nat),.int .u64 (x.bar:Nat),.slice (some ⟨g,0,none⟩) N.length N.length,.slice (some ⟨w5.heap.size,0,none⟩) L.length L.length] 72);have hs0:=heap_alloc_new (w5.alloc (.cells (madeCells #[.int .u64 0,.int .u64 0,.slice none 0 0] (L.length*3)) 69)) (.cells #[.int .u64 (x.nam:Nat),.int .u64 (x.bar:Nat),.slice (some ⟨g,0,none⟩) N.length N.length,.slice (some ⟨w5.heap.size,0,none⟩) L.length L.length] 72)
     rw[World.size_alloc]at hs0;have hp0:=((aj (ak (w5.alloc (.cells (madeCells #[.int .u64 0,.int .u64 0,.slice none 0 0] (L.length*3)) 69)) none) (.cells #[.int .u64 (x.nam:Nat),.int .u64 (x.bar:Nat),.slice (some ⟨g,0,none⟩) N.length N.length,.slice (some ⟨w5.heap.size,0,none⟩) L.length L.length] 72)).block w5.heap.size (by simp) (by simp)).trans (heap_alloc_new w5 (.cells (madeCells #[.int .u64 0,.int .u64 0,.slice none 0 0] (L.length*3)) 69));have hq:PQ w _ R0 V (w5.heap.size+1) w5.heap.size L.length g N.length x L:=⟨hs0,(ga.block g (aB hgb) (by simp)).trans hgb,hv5.grow ga,(ga.block R0 (aB iV) (by simp)).trans iV,ag hw5 ga⟩;have HF:Hd (PQ w _ R0 V (w5.heap.size+1) w5.heap.size L.length g N.length x L/\dO N L x/\RowP _ w5.heap.size L.length []/\w.heap.size<=w5.heap.size):=⟨hq,hpi,AQ hp0,by omega⟩
     clear ga hs0 hp0 hq g5 hv5 iV hw5 hwo qR qU;go_wp2;go_meet
     case rel=>exact⟨_,_,_,_,rfl,HF.o⟩
    ·have g5:wo.grownBy w5 none:=ag G1 hg5;have hv5:=jV.o.grow g5;have iV:=(g5.block R0 (aB iP.o) (by simp)).trans iP.o;have hw5:=ag HG.o g5;have hwo:w.heap.size<=wo.heap.size:=HG.o.size;have qR:wo.heap.size<=w5.heap.size:=g5.size;have qU:R0<wo.heap.size:=(aB iP.o);have ga:=aj (aj (ak w5 none) (.cells #[.int .u64 (x.nam:Nat),.int .u64 (x.bar:Nat),.slice (some ⟨g,0,none⟩) N.length N.length,.slice (some ⟨w5.heap.size+1,0,none⟩) L.length L.length] 72)) (.cells (madeCells #[.int .u64 0,.int .u64 0,.slice none 0 0] (L.length*3)) 69);have hs0:=((aj (ak (w5.alloc (.cells #[.int .u64 (x.nam:Nat),.int .u64 (x.bar:Nat),.slice (some ⟨g,0,none⟩) N.length N.length,.slice (some ⟨w5.heap.size+1,0,none⟩) L.length L.length] 72)) none) (.cells (madeCells #[.int .u64 0,.int .u64 0,.slice none 0 0] (L.length*3)) 69)).block w5.heap.size (by simp) (by simp)).trans (heap_alloc_new w5 (.cells #[.int .u64 (x.nam:Nat),.int .u64 (x.bar:Nat),.slice (some ⟨g,0,none⟩) N.length N.length,.slice (some ⟨w5.heap.size+1,0,none⟩) L.length L.length] 72))
     have hp0:=heap_alloc_new (w5.alloc (.cells #[.int .u64 (x.nam:Nat),.int .u64 (x.bar:Nat),.slice (some ⟨g,0,none⟩) N.length N.length,.slice (some ⟨w5.heap.size+1,0,none⟩) L.length L.length] 72)) (.cells (madeCells #[.int .u64 0,.int .u64 0,.slice none 0 0] (L.length*3)) 69);rw[World.size_alloc]at hp0;have hq:PQ w _ R0 V w5.heap.size (w5.heap.size+1) L.length g N.length x L:=⟨hs0,(ga.block g (aB hgb) (by simp)).trans hgb,hv5.grow ga,(ga.block R0 (aB iV) (by simp)).trans iV,ag hw5 ga⟩;have HF:Hd (PQ w _ R0 V w5.heap.size (w5.heap.size+1) L.length g N.length x L/\dO N L x/\RowP _ (w5.heap.size+1) L.length []/\w.heap.size<=w5.heap.size+1):=⟨hq,hpi,AQ hp0,by omega⟩;clear ga hs0 hp0 hq g5 hv5 iV hw5 hwo qR qU;go_wp2;go_meet
     case rel=>exact⟨_,_,_,_,rfl,HF.o⟩
    ·have g5:wo.grownBy w5 none:=ag G3 hg5;have hv5:=jV.o.grow g5;have iV:=(g5.block R0 (aB iP.o) (by simp)).trans iP.o;have hw5:=ag HG.o g5;have hwo:w.heap.size<=wo.heap.size:=HG.o.size;have qR:wo.heap.size<=w5.heap.size:=g5.size;have qU:R0<wo.heap.size:=(aB iP.o);have ga:=aj (ak w5 none) (.cells #[.int .u64 (x.nam:Nat),.int .u64 (x.bar:Nat),.slice (some ⟨g,0,none⟩) N.length N.length,.slice (some ⟨wo.heap.size,0,none⟩) L.length L.length] 72);have hs0:=heap_alloc_new w5 (.cells #[.int .u64 (x.nam:Nat),.int .u64 (x.bar:Nat),.slice (some ⟨g,0,none⟩) N.length N.length,.slice (some ⟨wo.heap.size,0,none⟩) L.length L.length] 72);have uP:w5.heap[wo.heap.size]?=_:=(hg5.block wo.heap.size (Array.getElem?_eq_some_iff.1 (heap_alloc_new wo (.cells (madeCells #[.int .u64 0,.int .u64 0,.slice none 0 0] (L.length*3)) 69))).1 (by simp)).trans (heap_alloc_new wo (.cells (madeCells #[.int .u64 0,.int .u64 0,.slice none 0 0] (L.length*3)) 69))
     have hp0:=(ga.block wo.heap.size (aB uP) (by simp)).trans uP;have hq:PQ w _ R0 V w5.heap.size wo.heap.size L.length g N.length x L:=⟨hs0,(ga.block g (aB hgb) (by simp)).trans hgb,hv5.grow ga,(ga.block R0 (aB iV) (by simp)).trans iV,ag hw5 ga⟩;have HF:Hd (PQ w _ R0 V w5.heap.size wo.heap.size L.length g N.length x L/\dO N L x/\RowP _ wo.heap.size L.length []/\w.heap.size<=wo.heap.size):=⟨hq,hpi,AQ hp0,hwo⟩;clear ga hs0 hp0 uP hq g5 hv5 iV hw5 hwo qR qU;go_wp2;go_meet
     case rel=>exact⟨_,_,_,_,rfl,HF.o⟩
    ·have g5:wo.grownBy w5 none:=ag G5 hg5;have hv5:=jV.o.grow g5;have iV:=(g5.block R0 (aB iP.o) (by simp)).trans iP.o;have hw5:=ag HG.o g5;have hwo:w.heap.size<=wo.heap.size:=HG.o.size;have qR:wo.heap.size<=w5.heap.size:=g5.size;have qU:R0<wo.heap.size:=(aB iP.o);have hpa:=((aj (ak (wo.alloc (.cells (madeCells #[.int .u64 0,.int .u64 0,.slice none 0 0] (L.length*3)) 69)) none) (.cells #[.int .u64 0,.int .u64 0,.slice none 0 0,.slice none 0 0] 72)).block wo.heap.size (by simp) (by simp)).trans (heap_alloc_new wo (.cells (madeCells #[.int .u64 0,.int .u64 0,.slice none 0 0] (L.length*3)) 69));have uP:w5.heap[wo.heap.size]?=_:=(hg5.block wo.heap.size (aB hpa) (by simp)).trans hpa;obtain⟨hq,mP⟩:=Md (m:=N.length) hs5 hgb hv5 iV hw5 (AQ uP) (by omega) (by omega)
     have HF:Hd (PQ w _ R0 V (wo.heap.size+1) wo.heap.size L.length g N.length x L/\dO N L x/\RowP _ wo.heap.size L.length []/\w.heap.size<=wo.heap.size):=⟨hq,hpi,mP,hwo⟩;clear hpa uP hq mP g5 hv5 iV hw5 hwo qR qU;go_wp2;go_meet
     case rel=>exact⟨_,_,_,_,rfl,HF.o⟩
    ·have g5:wo.grownBy w5 none:=ag G4 hg5;have hv5:=jV.o.grow g5;have iV:=(g5.block R0 (aB iP.o) (by simp)).trans iP.o;have hw5:=ag HG.o g5;have hwo:w.heap.size<=wo.heap.size:=HG.o.size;have qR:wo.heap.size<=w5.heap.size:=g5.size;have qU:R0<wo.heap.size:=(aB iP.o);have ga:=aj (ak w5 none) (.cells (madeCells #[.int .u64 0,.int .u64 0,.slice none 0 0] (L.length*3)) 69);obtain⟨hq,mP⟩:=Md (m:=N.length) hs2 ((ga.block g (aB hgb) (by simp)).trans hgb) (hv5.grow ga) ((ga.block R0 (aB iV) (by simp)).trans iV) (ag hw5 ga) (AQ (heap_alloc_new w5 (.cells (madeCells #[.int .u64 0,.int .u64 0,.slice none 0 0] (L.length*3)) 69))) (by omega) (by omega);have HF:Hd (PQ w _ R0 V wo.heap.size w5.heap.size L.length g N.length x L/\dO N L x/\RowP _ w5.heap.size L.length []/\w.heap.size<=w5.heap.size):=⟨hq,hpi,mP,by omega⟩
     clear ga hq mP g5 hv5 iV hw5 hwo qR qU;go_wp2;go_meet
     case rel=>exact⟨_,_,_,_,rfl,HF.o⟩
    ·have g5:wo.grownBy w5 none:=ag G6 hg5;have hv5:=jV.o.grow g5;have iV:=(g5.block R0 (aB iP.o) (by simp)).trans iP.o;have hw5:=ag HG.o g5;have hwo:w.heap.size<=wo.heap.size:=HG.o.size;have qR:wo.heap.size<=w5.heap.size:=g5.size;have qU:R0<wo.heap.size:=(aB iP.o);have hpa:=heap_alloc_new (wo.alloc (.cells #[.int .u64 0,.int .u64 0,.slice none 0 0,.slice none 0 0] 72)) (.cells (madeCells #[.int .u64 0,.int .u64 0,.slice none 0 0] (L.length*3)) 69);rw[World.size_alloc]at hpa;have uP:w5.heap[wo.heap.size+1]?=_:=(hg5.block (wo.heap.size+1) (aB hpa) (by simp)).trans hpa;obtain⟨hq,mP⟩:=Md (m:=N.length) hs5 hgb hv5 iV hw5 (AQ uP) (by omega) (by omega);have HF:Hd (PQ w _ R0 V wo.heap.size (wo.heap.size+1) L.length g N.length x L/\dO N L x/\RowP _ (wo.heap.size+1) L.length []/\w.heap.size<=wo.heap.size+1):=⟨hq,hpi,mP,by omega⟩
     clear hpa uP hq mP g5 hv5 iV hw5 hwo qR qU;go_wp2;go_meet
     case rel=>exact⟨_,_,_,_,rfl,HF.o⟩
   case rest =>
    obtain⟨S0,P0,g,x0,rfl,hpq,hpi,mP,hwp⟩:=hcut;have DW:Hd (dO N L x0):=hpi;have Me:Hd (w.heap.size<=P0):=hwp;have HPQ:Hd (PQ w wc R0 V S0 P0 L.length g N.length x0 L):=hpq;have HRP:Hd (RowP wc P0 L.length []):=mP;clear hpq hpi mP hwp vP;go_wp2;go_loopw [42] (fun vi wr=>∃(i:Nat) (Q:List Pl),vi=.int .i64 i/\i<=L.length/\Q.length=i/\PQ w wr R0 V S0 P0 L.length g N.length x0 L/\RowP wr P0 L.length Q/\∀j (h1:j<L.length) (h2:j<Q.length),dO L[j].nd L Q[j]) (fun vi _=>L.length-(intOf vi).toNat)
    case atStart=>exact⟨0,[],rfl,Nat.zero_le _,rfl,HPQ.o,HRP.o,fun j h1 h2=>by simp at h2⟩
    case round =>
     obtain⟨i,Q,rfl,hi,MB,hpq,mP,iU⟩:=hrel;have AU:Hd (Q.length=i):=MB;have UW:Hd (∀j (h1:j<L.length) (h2:j<Q.length),dO L[j].nd L Q[j]):=iU;have uQ:Hd (PQ w wr R0 V S0 P0 L.length g N.length x0 L):=hpq;have UX:Hd (RowP wr P0 L.length Q):=mP
     by_cases hlt:i<L.length
     ·obtain⟨a2,ho2,hcp2,kC⟩:=kH.o wr hpq.gb i hlt;obtain⟨f0,f1,⟨sv,f2,f2'⟩,f3⟩:=kC i hlt;have UY:=CR.o V;have hmem:=List.getElem_mem hlt;obtain⟨x,hx⟩:=zN (L[i]);have HX:Hd (L[i]=x):=hx;rw[hx]at f0 f1 f2' f3 hmem;obtain⟨so,sc,rfl⟩:∃o c,sv=.slice o x.nd.length c:=by
       rcases f2' with⟨rfl,h0⟩|⟨_,_,rfl,-⟩
       ·exact⟨none,0,by rw[h0];rfl⟩
       ·exact⟨_,_,rfl⟩
      have dJ:Hd (wr.grownBy (wr.alloc (.cells #[.string x.nm,.string x.ve,.slice so x.nd.length sc,.string x.da] 52)).drew none):=ag (aj (ak wr none) _) (pO _);have vZ:Hd (NdS wr (.slice so x.nd.length sc) x.nd):=f2';have C11:Hd (Calls prog 50 #[.slice so x.nd.length sc,.slice o' L.length c',.slice (some ⟨V,0,none⟩) L.length L.length] (wr.alloc (.cells #[.string x.nm,.string x.ve,.slice so x.nd.length sc,.string x.da] 52)).drew fun e w''=>∃(y:Pl) (g:Nat),e=.returned (.agg #[.int .u64 (y.nam:Nat),.int .u64 (y.bar:Nat),.slice (some ⟨g,0,none⟩) x.nd.length x.nd.length])/\w''.heap[g]?=some (.cells (iM y.mt) 64 (0,0))/\dO x.nd L y/\(wr.alloc (.cells #[.string x.nm,.string x.ve,.slice so x.nd.length sc,.string x.da] 52)).drew.grownBy w'' none):=UY _ so sc x hmem (ag uQ.o.gb dJ.o) (vZ.o.grow dJ.o) (uQ.o.v0.grow dJ.o);have hs3:=(aj (ak wr none) (.cells #[.string x.nm,.string x.ve,.slice so x.nd.length sc,.string x.da] 52)).cell (qQ hpq.s0).2.2.2.1 (by simp)
      have UZ:=dJ.o.cell (qQ hpq.s0).2.2.2.1 (by simp);have hic:i<c':=by omega
      subst ho2;clear kC hcp2 MB hpq mP iU hx f2' UY hmem;go_upto_region 11 with fail
      go_region_with (first|(go_at_call 50;refine C11.o.mono ?_;rintro e w5 ⟨y,g5,rfl,hgb,MC,hg5⟩;have q3:=hg5.cell UZ (by simp);have AV:=(UX.o.grow dJ.o).grow hg5;obtain⟨⟨z0,k0⟩,l0⟩:=AV.room (i*3) (by omega);obtain⟨⟨z1,k1⟩,l1⟩:=AV.room (i*3+1) (by omega);obtain⟨⟨z2,k2⟩,l2⟩:=AV.room (i*3+2) (by omega)))
      all_goals (
       have U0:=(uQ.o.grow dJ.o).grow hg5;obtain⟨cs,hcs⟩:=aeE AV;have aeI:Hd (PQ w (((w5.setCell ⟨P0,i*3,none⟩ (.int .u64 (y.nam:Nat))).setCell ⟨P0,i*3+1,none⟩ (.int .u64 (y.bar:Nat))).setCell ⟨P0,i*3+2,none⟩ (.slice (some ⟨g5,0,none⟩) x.nd.length x.nd.length)) R0 V S0 P0 L.length g N.length x0 L):=((U0.set hcs Me.o _ _).set (block_setCell hcs _) Me.o _ _).set (block_setCell (block_setCell hcs _) _) Me.o _ _;have aeJ:Hd (RowP (((w5.setCell ⟨P0,i*3,none⟩ (.int .u64 (y.nam:Nat))).setCell ⟨P0,i*3+1,none⟩ (.int .u64 (y.bar:Nat))).setCell ⟨P0,i*3+2,none⟩ (.slice (some ⟨g5,0,none⟩) x.nd.length x.nd.length)) P0 L.length (Q++[y])):=AV.push AU.o hlt y g5 hgb x.nd.length MC.ln;have aeK:Hd (∀j (h1:j<L.length) (h2:j<(Q++[y]).length),dO L[j].nd L (Q++[y])[j]):=fun j h1 h2=>by
        by_cases hj:j<Q.length
        ·rw[List.getElem_append_left hj];exact UW.o j h1 hj
        ·have he:j=i:=by rw[List.length_append,List.length_singleton,AU.o]at h2;have:=AU.o;omega
         subst he;rw[List.getElem_append_right (by have:=AU.o;omega)];have e0:∀(q:Nat) (hq:q < [y].length),[y][q]=y:=fun q hq=>by
          have:q=0:=by simpa using hq
          subst this;rfl
         rw[e0,HX.o];exact MC
       clear U0 hcs AV hgb MC hg5 q3 k0 k1 k2 l0 l1 l2 hs3 UZ f0 f1 f2 f3;go_wp2;go_roundw
       case rel=>exact⟨i+1,Q++[y],by go_num,by omega,by rw[List.length_append,AU.o];rfl,aeI.o,aeJ.o,aeK.o⟩
       case measure=>simp[intOf];omega)
     ·have hil:i=L.length:=by omega
      have U4:Hd (Q.length=L.length):=AU.o.trans hil;obtain⟨d0,d1,d2,d3,-⟩:=qQ hpq.s0;obtain⟨q0,q1,q2,q3,qf⟩:=qQ hpq.r0;have qf0:=qf 0;have qf1:=qf 1;have qf2:=qf 2;have qf3:=qf 3;clear MB hpq mP iU hil hi qf;go_wp2;have hb1:=block_setCell (i:=0) uQ.o.r0 (.int .u64 (x0.nam:Nat));have hb2:=block_setCell (i:=1) hb1 (.int .u64 (x0.bar:Nat));have hb3:=block_setCell (i:=2) hb2 (.slice (some ⟨g,0,none⟩) N.length N.length);have hb4:=block_setCell (i:=3) hb3 (.slice (some ⟨P0,0,none⟩) L.length L.length);have aeL:=(((UX.o.other uQ.o.r0 0 (.int .u64 (x0.nam:Nat))).other hb1 1 (.int .u64 (x0.bar:Nat))).other hb2 2 (.slice (some ⟨g,0,none⟩) N.length N.length)).other hb3 3 (.slice (some ⟨P0,0,none⟩) L.length L.length);have hw0:=Nat.le_of_eq HR0.o;have nI:=lI (lI (lI (lI uQ.o.gb hw0 0 (.int .u64 (x0.nam:Nat))) hw0 1 (.int .u64 (x0.bar:Nat))) hw0 2 (.slice (some ⟨g,0,none⟩) N.length N.length)) hw0 3 (.slice (some ⟨P0,0,none⟩) L.length L.length)
      have hne:¬g=R0:=fun e=>by
       have h1:=uQ.o.g0;rw[e,uQ.o.r0]at h1;injection h1 with h1
       injection h1 with _ e2 _
       exact absurd e2 (by decide)
      have hgg:((((wr.setCell ⟨R0,0,none⟩ (.int .u64 (x0.nam:Nat))).setCell ⟨R0,1,none⟩ (.int .u64 (x0.bar:Nat))).setCell ⟨R0,2,none⟩ (.slice (some ⟨g,0,none⟩) N.length N.length)).setCell ⟨R0,3,none⟩ (.slice (some ⟨P0,0,none⟩) L.length L.length)).heap[g]?=some (.cells (iM x0.mt) 64 (0,0)):=by
       rw[heap_setCell_other _ _ g _ hne,heap_setCell_other _ _ g _ hne,heap_setCell_other _ _ g _ hne,heap_setCell_other _ _ g _ hne];exact uQ.o.g0
      refine bodyPost_ret (results_cell_row rfl _ _ R0 72 #[.int .u64 (x0.nam:Nat),.int .u64 (x0.bar:Nat),.slice (some ⟨g,0,none⟩) N.length N.length,.slice (some ⟨P0,0,none⟩) L.length L.length] (0,0) _ rfl ?_ underlying72 rfl (by kernel_rfl)) rfl ⟨x0,Q,_,_,rfl,TU hgg DW.o.ln,aeL.pls U4.o,DW.o,U4.o,UW.o,nI⟩;exact hb4
open Go.RowKit Go.Maps
theorem U5(v v':Value)(N:List Nd)(L:List Re)(w:World)(h:NdS w v N)(h':ReS w v' L)(hN:N.length<=1048576)(hL:L.length<=1048576)(hS:∀y∈N,y.n.size<2 ^ 60/\y.r.size<2 ^ 60)(hV:∀x∈L,x.nm.size<2 ^ 60/\x.ve.size<2 ^ 60)(hLN:∀x∈L,x.nd.length<=1048576)(hSS:∀x∈L,∀y∈x.nd,y.n.size<2 ^ 60/\y.r.size<2 ^ 60) :
  Calls prog 12 #[v,v'] w fun e w'=>e=.returned (.int .i64 (fU N L))/\w.grownBy w' none:=by
 have CC:Hd (Calls prog 28 #[v'] w fun e w''=>e=.returned (.tuple #[.int .i64 (dV L L.length).1,.int .i64 ((dV L L.length).2:Int)])/\w.grownBy w'' none):=check_any v' L w h' hL hV hLN hSS;have CF:Hd (∀w',w.grownBy w' none->Calls prog 29 #[v] w' fun e w''=>e=.returned (.int .i64 (dB N))/\w'.grownBy w'' none):=fun w' hg=>TS v N w' (h.grow hg) hN hS
 have HF:Hd (fU N L=if(dV L L.length).1=0 then dB N else 7):=rfl;obtain⟨o,n,c,rfl⟩:∃o n c,v=.slice o n c:=by
  rcases h with⟨rfl,-⟩|⟨_,_,rfl,-⟩<;>exact⟨_,_,_,rfl⟩
 obtain⟨o',c',rfl⟩:=BZ h';obtain⟨R,hR⟩:=zN (fU N L);obtain⟨E,hE⟩:=zN ((dV L L.length).1);obtain⟨K,hK⟩:∃K:Int,((dV L L.length).2:Int)=K:=⟨_,rfl⟩;obtain⟨F,qE⟩:=zN (dB N);rw[hR,hE,qE]at HF;rw[hE,hK]at CC;rw[qE]at CF;rw[hR];clear h h' hS hV hLN hSS hR hE hK qE;go_enter func12,ntmps12;go_wp2_with (go_at_call 28;refine CC.o.mono ?_);rintro e w1 ⟨rfl,hg1⟩
 by_cases hz:E=0
 ·subst hz;have HR:Hd (R=F):=by show R=F;rw[HF.o,if_pos (by trivial)]
  have bJ:Hd (w.grownBy w1 none):=hg1;clear hg1;go_wp2_with (go_at_call 29;refine(CF.o _ bJ.o).mono ?_;rintro e w2 ⟨rfl,hg2⟩);refine bodyPost_ret (results_tmp (t:=4) rfl _ _ _) rfl ⟨?_,ag bJ.o hg2⟩;rw[HR.o];rfl
 ·have hb:(E != 0)=true:=by simp[hz]
  have HR:Hd (R=7):=by show R=7;rw[HF.o,if_neg hz]
  clear hz;go_wp2;refine bodyPost_ret (results_tmp (t:=4) rfl _ _ _) rfl ⟨?_,hg1⟩;rw[HR.o];rfl
theorem aeM(v v' vc:Value)(N:List Nd)(L:List Re)(C:List Int)(w:World)(h:NdS w v N)(h':ReS w v' L)(hc:IS w vc C)(hN:N.length<=1048576)(hL:L.length<=1048576)(hC:C.length<=1048576)(hS:∀y∈N,y.n.size<2 ^ 60/\y.r.size<2 ^ 60)(hV:∀x∈L,x.nm.size<2 ^ 60/\x.ve.size<2 ^ 60)(hLN:∀x∈L,x.nd.length<=1048576)(hSS:∀x∈L,∀y∈x.nd,y.n.size<2 ^ 60/\y.r.size<2 ^ 60) :
  Calls prog 11 #[v,v',vc] w fun e w'=>(∃b:Bool,e=.returned (.bool b)/\(b=true↔iO N L C))/\w.grownBy w' none:=by
 have CF:Hd (Calls prog 12 #[v,v'] w fun e w'=>e=.returned (.int .i64 (fU N L))/\w.grownBy w' none):=U5 v v' N L w h h' hN hL hS hV hLN hSS;obtain⟨o',c',rfl⟩:=BZ h';obtain⟨oc,cc,rfl⟩:=Ja hc;obtain⟨o,c,rfl⟩:∃o c,v=.slice o N.length c:=by
  rcases h with⟨rfl,rfl⟩|⟨_,_,rfl,-⟩
  ·exact⟨_,_,rfl⟩
  ·exact⟨_,_,rfl⟩
 have yS:Hd (fU N L=0->(dV L L.length).1=0/\dB N=0):=fun h0=>by
  unfold fU at h0;split at h0
  ·rename_i h1;exact⟨h1,h0⟩
  ·exact absurd h0 (by decide)
 have CS:Hd (L.length<=64->∀w',w.grownBy w' none->Calls prog 24 #[.slice o' L.length c',.slice oc C.length cc] w' fun e w''=>(kN L C C.length=true->e=.returned (.tuple #[.int .u64 (dC C C.length:Nat),.bool true]))/\(kN L C C.length=false->e=.returned (.tuple #[.int .u64 0,.bool false]))/\w'.grownBy w'' none):=fun h64 w' hg=>YS o' oc c' cc L C w' (h'.grow hg) (hc.grow hg) h64 hC (fun x hx=>(hV x hx).1)
 have CP:Hd (fU N L=0->∀w',w.grownBy w' none->Calls prog 25 #[.slice o N.length c,.slice o' L.length c'] w' fun e w''=>∃(x:Pl) (Q:List Pl) (mv pv:Value),e=.returned (.agg #[.int .u64 (x.nam:Nat),.int .u64 (x.bar:Nat),mv,pv])/\SnS w'' mv x.mt/\PlS w'' pv Q/\dO N L x/\Q.length=L.length/\(∀j (h1:j<L.length) (h2:j<Q.length),dO L[j].nd L Q[j])/\w'.grownBy w'' none):=fun h0 w' hg=>by
  obtain⟨h1,h2⟩:=yS.o h0;obtain⟨s1,s2⟩:=AA L h1;exact UV o o' c c' N L w' (h.grow hg) (h'.grow hg) (fun x hx=>(s2 x hx).2.1) (fun y hy=>by
   have:=Gy h2 y hy;unfold iF at this;rw[Bool.and_eq_true]at this;exact this.2) (fun x hx=>(s2 x hx).2.2) hN (by omega) hLN hS hSS (fun x hx=>(hV x hx).2)
 have U6:Hd (fU N L=0->L.length<=50):=fun h0=>(AA L (yS.o h0).1).1
 have cu:Hd (kN L C C.length=true->L.length<=64->dC C C.length<18446744073709551616):=fun h1 h2=>by
  unfold kN at h1;rw[Bool.and_eq_true]at h1;exact Jd L C h2 C.length (Nat.le_refl _) h1.1
 have tC:Hd (¬fU N L=0->¬iO N L C):=fun h0 hg=>h0 hg.f
 have G8:Hd (kN L C C.length=false->¬iO N L C):=fun h0 hg=>by rw[hg.ok]at h0;cases h0
 have G9:Hd (∀x Q n,fU N L=0->kN L C C.length=true->dO N L x->Q.length=L.length->(∀j (h1:j<L.length) (h2:j<Q.length),dO L[j].nd L Q[j])->wN Q x.nam (dC C C.length) (n+1)=wN Q x.nam (dC C C.length) n->(iO N L C↔(ja Q (dC C C.length) Q.length && gY x.mt (dC C C.length))=true/\wN Q x.nam (dC C C.length) n=dC C C.length)):=fun x Q n h1 h2 h3 h4 h5 h6=>adS h1 h2 h3 h4 h5 n h6
 have MF:Hd (∀x Q,fU N L=0->dO N L x->Q.length=L.length->(∀j (h1:j<L.length) (h2:j<Q.length),dO L[j].nd L Q[j])->(ja Q (dC C C.length) Q.length && gY x.mt (dC C C.length))=false->¬iO N L C):=fun x Q h1 h3 h4 h5 h6 hg=>by
  have:(ja Q (dC C C.length) Q.length && gY x.mt (dC C C.length))=true:=by
   rw[Bool.and_eq_true,DV h3,Lr _ _ _ (Nat.le_refl _)];refine⟨fun k hk _ hb=>?_,hg.m0⟩;rw[qP]at hb;have hkl:k<L.length:=by omega
   exact(DV (h5 k hkl hk)).2 (hg.m1 k hkl hb)
  rw[h6]at this;cases this
 obtain⟨F,hF⟩:=zN (fU N L);rw[hF]at CF CP U6 tC G9 MF;obtain⟨ok,hok⟩:=zN (kN L C C.length);rw[hok]at CS cu G8 G9;obtain⟨A,hA⟩:=zN (dC C C.length);rw[hA]at CS cu G9 MF;clear h h' hc hS hV hLN hSS hF hok hA yS;go_enter func11,ntmps11;go_wp2_with (go_at_call 12;refine CF.o.mono ?_);rintro e w1 ⟨rfl,hg1⟩;have HG:Hd (w.grownBy w1 none):=hg1;clear hg1
 by_cases hz:F=0
 ·subst hz;have h50:=U6.o rfl;go_wp2_with (go_at_call 24;refine(CS.o (by omega) _ HG.o).mono ?_);rintro e w2 ⟨ht,hf,hg2⟩;replace HG:Hd (w.grownBy w2 none):=ag HG.o hg2;clear hg2
  cases ok with
  | false =>
   obtain rfl:=hf rfl;clear ht hf;go_wp2;refine bodyPost_ret (results_tmp (t:=6) rfl _ _ _) rfl ⟨⟨false,rfl,?_⟩,HG.o⟩;exact⟨fun h=>(by cases h),fun h=>absurd h (G8.o (by trivial))⟩
  | true =>
   obtain rfl:=ht rfl;have hAs:=cu.o (by trivial) (by omega);clear ht hf;go_wp2_with (go_at_call 25;refine(CP.o (by trivial) _ HG.o).mono ?_);rintro e w3 ⟨x,Q,mv,pv,rfl,hsn,hpl,hpi,sN,iU,hg3⟩;replace HG:Hd (w.grownBy w3 none):=ag HG.o hg3;obtain⟨om,cm,rfl⟩:=Cf hsn;obtain⟨op,cp,rfl⟩:=Fp hpl;have DW:Hd (dO N L x/\Q.length=L.length/\∀j (h1:j<L.length) (h2:j<Q.length),dO L[j].nd L Q[j]):=⟨hpi,sN,iU⟩;have U7:Hd (∀z∈Q,Fj z):=fun z hz=>by
    obtain⟨j,hj,rfl⟩:=List.getElem_of_mem hz;exact(iU j (by omega) hj).ok
   obtain⟨S0,hS0⟩:=zN w3.heap.size;obtain⟨W4,gp⟩:=zN (w3.alloc (.cells #[.int .u64 (x.nam:Nat),.int .u64 (x.bar:Nat),.slice om x.mt.length cm,.slice op Q.length cp] 72));have g4:w3.grownBy W4 none:=by rw[<-gp];exact aj (ak w3 none) _
   have HB4:Hd (W4.heap[S0]?=some (.cells #[.int .u64 (x.nam:Nat),.int .u64 (x.bar:Nat),.slice om x.mt.length cm,.slice op Q.length cp] 72 (0,0))):=by rw[<-gp,<-hS0];exact heap_alloc_new w3 _
   obtain⟨d0,d1,d2,d3,-⟩:=qQ HB4.o;replace HG:Hd (w.grownBy W4 none):=ag HG.o g4;have CM:Hd (Calls prog 26 #[.agg #[.int .u64 (x.nam:Nat),.int .u64 (x.bar:Nat),.slice om x.mt.length cm,.slice op Q.length cp],.int .u64 (A:Nat)] W4 fun e w'=>e=.returned (.bool (ja Q A Q.length && gY x.mt A))/\W4.grownBy w' none):=Y6 x.nam x.bar A _ _ x.mt Q W4 (hsn.grow g4) (hpl.grow g4) hAs hpi.ok.mt hpi.ok.ln U7.o (by omega);have CW:Hd (∀w',W4.grownBy w' none->Calls prog 27 #[.agg #[.int .u64 (x.nam:Nat),.int .u64 (x.bar:Nat),.slice om x.mt.length cm,.slice op Q.length cp],.int .u64 (A:Nat)] w' fun e w''=>(∃n,e=.returned (.int .u64 (wN Q x.nam A n:Nat))/\wN Q x.nam A (n+1)=wN Q x.nam A n)/\w'.grownBy w'' none):=fun w' hg=>ZT x.nam x.bar A _ _ Q w' ⟨_,_,_,rfl⟩ ((hpl.grow g4).grow hg) hAs hpi.ok.nam U7.o (by omega)
   have U8:Hd ((ja Q A Q.length && gY x.mt A)=false->¬iO N L C):=MF.o x Q (by trivial) hpi sN iU;have U9:Hd (∀n,wN Q x.nam A (n+1)=wN Q x.nam A n->(iO N L C↔(ja Q A Q.length && gY x.mt A)=true/\wN Q x.nam A n=A)):=fun n hn=>G9.o x Q n (by trivial) (by trivial) hpi sN iU hn
   obtain⟨mb,hmb⟩:=zN ((ja Q A Q.length && gY x.mt A));rw[hmb]at CM U8 U9;clear hsn hpl hpi sN iU hg3 g4 hmb
   cases mb with
   | false =>
    go_wp2_with (go_at_call 26;refine CM.o.mono ?_;rintro e w5 ⟨rfl,hg5⟩);refine bodyPost_ret (results_tmp (t:=6) rfl _ _ _) rfl ⟨⟨false,rfl,?_⟩,ag HG.o hg5⟩;exact⟨fun h=>(by cases h),fun h=>absurd h (U8.o (by trivial))⟩
   | true =>
    go_wp2_with (first|(go_at_call 26;refine CM.o.mono ?_;rintro e w5 ⟨rfl,hg5⟩;obtain⟨f0,f1,f2,f3,-⟩:=qQ ((hg5.block S0 (aB HB4.o) (by simp)).trans HB4.o))|(go_at_call 27;refine(CW.o _ hg5).mono ?_));rintro e w6 ⟨⟨n,rfl,hfx⟩,dG⟩;have HX:Hd (iO N L C↔wN Q x.nam A n=A):=by
     have:=U9.o n hfx;show _↔_;simpa using this
    have lS:Hd (w.grownBy w6 none):=ag HG.o (ag hg5 dG);obtain⟨Wn,MG⟩:=zN (wN Q x.nam A n);rw[MG]at HX
    try rw[MG]
    clear hfx hg5 dG MG
    by_cases he:Wn=A
    ·subst he;have JJ:(((Wn:Nat):Int) == ((Wn:Nat):Int))=true:=by simp
     go_wp2;refine bodyPost_ret (results_tmp (t:=6) rfl _ _ _) rfl ⟨⟨true,rfl,?_⟩,lS.o⟩;exact⟨fun _=>HX.o.2 (by trivial),fun _=>rfl⟩
    ·have JJ:(((Wn:Nat):Int) == ((A:Nat):Int))=false:=by
      rw[beq_eq_false_iff_ne];omega
     have HN:Hd (¬iO N L C):=fun h=>he (HX.o.1 h)
     clear he;go_wp2;refine bodyPost_ret (results_tmp (t:=6) rfl _ _ _) rfl ⟨⟨false,rfl,?_⟩,lS.o⟩;exact⟨fun h=>(by cases h),fun h=>absurd h HN.o⟩
 ·have hb:(F != 0)=true:=by simp[hz]
  have HN:Hd (¬iO N L C):=tC.o hz;clear hz;go_wp2;refine bodyPost_ret (results_tmp (t:=6) rfl _ _ _) rfl ⟨⟨false,rfl,?_⟩,HG.o⟩;exact⟨fun h=>(by cases h),fun h=>absurd h HN.o⟩
end Go.Proofs.YteciokcdpadmpaaGreatDoor
