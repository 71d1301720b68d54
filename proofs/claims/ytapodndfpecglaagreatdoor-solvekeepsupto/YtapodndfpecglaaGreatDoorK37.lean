import Derived.Test.YtapodndfpecglaaGreatDoorK33
import Derived.Test.YtapodndfpecglaaGreatDoorK35
set_option linter.all false
set_option maxRecDepth 100000
set_option maxHeartbeats 0
open Go.Proofs.Tryz
namespace Go.Proofs.YtapodndfpecglaaGreatDoor
open Go.RowKit Go.Maps
theorem aeO{w:World}{a:Addr}{cap:Nat}{C:List Int}(hcap:C.length<=cap)(h:∀j (hj:j<C.length),w.cell? (a.add j)=some (.int .i64 C[j]))(i:Nat)(hi:i<=C.length):IS w (.slice (some a) (C.take i).length cap) (C.take i):=by
 refine Or.inr ⟨a,cap,rfl,by rw[List.length_take];omega,fun j hj=>?_⟩;rw[List.length_take]at hj;rw[List.getElem_take];exact h j (by omega)
theorem aeP(v v' vc:Value)(N:List Nd)(L:List Re)(C:List Int)(w:World)(h:NdS w v N)(h':ReS w v' L)(hc:IS w vc C)(hN:N.length<=1048576)(hL:L.length<=1048576)(hC:C.length<=1048576)(hS:∀y∈N,y.n.size<2 ^ 60/\y.r.size<2 ^ 60)(hV:∀x∈L,x.nm.size<2 ^ 60/\x.ve.size<2 ^ 60)(hLN:∀x∈L,x.nd.length<=1048576)(hSS:∀x∈L,∀y∈x.nd,y.n.size<2 ^ 60/\y.r.size<2 ^ 60) :
  Calls prog 4 #[v,v',vc] w fun e w'=>(∃b:Bool,e=.returned (.bool b)/\(b=true↔jW N L C))/\w.grownBy w' none:=by
 have CK:=ae (aeE v' L w h' hL hV hLN hSS);have Ux:=ae (fun w' (hg:w.grownBy w' none)=>SG v N w' (h.grow hg) hN hS);obtain⟨o,c,rfl⟩:=Eg h';obtain⟨oc,cc,rfl⟩:=H7 hc;have CM:Hd ((dV L L.length).1=0->dm N=0->(∀z∈C,0<=z/\z<(L.length:Int))->∀w',w.grownBy w' none->Calls prog 13 #[v,.slice o L.length c,.slice oc C.length cc] w' fun e w''=>e=.returned (.bool (kC N L C))/\w'.grownBy w'' none):=fun h1 h2 hin w' hg=>TM v o oc c cc N L C w' (h.grow hg) (h'.grow hg) (hc.grow hg) hN hL hC hin (fun y hy=>by
  have:=JU h2 y hy;unfold iC at this;rw[Bool.and_eq_true]at this;exact this.2) (fun y hy=>(hS y hy).2) (fun x hx=>(hV x hx).2)
 have CR:=ae (fun(h1:(dV L L.length).1=0) (hin:(∀z∈C,0<=z/\z<(L.length:Int))) x (hx:x∈L) sv w' (hg:w.grownBy w' none) (hs:NdS w' sv x.nd)=>TM sv o oc c cc x.nd L C w' hs (h'.grow hg) (hc.grow hg) (hLN x hx) hL hC hin ((Fe L h1).2 x hx).2.2 (fun y hy=>(hSS x hx y hy).2) (fun x hx=>(hV x hx).2));have CC:Hd ((∀z∈C,0<=z/\z<(L.length:Int))->∀i,i<C.length->∀n w',w.grownBy w' none->Calls prog 14 #[.slice o L.length c,.slice oc i cc,.string n] w' fun e w''=>e=.returned (.int .i64 (iI L (C.take i) n))/\w'.grownBy w'' none):=fun hin i hi n w' hg=>by
  obtain⟨a,ho,hcp,hat⟩:=qE (hc.grow hg) hi;subst ho;have hl:(C.take i).length=i:=by rw[List.length_take];omega
  have h1:=aeO hcp hat i (by omega);have:=TK o (some a) c cc L (C.take i) n w' (h'.grow hg) h1 hL (by omega) (fun z hz=>hin z (List.mem_of_mem_take hz));rw[hl]at this;exact this
 have CT:=ae (fun(hin:(∀z∈C,0<=z/\z<(L.length:Int))) w' (hg:w.grownBy w' none)=>aev v o oc c cc N L C w' (h.grow hg) (h'.grow hg) (hc.grow hg) hN hL hC hin hLN);have kD:=ae (fun w' (hg:w.grownBy w' none) i (hi:i<L.length)=>sG (h'.grow hg) hi);have xW:=ae (fun w' (hg:w.grownBy w' none) i (hi:i<C.length)=>qE (hc.grow hg) hi);have HIS:=ae (YR L C);have I4:Hd (∀i (hi:i<C.length),¬(0<=C[i]/\C[i]<(L.length:Int))->¬jW N L C):=fun i hi hn hg=>hn (Ac hg _ (List.getElem_mem hi))
 have HIA:Hd (nz L C C.length=true->∀z∈C,0<=z/\z<(L.length:Int)):=fun hr z hz=>by
  unfold nz at hr;rw[List.take_length,List.all_eq_true]at hr;exact of_decide_eq_true (hr z hz)
 have yx:Hd (¬((dV L L.length).1=0/\dm N=0)->¬jW N L C):=fun hn hg=>hn (by
  have:=hg.f;unfold jK at this;split at this
  ·rename_i h1;exact⟨h1,this⟩
  ·exact absurd this (by decide))
 have KP:=ae (fun(h1:(dV L L.length).1=0) (h2:dm N=0) (hin:(∀z∈C,0<=z/\z<(L.length:Int)))=>aer (by unfold jK;rw[if_pos h1];exact h2) hin);have dh:Hd (∀i,ok2 N L C (i+1)=(ok2 N L C i && kC (vS L C i) L C && decide (iI L (C.take i) (nC L C i)<0))):=fun i=>rfl
 have sU:Hd (ok2 N L C 0=kC N L C):=rfl;have FK:Hd (∀i (hi:i<C.length) (k:Nat) (hk:k<L.length),C[i]=(k:Int)->nC L C i=L[k].nm/\vS L C i=L[k].nd):=fun i hi k hk he=>by
  have e1:(C[i]).toNat=k:=by omega
  exact⟨by rw[uo L C i hi,e1,qF L k hk],by rw[zZ L C i hi,e1,zY L k hk]⟩
 have FM:Hd ((wD N L C (C.length+1)).length=C.length):=xU _;obtain⟨on,nn,cn,rfl⟩:∃o n c,v=.slice o n c:=by
  rcases h with⟨rfl,-⟩|⟨_,_,rfl,-⟩<;>exact⟨_,_,_,rfl⟩
 obtain⟨E,hE⟩:=zN ((dV L L.length).1);obtain⟨K,hK⟩:∃K:Int,((dV L L.length).2:Int)=K:=⟨_,rfl⟩;obtain⟨F,zW⟩:=zN (dm N);rw[hE,hK]at CK;rw[hE]at CM CR yx KP;rw[zW]at Ux CM yx KP;clear h h' hc hS hV hLN hSS hE hK zW;have hno:∀e,e=Ending.returned (.bool false)->¬jW N L C->∃b:Bool,e=.returned (.bool b)/\(b=true↔jW N L C):=fun e he hn=>⟨false,he,⟨fun h=>(by cases h),fun h=>absurd h hn⟩⟩
 have aU:=ae hno;clear hno;go_enter func4,ntmps4;go_wp2_with (go_at_call 11;refine CK.o.mono ?_);rintro e w1 ⟨rfl,hg1⟩;have bI:=ae hg1;clear hg1
 by_cases hz:E=0
 ·subst hz;go_wp2_with (go_at_call 12;refine(Ux.o _ bI.o).mono ?_);rintro e w2 ⟨rfl,hg2⟩;have HG2:=ae (ah bI.o hg2);clear hg2
  by_cases hf:F=0
  ·subst hf;go_wp2;go_loopw [9] (fun vi wr=>∃i:Nat,vi=.int .i64 i/\i<=C.length/\nz L C i=true/\w.grownBy wr none) (fun vi _=>C.length-(intOf vi).toNat)
   case atStart=>exact⟨0,rfl,Nat.zero_le _,rfl,HG2.o⟩
   case round =>
    obtain⟨i,rfl,hi,hr,hg⟩:=hrel;have HR:=ae hr;have HG:=ae hg;obtain⟨wo,hwo⟩:∃wo,wo=wr:=⟨_,rfl⟩;subst hwo
    by_cases hlt:i<C.length
    ·obtain⟨a1,ho1,hcp1,iU⟩:=xW.o wo hg i hlt;have f0:=iU i hlt;have his:=HIS.o i hlt;have hgo:=I4.o i hlt;obtain⟨z,hzz⟩:=zN (C[i]);rw[hzz]at f0 his hgo;have aeQ:=ae his;have Uy:=ae hgo;have hic:i<cc:=by omega
     subst ho1;clear hr hg iU hcp1 hzz his hgo
     by_cases hz0:z<0
     ·have HN:=ae (Uy.o (by omega));go_wp2;refine bodyPost_ret (results_tmp (t:=6) rfl _ _ _) rfl ⟨⟨false,rfl,⟨fun h=>(by cases h),fun h=>absurd h HN.o⟩⟩,HG.o⟩
     ·by_cases hz1:z ≥ (L.length:Int)
      ·have HN:=ae (Uy.o (by omega));go_wp2;refine bodyPost_ret (results_tmp (t:=6) rfl _ _ _) rfl ⟨?_,HG.o⟩
       first|exact⟨false,rfl,⟨fun h=>(by cases h),fun h=>absurd h HN.o⟩⟩|exact Or.inl ⟨rfl,HN.o⟩
      ·have J5:Hd (nz L C (i+1)=true):=by
        show _=_;rw[aeQ.o,HR.o,decide_eq_true (by omega)];rfl
       go_wp2;go_roundw
       case rel=>exact⟨i+1,by go_num,by omega,J5.o,HG.o⟩
       case measure=>simp[intOf];omega
    ·have hil:i=C.length:=by omega
     have hin:=HIA.o (by rw[hil]at hr;exact hr);have iJ:=ae hin;have C1:Hd (Calls prog 13 #[.slice on nn cn,.slice o L.length c,.slice oc C.length cc] wo fun e w''=>e=.returned (.bool (ok2 N L C 0))/\wo.grownBy w'' none):=by
      rw[sU.o];exact CM.o (by trivial) (by trivial) hin wo hg
     have Uz:=ae (KP.o (by trivial) (by trivial) hin);clear hr hg hil hi hin;go_wp2_with (go_at_call 13;refine C1.o.mono ?_);rintro e w3 ⟨rfl,hg3⟩;have dJ:=ae (ah HG.o hg3);clear hg3;go_wp2;go_loopw [10,11] (fun vo vi wr=>∃i:Nat,vi=.int .i64 i/\vo=.bool (ok2 N L C i)/\i<=C.length/\w.grownBy wr none) (fun _ vi _=>C.length-(intOf vi).toNat)
     case atStart=>exact⟨0,rfl,rfl,Nat.zero_le _,dJ.o⟩
     case round =>
      obtain⟨i,rfl,rfl,hi,hg⟩:=hrel;have uq:=ae hg;obtain⟨wp,hwp⟩:∃wp,wp=wr:=⟨_,rfl⟩;subst hwp
      by_cases hlt:i<C.length
      ·obtain⟨k,hk,gy⟩:∃k:Nat,C[i]=(k:Int)/\k<L.length:=by
        have:=iJ.o _ (List.getElem_mem hlt);exact⟨(C[i]).toNat,by omega,by omega⟩
       obtain⟨a1,ho1,hcp1,iU⟩:=xW.o wp hg i hlt;have f0:=iU i hlt;obtain⟨a2,ho2,hcp2,ik⟩:=kD.o wp hg k gy;obtain⟨e0,e1,⟨sv,e2,e2'⟩,e3⟩:=ik k gy;obtain⟨hn1,hn2⟩:=FK.o i hlt k gy hk;have hmem:=List.getElem_mem gy;have ho:=dh.o i;rw[hk]at f0;obtain⟨x,hx⟩:=zN (L[k]);rw[hx]at e0 e1 e2' e3 hn1 hn2 hmem;rw[hn1,hn2]at ho;have dH:=ae ho;obtain⟨so,sn,sc,rfl⟩:∃o n c,sv=.slice o n c:=by
        rcases e2' with⟨rfl,-⟩|⟨_,_,rfl,-⟩<;>exact⟨_,_,_,rfl⟩
       obtain⟨X0,hX0⟩:=zN wp.heap.size;obtain⟨W4,iE⟩:=zN (wp.alloc (.cells #[.string x.nm,.string x.ve,.slice so sn sc,.string x.da] 43));have g4:wp.grownBy W4 none:=by rw[<-iE];exact au (ak wp none) _
       have lD:Hd (W4.heap[X0]?=some (.cells #[.string x.nm,.string x.ve,.slice so sn sc,.string x.da] 43 (0,0))):=by rw[<-iE,<-hX0];exact heap_alloc_new wp _
       obtain⟨x0,x1,x2,x3⟩:=zQ lD.o;have gm:=ae (ah uq.o g4);have C2:=ae (CR.o (by trivial) iJ.o x hmem _ W4 gm.o (e2'.grow g4));have C3:=ae (CC.o iJ.o i hlt x.nm);obtain⟨p,hp⟩:=zN (ok2 N L C i);obtain⟨m,hm⟩:=zN (kC x.nd L C);obtain⟨z,hzz⟩:=zN (iI L (C.take i) x.nm);rw[hp,hm,hzz]at dH;rw[hm]at C2;rw[hzz]at C3;rw[hp];have hic:i<cc:=by omega
       have hkc:k<c:=by omega
       have hiC:=hi
       cases ho1
       cases ho2
       clear hg iU ik hk hn1 hn2 hmem ho hx e2' g4 hp hm hzz hcp1 hcp2;go_wp2_with (go_at_call 13;refine C2.o.mono ?_);rintro e w5 ⟨rfl,hg5⟩;have hx5:=(zQ ((hg5.block X0 (aA lD.o) (by simp)).trans lD.o)).1;have jQ:=ae (ah gm.o hg5);clear hg5 f0 e0 e1 e2 e3 x0 x1 x2 x3 iE hX0;have G6:=ah jQ.o (show w5.grownBy w5.drew none from⟨rfl,rfl,rfl,Nat.le_refl _,fun _ _ _=>rfl⟩);go_upto_region 15 with fail
       go_region_with (first|(go_at_call 14;refine(C3.o _ G6).mono ?_;rintro e w6 ⟨rfl,mf⟩))
       all_goals (
        have qo:=ae (ah jQ.o (ah (show w5.grownBy w5.drew none from⟨rfl,rfl,rfl,Nat.le_refl _,fun _ _ _=>rfl⟩) mf));clear mf hx5 G6
        cases p with
        | false =>
         have HN:Hd (ok2 N L C (i+1)=false):=by show _=_;rw[dH.o];rfl
         go_wp2;go_roundw
         case rel=>exact⟨i+1,by go_num,by rw[HN.o],by omega,qo.o⟩
         case measure=>simp[intOf];omega
        | true =>
         cases m with
         | false =>
          have HN:Hd (ok2 N L C (i+1)=false):=by show _=_;rw[dH.o];rfl
          go_wp2;go_roundw
          case rel=>exact⟨i+1,by go_num,by rw[HN.o],by omega,qo.o⟩
          case measure=>simp[intOf];omega
         | true =>
          have HN:Hd (ok2 N L C (i+1)=decide (z<0)):=by show _=_;rw[dH.o];rfl
          go_wp2;go_roundw
          case rel=>exact⟨i+1,by go_num,by rw[HN.o],by omega,qo.o⟩
          case measure=>simp[intOf];omega)
      ·have hil:i=C.length:=by omega
       have HP:Hd (ok2 N L C i=ok2 N L C C.length):=by show _=_;rw[hil]
       obtain⟨p,hp⟩:=zN (ok2 N L C i);rw[hp]at HP;rw[hp];have C4:=ae (CT.o iJ.o wp hg);clear hg hil hi hp
       cases p with
       | false =>
        have HN:Hd (¬jW N L C):=fun hgp=>by
         have:=(Uz.o.1 hgp).1;rw[<-HP.o]at this
         cases this
        go_wp2;refine bodyPost_ret (results_tmp (t:=6) rfl _ _ _) rfl ⟨aU.o _ rfl HN.o,uq.o⟩
       | true =>
        have Ci:Hd (jW N L C↔(wD N L C (C.length+1)).all id=true):=by
         show _↔_;rw[Uz.o,<-HP.o];simp
        go_wp2_with (first|(go_at_call 15;refine C4.o.mono ?_));rintro e w7 ⟨B,rfl,hbb,lg⟩;have UA:=ae hbb;have xP:=ae (ah uq.o lg);obtain⟨b,hb⟩:=zN (wD N L C (C.length+1));have hbl:=FM.o;rw[hb]at UA Ci hbl;clear hbb lg hb;go_wp2;go_loopw [10,16] (fun vo vi wr=>∃i:Nat,vi=.int .i64 i/\vo=.bool ((b.take i).all id)/\i<=C.length/\w7.grownBy wr none) (fun _ vi _=>C.length-(intOf vi).toNat)
        case atStart=>exact⟨0,rfl,rfl,Nat.zero_le _,ak _ _⟩
        case round =>
         obtain⟨i,rfl,rfl,hi,hg⟩:=hrel;have zX:=ae hg
         by_cases hlt:i<C.length
         ·have hib:i<b.length:=by omega
          obtain⟨c0,-⟩:=(UA.o.grow hg).cell i hib;have HST:Hd ((b.take (i+1)).all id=((b.take i).all id && bA b i)):=by
           show _=_;rw[List.take_succ_eq_append_getElem hib,List.all_append,xQ b i hib];simp
          obtain⟨p,hp⟩:=zN ((b.take i).all id);obtain⟨u,hu⟩:=zN (bA b i);rw[hp,hu]at HST;rw[hu]at c0;rw[hp];clear hg hp hu
          cases p with
          | false =>
           have HN:Hd ((b.take (i+1)).all id=false):=by show _=_;rw[HST.o];rfl
           go_wp2;go_roundw
           case rel=>exact⟨i+1,by go_num,by rw[HN.o],by omega,zX.o⟩
           case measure=>simp[intOf];omega
          | true =>
           have HN:Hd ((b.take (i+1)).all id=u):=by show _=_;rw[HST.o];simp
           go_wp2;go_roundw
           case rel=>exact⟨i+1,by go_num,by rw[HN.o],by omega,zX.o⟩
           case measure=>simp[intOf];omega
         ·have hil:i=C.length:=by omega
          have HP2:Hd ((b.take i).all id=b.all id):=by
           show _=_;rw[hil,<-hbl,List.take_length]
          obtain⟨p,hp⟩:=zN ((b.take i).all id);rw[hp]at HP2;rw[hp];clear hg hil hi hp;go_wp2;refine bodyPost_ret (results_tmp (t:=6) rfl _ _ _) rfl ⟨⟨p,rfl,?_⟩,ah xP.o zX.o⟩;rw[Ci.o,HP2.o]
  ·have hb:(F != 0)=true:=by simp[hf]
   have HN:=ae (yx.o fun hh=>hf hh.2);clear hf;go_wp2;refine bodyPost_ret (results_tmp (t:=6) rfl _ _ _) rfl ⟨aU.o _ rfl HN.o,HG2.o⟩
 ·have hb:(E != 0)=true:=by simp[hz]
  have HN:=ae (yx.o fun hh=>hz hh.1);clear hz;go_wp2;refine bodyPost_ret (results_tmp (t:=6) rfl _ _ _) rfl ⟨aU.o _ rfl HN.o,bI.o⟩
end Go.Proofs.YtapodndfpecglaaGreatDoor
