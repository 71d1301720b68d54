import Derived.Test.YteciokcdpadmpaaGreatDoorS30
import Derived.Test.YteciokcdpadmpaaGreatDoorS32
set_option linter.all false
set_option maxRecDepth 100000
set_option maxHeartbeats 0
open Go.Proofs.Tryz
namespace Go.Proofs.YteciokcdpadmpaaGreatDoor
open Go.RowKit Go.Maps
theorem aeN{w:World}{a:Addr}{cap:Nat}{C:List Int}(hcap:C.length<=cap)(h:∀j (hj:j<C.length),w.cell? (a.add j)=some (.int .i64 C[j]))(i:Nat)(hi:i<=C.length):IS w (.slice (some a) (C.take i).length cap) (C.take i):=by
 refine Or.inr ⟨a,cap,rfl,by rw[List.length_take];omega,fun j hj=>?_⟩;rw[List.length_take]at hj;rw[List.getElem_take];exact h j (by omega)
theorem aeO(v v' vc:Value)(N:List Nd)(L:List Re)(C:List Int)(w:World)(h:NdS w v N)(h':ReS w v' L)(hc:IS w vc C)(hN:N.length<=1048576)(hL:L.length<=1048576)(hC:C.length<=1048576)(hS:∀y∈N,y.n.size<2 ^ 60/\y.r.size<2 ^ 60)(hV:∀x∈L,x.nm.size<2 ^ 60/\x.ve.size<2 ^ 60)(hLN:∀x∈L,x.nd.length<=1048576)(hSS:∀x∈L,∀y∈x.nd,y.n.size<2 ^ 60/\y.r.size<2 ^ 60) :
  Calls prog 10 #[v,v',vc] w fun e w'=>(∃b:Bool,e=.returned (.bool b)/\(b=true↔iO N L C))/\w.grownBy w' none:=by
 have CK:=ae (UU v' L w h' hL hV hLN hSS);have Va:=ae (fun w' (hg:w.grownBy w' none)=>TV v N w' (h.grow hg) hN hS);obtain⟨o,c,rfl⟩:=BZ h';obtain⟨oc,cc,rfl⟩:=Ja hc;have CM:Hd ((dV L L.length).1=0->dB N=0->(∀z∈C,0<=z/\z<(L.length:Int))->∀w',w.grownBy w' none->Calls prog 21 #[v,.slice o L.length c,.slice oc C.length cc] w' fun e w''=>e=.returned (.bool (kZ N L C))/\w'.grownBy w'' none):=fun h1 h2 hin w' hg=>Ut v o oc c cc N L C w' (h.grow hg) (h'.grow hg) (hc.grow hg) hN hL hC hin (fun y hy=>by
  have:=Gy h2 y hy;unfold iF at this;rw[Bool.and_eq_true]at this;exact this.2) (fun y hy=>(hS y hy).2) (fun x hx=>(hV x hx).2)
 have CR:=ae (fun(h1:(dV L L.length).1=0) (hin:(∀z∈C,0<=z/\z<(L.length:Int))) x (hx:x∈L) sv w' (hg:w.grownBy w' none) (hs:NdS w' sv x.nd)=>Ut sv o oc c cc x.nd L C w' hs (h'.grow hg) (hc.grow hg) (hLN x hx) hL hC hin ((AA L h1).2 x hx).2.2 (fun y hy=>(hSS x hx y hy).2) (fun x hx=>(hV x hx).2));have CC:Hd ((∀z∈C,0<=z/\z<(L.length:Int))->∀i,i<C.length->∀n w',w.grownBy w' none->Calls prog 22 #[.slice o L.length c,.slice oc i cc,.string n] w' fun e w''=>e=.returned (.int .i64 (iQ L (C.take i) n))/\w'.grownBy w'' none):=fun hin i hi n w' hg=>by
  obtain⟨a,ho,hcp,hat⟩:=uj (hc.grow hg) hi;subst ho;have hl:(C.take i).length=i:=by rw[List.length_take];omega
  have h1:=aeN hcp hat i (by omega);have:=Ur o (some a) c cc L (C.take i) n w' (h'.grow hg) h1 hL (by omega) (fun z hz=>hin z (List.mem_of_mem_take hz));rw[hl]at this;exact this
 have CT:=ae (fun(hin:(∀z∈C,0<=z/\z<(L.length:Int))) w' (hg:w.grownBy w' none)=>aeu v o oc c cc N L C w' (h.grow hg) (h'.grow hg) (hc.grow hg) hN hL hC hin hLN);have kH:=ae (fun w' (hg:w.grownBy w' none) i (hi:i<L.length)=>rG (h'.grow hg) hi);have DY:=ae (fun w' (hg:w.grownBy w' none) i (hi:i<C.length)=>uj (hc.grow hg) hi);have HIS:=ae (Jc L C);have G8:Hd (∀i (hi:i<C.length),¬(0<=C[i]/\C[i]<(L.length:Int))->¬iO N L C):=fun i hi hn hg=>hn (aeq hg _ (List.getElem_mem hi))
 have HIA:Hd (kX L C C.length=true->∀z∈C,0<=z/\z<(L.length:Int)):=fun hr z hz=>by
  unfold kX at hr;rw[List.take_length,List.all_eq_true]at hr;exact of_decide_eq_true (hr z hz)
 have tC:Hd (¬((dV L L.length).1=0/\dB N=0)->¬iO N L C):=fun hn hg=>hn (by
  have:=hg.f;unfold fU at this;split at this
  ·rename_i h1;exact⟨h1,this⟩
  ·exact absurd this (by decide))
 have MH:=ae (fun(h1:(dV L L.length).1=0) (h2:dB N=0) (hin:(∀z∈C,0<=z/\z<(L.length:Int)))=>aep (by unfold fU;rw[if_pos h1];exact h2) hin);have dA:Hd (∀i,ok2 N L C (i+1)=(ok2 N L C i && kZ (wS L C i) L C && decide (iQ L (C.take i) (nC L C i)<0))):=fun i=>rfl
 have ut:Hd (ok2 N L C 0=kZ N L C):=rfl;have GU:Hd (∀i (hi:i<C.length) (k:Nat) (hk:k<L.length),C[i]=(k:Int)->nC L C i=L[k].nm/\wS L C i=L[k].nd):=fun i hi k hk he=>by
  have e1:(C[i]).toNat=k:=by omega
  exact⟨by rw[wR L C i hi,e1,qp L k hk],by rw[AL L C i hi,e1,AC L k hk]⟩
 have GV:Hd ((wD N L C (C.length+1)).length=C.length):=yN _;obtain⟨on,nn,cn,rfl⟩:∃o n c,v=.slice o n c:=by
  rcases h with⟨rfl,-⟩|⟨_,_,rfl,-⟩<;>exact⟨_,_,_,rfl⟩
 obtain⟨E,hE⟩:=zN ((dV L L.length).1);obtain⟨K,hK⟩:∃K:Int,((dV L L.length).2:Int)=K:=⟨_,rfl⟩;obtain⟨F,qE⟩:=zN (dB N);rw[hE,hK]at CK;rw[hE]at CM CR tC MH;rw[qE]at Va CM tC MH;clear h h' hc hS hV hLN hSS hE hK qE;have hno:∀e,e=Ending.returned (.bool false)->¬iO N L C->∃b:Bool,e=.returned (.bool b)/\(b=true↔iO N L C):=fun e he hn=>⟨false,he,⟨fun h=>(by cases h),fun h=>absurd h hn⟩⟩
 have aU:=ae hno;clear hno;go_enter func10,ntmps10;go_wp2_with (go_at_call 8;refine CK.o.mono ?_);rintro e w1 ⟨rfl,hg1⟩;have bJ:=ae hg1;clear hg1
 by_cases hz:E=0
 ·subst hz;go_wp2_with (go_at_call 19;refine(Va.o _ bJ.o).mono ?_);rintro e w2 ⟨rfl,hg2⟩;have HG2:=ae (ag bJ.o hg2);clear hg2
  by_cases hf:F=0
  ·subst hf;go_wp2;go_loopw [9] (fun vi wr=>∃i:Nat,vi=.int .i64 i/\i<=C.length/\kX L C i=true/\w.grownBy wr none) (fun vi _=>C.length-(intOf vi).toNat)
   case atStart=>exact⟨0,rfl,Nat.zero_le _,rfl,HG2.o⟩
   case round =>
    obtain⟨i,rfl,hi,hr,hg⟩:=hrel;have HR:=ae hr;have HG:=ae hg;obtain⟨wo,hwo⟩:∃wo,wo=wr:=⟨_,rfl⟩;subst hwo
    by_cases hlt:i<C.length
    ·obtain⟨a1,ho1,hcp1,lJ⟩:=DY.o wo hg i hlt;have f0:=lJ i hlt;have his:=HIS.o i hlt;have hgo:=G8.o i hlt;obtain⟨z,hzz⟩:=zN (C[i]);rw[hzz]at f0 his hgo;have aeP:=ae his;have Vb:=ae hgo;have hic:i<cc:=by omega
     subst ho1;clear hr hg lJ hcp1 hzz his hgo
     by_cases hz0:z<0
     ·have HN:=ae (Vb.o (by omega));go_wp2;refine bodyPost_ret (results_tmp (t:=6) rfl _ _ _) rfl ⟨⟨false,rfl,⟨fun h=>(by cases h),fun h=>absurd h HN.o⟩⟩,HG.o⟩
     ·by_cases hz1:z ≥ (L.length:Int)
      ·have HN:=ae (Vb.o (by omega));go_wp2;refine bodyPost_ret (results_tmp (t:=6) rfl _ _ _) rfl ⟨?_,HG.o⟩
       first|exact⟨false,rfl,⟨fun h=>(by cases h),fun h=>absurd h HN.o⟩⟩|exact Or.inl ⟨rfl,HN.o⟩
      ·have Cb:Hd (kX L C (i+1)=true):=by
        show _=_;rw[aeP.o,HR.o,decide_eq_true (by omega)];rfl
       go_wp2;go_roundw
       case rel=>exact⟨i+1,by go_num,by omega,Cb.o,HG.o⟩
       case measure=>simp[intOf];omega
    ·have hil:i=C.length:=by omega
     have hin:=HIA.o (by rw[hil]at hr;exact hr);have kW:=ae hin;have C1:Hd (Calls prog 21 #[.slice on nn cn,.slice o L.length c,.slice oc C.length cc] wo fun e w''=>e=.returned (.bool (ok2 N L C 0))/\wo.grownBy w'' none):=by
      rw[ut.o];exact CM.o (by trivial) (by trivial) hin wo hg
     have Vd:=ae (MH.o (by trivial) (by trivial) hin);clear hr hg hil hi hin;go_wp2_with (go_at_call 21;refine C1.o.mono ?_);rintro e w3 ⟨rfl,hg3⟩;have dJ:=ae (ag HG.o hg3);clear hg3;go_wp2;go_loopw [10,11] (fun vo vi wr=>∃i:Nat,vi=.int .i64 i/\vo=.bool (ok2 N L C i)/\i<=C.length/\w.grownBy wr none) (fun _ vi _=>C.length-(intOf vi).toNat)
     case atStart=>exact⟨0,rfl,rfl,Nat.zero_le _,dJ.o⟩
     case round =>
      obtain⟨i,rfl,rfl,hi,hg⟩:=hrel;have AP:=ae hg;obtain⟨wp,hwp⟩:∃wp,wp=wr:=⟨_,rfl⟩;subst hwp
      by_cases hlt:i<C.length
      ·obtain⟨k,hk,jH⟩:∃k:Nat,C[i]=(k:Int)/\k<L.length:=by
        have:=kW.o _ (List.getElem_mem hlt);exact⟨(C[i]).toNat,by omega,by omega⟩
       obtain⟨a1,ho1,hcp1,lJ⟩:=DY.o wp hg i hlt;have f0:=lJ i hlt;obtain⟨a2,ho2,hcp2,kC⟩:=kH.o wp hg k jH;obtain⟨e0,e1,⟨sv,e2,e2'⟩,e3⟩:=kC k jH;obtain⟨hn1,hn2⟩:=GU.o i hlt k jH hk;have hmem:=List.getElem_mem jH;have ho:=dA.o i;rw[hk]at f0;obtain⟨x,hx⟩:=zN (L[k]);rw[hx]at e0 e1 e2' e3 hn1 hn2 hmem;rw[hn1,hn2]at ho;have dF:=ae ho;obtain⟨so,sn,sc,rfl⟩:∃o n c,sv=.slice o n c:=by
        rcases e2' with⟨rfl,-⟩|⟨_,_,rfl,-⟩<;>exact⟨_,_,_,rfl⟩
       obtain⟨X0,hX0⟩:=zN wp.heap.size;obtain⟨W4,gp⟩:=zN (wp.alloc (.cells #[.string x.nm,.string x.ve,.slice so sn sc,.string x.da] 41));have g4:wp.grownBy W4 none:=by rw[<-gp];exact aj (ak wp none) _
       have pJ:Hd (W4.heap[X0]?=some (.cells #[.string x.nm,.string x.ve,.slice so sn sc,.string x.da] 41 (0,0))):=by rw[<-gp,<-hX0];exact heap_alloc_new wp _
       obtain⟨x0,x1,x2,x3⟩:=Gt pJ.o;have gB:=ae (ag AP.o g4);have C2:=ae (CR.o (by trivial) kW.o x hmem _ W4 gB.o (e2'.grow g4));have C3:=ae (CC.o kW.o i hlt x.nm);obtain⟨p,hp⟩:=zN (ok2 N L C i);obtain⟨m,hm⟩:=zN (kZ x.nd L C);obtain⟨z,hzz⟩:=zN (iQ L (C.take i) x.nm);rw[hp,hm,hzz]at dF;rw[hm]at C2;rw[hzz]at C3;rw[hp];have hic:i<cc:=by omega
       have hkc:k<c:=by omega
       have hiC:=hi
       cases ho1
       cases ho2
       clear hg lJ kC hk hn1 hn2 hmem ho hx e2' g4 hp hm hzz hcp1 hcp2;go_wp2_with (go_at_call 21;refine C2.o.mono ?_);rintro e w5 ⟨rfl,hg5⟩;have hx5:=(Gt ((hg5.block X0 (aB pJ.o) (by simp)).trans pJ.o)).1;have fC:=ae (ag gB.o hg5);clear hg5 f0 e0 e1 e2 e3 x0 x1 x2 x3 gp hX0;have G6:=ag fC.o (show w5.grownBy w5.drew none from⟨rfl,rfl,rfl,Nat.le_refl _,fun _ _ _=>rfl⟩);go_upto_region 15 with fail
       go_region_with (first|(go_at_call 22;refine(C3.o _ G6).mono ?_;rintro e w6 ⟨rfl,dG⟩))
       all_goals (
        have lS:=ae (ag fC.o (ag (show w5.grownBy w5.drew none from⟨rfl,rfl,rfl,Nat.le_refl _,fun _ _ _=>rfl⟩) dG));clear dG hx5 G6
        cases p with
        | false =>
         have HN:Hd (ok2 N L C (i+1)=false):=by show _=_;rw[dF.o];rfl
         go_wp2;go_roundw
         case rel=>exact⟨i+1,by go_num,by rw[HN.o],by omega,lS.o⟩
         case measure=>simp[intOf];omega
        | true =>
         cases m with
         | false =>
          have HN:Hd (ok2 N L C (i+1)=false):=by show _=_;rw[dF.o];rfl
          go_wp2;go_roundw
          case rel=>exact⟨i+1,by go_num,by rw[HN.o],by omega,lS.o⟩
          case measure=>simp[intOf];omega
         | true =>
          have HN:Hd (ok2 N L C (i+1)=decide (z<0)):=by show _=_;rw[dF.o];rfl
          go_wp2;go_roundw
          case rel=>exact⟨i+1,by go_num,by rw[HN.o],by omega,lS.o⟩
          case measure=>simp[intOf];omega)
      ·have hil:i=C.length:=by omega
       have HP:Hd (ok2 N L C i=ok2 N L C C.length):=by show _=_;rw[hil]
       obtain⟨p,hp⟩:=zN (ok2 N L C i);rw[hp]at HP;rw[hp];have C4:=ae (CT.o kW.o wp hg);clear hg hil hi hp
       cases p with
       | false =>
        have HN:Hd (¬iO N L C):=fun Ha=>by
         have:=(Vd.o.1 Ha).1;rw[<-HP.o]at this
         cases this
        go_wp2;refine bodyPost_ret (results_tmp (t:=6) rfl _ _ _) rfl ⟨aU.o _ rfl HN.o,AP.o⟩
       | true =>
        have D6:Hd (iO N L C↔(wD N L C (C.length+1)).all id=true):=by
         show _↔_;rw[Vd.o,<-HP.o];simp
        go_wp2_with (first|(go_at_call 23;refine C4.o.mono ?_));rintro e w7 ⟨B,rfl,hbb,gK⟩;have Ve:=ae hbb;have yT:=ae (ag AP.o gK);obtain⟨b,hb⟩:=zN (wD N L C (C.length+1));have hbl:=GV.o;rw[hb]at Ve D6 hbl;clear hbb gK hb;go_wp2;go_loopw [10,16] (fun vo vi wr=>∃i:Nat,vi=.int .i64 i/\vo=.bool ((b.take i).all id)/\i<=C.length/\w7.grownBy wr none) (fun _ vi _=>C.length-(intOf vi).toNat)
        case atStart=>exact⟨0,rfl,rfl,Nat.zero_le _,ak _ _⟩
        case round =>
         obtain⟨i,rfl,rfl,hi,hg⟩:=hrel;have pq:=ae hg
         by_cases hlt:i<C.length
         ·have hib:i<b.length:=by omega
          obtain⟨c0,-⟩:=(Ve.o.grow hg).cell i hib;have HST:Hd ((b.take (i+1)).all id=((b.take i).all id && bA b i)):=by
           show _=_;rw[List.take_succ_eq_append_getElem hib,List.all_append,yL b i hib];simp
          obtain⟨p,hp⟩:=zN ((b.take i).all id);obtain⟨u,hu⟩:=zN (bA b i);rw[hp,hu]at HST;rw[hu]at c0;rw[hp];clear hg hp hu
          cases p with
          | false =>
           have HN:Hd ((b.take (i+1)).all id=false):=by show _=_;rw[HST.o];rfl
           go_wp2;go_roundw
           case rel=>exact⟨i+1,by go_num,by rw[HN.o],by omega,pq.o⟩
           case measure=>simp[intOf];omega
          | true =>
           have HN:Hd ((b.take (i+1)).all id=u):=by show _=_;rw[HST.o];simp
           go_wp2;go_roundw
           case rel=>exact⟨i+1,by go_num,by rw[HN.o],by omega,pq.o⟩
           case measure=>simp[intOf];omega
         ·have hil:i=C.length:=by omega
          have HP2:Hd ((b.take i).all id=b.all id):=by
           show _=_;rw[hil,<-hbl,List.take_length]
          obtain⟨p,hp⟩:=zN ((b.take i).all id);rw[hp]at HP2;rw[hp];clear hg hil hi hp;go_wp2;refine bodyPost_ret (results_tmp (t:=6) rfl _ _ _) rfl ⟨⟨p,rfl,?_⟩,ag yT.o pq.o⟩;rw[D6.o,HP2.o]
  ·have hb:(F != 0)=true:=by simp[hf]
   have HN:=ae (tC.o fun hh=>hf hh.2);clear hf;go_wp2;refine bodyPost_ret (results_tmp (t:=6) rfl _ _ _) rfl ⟨aU.o _ rfl HN.o,HG2.o⟩
 ·have hb:(E != 0)=true:=by simp[hz]
  have HN:=ae (tC.o fun hh=>hz hh.1);clear hz;go_wp2;refine bodyPost_ret (results_tmp (t:=6) rfl _ _ _) rfl ⟨aU.o _ rfl HN.o,bJ.o⟩
end Go.Proofs.YteciokcdpadmpaaGreatDoor
