import Derived.Test.YtnnbgjaphfhibaaGreatDoorE20
set_option linter.all false
set_option maxRecDepth 100000
set_option maxHeartbeats 0
open Go.Proofs.Tryz
namespace Go.Proofs.YtnnbgjaphfhibaaGreatDoor
open Go.RowKit Go.Maps Go.WideMaps Go.Joins
theorem aeY(d:Nat)(h:d<=8):IntKind.i64.wrap ((d:Int)+1)=(d:Int)+1:=by
 rw[IntKind.wrap_i64];omega
theorem aeZ{B R T:Nat}{s:ByteArray}{E:Int->TypeId × Value}{own:List Nat}{now:Nat}{r:Rs (Nat × List Tn)}{w w' w'':World}{e:Ending}(hb:Below B w w')(h:vI B R T s E own now r w' e w''):∃v,e=.returned v/\Hd (vI B R T s E own now r w (.returned v) w''):=by
 cases r with
 | error ec =>
  obtain⟨c,p⟩:=ec;obtain⟨v,rfl,hv⟩:=h.2.1 c p rfl;exact⟨v,rfl,fun j ns hh=>(by cases hh),fun c p hh=>(by cases hh;exact⟨v,rfl,hv⟩),hb.trans h.2.2⟩
 | ok q =>
  obtain⟨j,ns⟩:=q;obtain⟨rfl,h1,h2⟩:=h.1 j ns rfl;exact⟨_,rfl,fun j ns hh=>(by cases hh;exact⟨rfl,h1,h2⟩),fun c p hh=>(by cases hh),hb.trans h.2.2⟩
theorem ae0(F:Nat)(IH:VW F):Eb (F+1):=by
 intro B R T s E own now i up k p d ns w h htr G hR hi hs W V hu h2 hfree hk hd hsz hF;have hB:=htr.base;have hl:s.data.toList.length=s.size:=by simp
 have CN:=ae (fun k w (h1:Rd w R s k T) (h2:k<=s.size)=>mX R s k T w h1 h2 (by omega));have CD:=ae Gw;have CA:=ae (fun(kd:Int) w' (h':Tr w' B T ns own now)=>Am B T ns own now up kd k p w' h' W hu hfree (by omega) hk);have CH:Hd (∀w',Below B w w'->Rd w' R s i T->Calls prog 156 #[.pointer (some ⟨R,0,none⟩)] w' fun e w''=>(∃v,e=.returned v/\dF w'' v E 2 i)/\w'.grownBy w'' none):=fun w' hb hr=>(wM R s i T (E 2).1 (E 2).2 w' hr (G.bel hb).es.te).mono fun e w'' h=>h
 have CW:Hd (∀w,Calls prog 195 #[.iface (E 4).1 (E 4).2,.int .i64 (i:Nat)] w fun e w'=>(∃v,e=.returned v/\dF w' v E 4 i)/\w.grownBy w' none):=fun w=>tC i (E 4).1 (E 4).2 w
 have CQ:=ae (fun(hx:nx s.data.toList i=34) w' (hb:Below B w w') (hr:Rd w' R s i T)=>TL R s i T E w' hr (by have:=aY (l:=s.data.toList) (i:=i) (by rw[hx];decide);omega) (by omega) (G.bel hb).es (AO G.lo hR) (G.bel hb).tabs (by have:=G.t3;omega) (by have:=G.t4;omega));have CI:=ae (fun(hx:(nx s.data.toList i=43\/nx s.data.toList i=45\/aA (nx s.data.toList i)=true)) w' (hb:Below B w w') (hr:Rd w' R s i T)=>ab8 R s i T E w' hr (by omega) (G.bel hb).es (AO G.lo hR) (by rcases hx with h|h|h;exact Or.inr (Or.inl h);exact Or.inr (Or.inr h);exact Or.inl h));have CT:=ae (fun w' (hb:Below B w w') (hr:Rd w' R s i T)=>aas R s i T E w' hr hi (by omega) (G.bel hb).es (AO G.lo hR));have CL:Hd (nx s.data.toList i=91->¬d=8->∀w',Below B w w'->Rd w' R s i T->Tr w' B T (addN ns up ⟨1,k,[],0,[],p⟩) own now->Calls prog 199 #[.pointer (some ⟨R,0,none⟩),.int .i64 (ns.length:Nat),.int .i64 ((d+1:Nat):Int)] w' (vI B R T s E own now (lst s.data.toList F (i+1) ns.length (d+1) (addN ns up ⟨1,k,[],0,[],p⟩)) w')):=fun hx hd8 w' hb hr ht=>by
  have hlt:i<s.size:=by have:=aY (l:=s.data.toList) (i:=i) (by rw[hx];decide);omega
  have A:=Az (i:=i) (j:=i+1) (n:=s.size) (x:=⟨1,k,[],0,[],p⟩) W V hu h2 rfl (fun e=>absurd (show(1:Int)=2 from e) (by decide)) (by omega) (by omega);exact IH B R T s E own now i ns.length (d+1) _ w' hr ht (G.bel hb) hR hlt hs A.wf A.wt (by rw[bY];omega) (by rw[fF ns up _ hu,if_pos rfl]) (by omega) (by rw[bY];omega) (by omega)
 have Bg:=ae (fun w' (hb:Below B w w')=>(G.bel hb).es.ma);have Xq:=o9 s.data.toList F i up k p d ns;have HV:Hd (val s.data.toList (F+1) i up k p d ns=_):=Xq;obtain⟨S,hS⟩:=zN (val s.data.toList (F+1) i up k p d ns);rw[hS]at HV ⊢;obtain⟨SQ,D9⟩:=zN (str s.data.toList (s.data.toList.length+1) (i+1) []);obtain⟨SI,Xr⟩:=zN (jc s.data.toList i);obtain⟨SU,Xt⟩:=zN (lQ s.data.toList i);rw[D9]at CQ HV;rw[Xr]at CI HV;rw[Xt]at CT HV;have fA:w.grownBy (w.alloc (.cells #[.string ⟨k.toArray⟩,.int .i64 (p:Nat)] 213)) none:=World.grownBy_alloc w _ none;have bV:=heap_alloc_new w (.cells #[.string ⟨k.toArray⟩,.int .i64 (p:Nat)] 213);obtain⟨K,jd⟩:=zN (w.heap.size);rw[jd]at bV;obtain⟨w1,hw1⟩:=zN (w.alloc (.cells #[.string ⟨k.toArray⟩,.int .i64 (p:Nat)] 213));rw[hw1]at fA bV;have H1:=ae (h.grow fA);have C1:=ae (CN.o i w1 H1.o hi)
 obtain⟨x,hx⟩:=zN (nx s.data.toList i);rw[hx]at C1 HV CQ CI CL;have ax:=ae fA;have lZ:=ae bV;have nJ:=ae htr;clear Xq hS D9 Xr Xt fA bV hx h htr G W V h2 hfree IH;go_enter func154,ntmps154;go_wp2_with (go_at_call 104;refine C1.o.mono ?_);rintro e w2 ⟨rfl,hg2⟩;have HG2:=ae (ai ax.o hg2);have HR2:=ae (H1.o.grow hg2);have iV:=ae (jG lZ.o hg2);have HT2:=ae (nJ.o.gb HG2.o);obtain⟨-,r1,r2,-⟩:=HR2.o.cells;obtain⟨k0,k1,-⟩:=iG iV.o;clear hg2
 by_cases c34:x=34
 ·have ae1:(x == 34)=true:=by simp[c34]
  have Xu:=CQ.o c34;have NG:=ae Xu;have uw:Hd (S=match (generalizing:=false) SQ with | .error e=>.error e | .ok (t,j)=>.ok (j,addN ns up ⟨3,k,t,0,[],p⟩)):=(by show _=_;rw[HV.o,if_pos c34];try rfl);clear c34 Xu HV CI CT CL;go_upto_region 3 with fail
  go_cut [10] from 24 (fun v wx=>v=.int .i64 (ns.length:Nat)/\Tr wx B T (addN ns up ⟨3,k,[],0,[],p⟩) own now/\Rd wx R s i T/\Below B w wx)
  case first =>
   go_region_with (first|(go_at_call 196;refine(CA.o 3 _ (HT2.o.gb (lw w2))).mono ?_;rintro e w3 ⟨rfl,ht3,hf3⟩))
   all_goals (
    go_wp2_with fail;go_meet;exact⟨rfl,ht3,Rd.fr (w:=w2.drew) HR2.o hf3,(nN HG2.o hB).trans (Below.trans (nN (lw w2) (Nat.le_trans hB HG2.o.size)) hf3.bel)⟩)
  case rest =>
   obtain⟨rfl,ht3,hr3,hb3⟩:=hcut;have HT3:=ae ht3;have HB3:=ae hb3;have HR3:=ae hr3;clear ht3 hr3 hb3 r1 r2 k0 k1;go_wp2_with (first|(go_at_call 193;refine(NG.o _ HB3.o HR3.o).mono ?_));rintro e w4 ⟨p1,p2,p3⟩;have HT4:=ae (HT3.o.keepR HR3.o p3);have HB4:=ae (HB3.o.trans (kD p3 hR HT3.o.base));obtain⟨N,cc,t0,⟨cs,hN⟩,hBN,n2,n3,s2,s3⟩:=HT4.o.last;have HN:=ae hN;have hnf:w4.frozen? ⟨N,ns.length*6+2,none⟩=false:=Lib.frozen_of_heap hN _;have EI:=ae s2;have hnl:ns.length<ns.length+1:=by omega
   cases SQ with
   | error ec =>
    obtain⟨ec1,ec2⟩:=ec;obtain⟨v,rfl,hv,jj,hjj⟩:=p2 ec1 ec2 rfl;obtain⟨-,-,hrr,-⟩:=hjj.cells;have dZ:=ae hv;have az:Hd (S=.error (ec1,ec2)):=uw.o;clear p1 p2 p3 hv hN s2 s3 hjj;go_wp2;refine bodyPost_ret (results_tmp (t:=8) rfl _ _ _) rfl ?_;rw[az.o];exact⟨fun j ns hh=>(by cases hh),fun c p hh=>(by cases hh;exact⟨v,rfl,NK dZ.o HN.o⟩),xI HB4.o hBN _ _⟩
   | ok q =>
    obtain⟨tx,j⟩:=q;obtain⟨rfl,hr4⟩:=p1 tx j rfl;have HR4:=ae hr4;obtain⟨-,-,hrr,-⟩:=hr4.cells;have az:Hd (S=.ok (j,addN ns up ⟨3,k,tx,0,[],p⟩)):=uw.o;clear p1 p2 p3 hr4 hN s2 s3;go_wp2;refine bodyPost_ret (results_tmp (t:=8) rfl _ _ _) rfl ?_;rw[az.o];exact⟨fun j ns hh=>(by cases hh;exact⟨rfl,HR4.o.node HN.o,EI.o tx⟩),fun c p hh=>(by cases hh),xI HB4.o hBN _ _⟩
 ·have ae1:(x == 34)=false:=by simp[c34]
  have Jb:Hd (S=if x=43\/x=45\/aA x=true then(match (generalizing:=false) SI with | .error e=>.error e | .ok (n,j)=>.ok (j,addN ns up ⟨4,k,[],n,[],p⟩)) else if x=116\/x=102 then(match (generalizing:=false) SU with | .error e=>.error e | .ok (n,j)=>.ok (j,addN ns up ⟨5,k,[],n,[],p⟩)) else if x=91 then(if d=8 then .error (4,i) else lst s.data.toList F (i+1) ns.length (d+1) (addN ns up ⟨1,k,[],0,[],p⟩)) else .error (2,i)):=(by show _=_;rw[HV.o,if_neg c34];try rfl);clear c34 HV CQ;obtain⟨bI,Ij⟩:=zN (decide (x=43\/x=45\/aA x=true));have Bh:=ae Ij;clear Ij;go_upto_region 7 with fail
  go_cut [48] from 49 (fun v wx=>v=.bool bI/\wx=w2)
  case first =>
   by_cases a1:x=43
   ·have e1:(x == 43)=true:=by simp[a1]
    have e2:bI=true:=by rw[<-Bh.o];simp[a1]
    subst e2;clear a1;go_wp2;go_meet;exact⟨rfl,rfl⟩
   ·have e1:(x == 43)=false:=by simp[a1]
    by_cases a2:x=45
    ·have e3:(x == 45)=true:=by simp[a2]
     have e2:bI=true:=by rw[<-Bh.o];simp[a2]
     subst e2;clear a1 a2;go_wp2;go_meet;exact⟨rfl,rfl⟩
    ·have e3:(x == 45)=false:=by simp[a2]
     have uX:=ae (fun w=>CD.o x w);have e2:aA x=bI:=by rw[<-Bh.o];simp[a1,a2]
     rw[e2]at uX;clear a1 a2 e2;go_wp2_with (go_at_call 151;refine(uX.o _).mono ?_;rintro e w' ⟨rfl,rfl⟩);go_meet;exact⟨rfl,rfl⟩
  case rest =>
   obtain⟨rfl,rfl⟩:=hcut;obtain⟨w2,hw2⟩:∃w2,w2=wc:=⟨_,rfl⟩;subst hw2
   cases bI with
   | true =>
    have hI:=of_decide_eq_true Bh.o;have zq:=ae (CI.o hI);have uw:Hd (S=match (generalizing:=false) SI with | .error e=>.error e | .ok (n,j)=>.ok (j,addN ns up ⟨4,k,[],n,[],p⟩)):=(by show _=_;rw[Jb.o,if_pos hI];try rfl);clear hI CI CT CL Jb;go_upto_region 8 with fail
    go_cut [13] from 59 (fun v wx=>v=.int .i64 (ns.length:Nat)/\Tr wx B T (addN ns up ⟨4,k,[],0,[],p⟩) own now/\Rd wx R s i T/\Below B w wx)
    case first =>
     go_region_with (first|(go_at_call 196;refine(CA.o 4 _ (HT2.o.gb (lw w2))).mono ?_;rintro e w3 ⟨rfl,ht3,hf3⟩))
     all_goals (
      go_wp2_with fail;go_meet;exact⟨rfl,ht3,Rd.fr (w:=w2.drew) HR2.o hf3,(nN HG2.o hB).trans (Below.trans (nN (lw w2) (Nat.le_trans hB HG2.o.size)) hf3.bel)⟩)
    case rest =>
     obtain⟨rfl,ht3,hr3,hb3⟩:=hcut;have HT3:=ae ht3;have HB3:=ae hb3;have HR3:=ae hr3;clear ht3 hr3 hb3 r1 r2 k0 k1;go_wp2_with (first|(go_at_call 197;refine(zq.o _ HB3.o HR3.o).mono ?_));rintro e w4 ⟨p1,p2,p3⟩;have HT4:=ae (HT3.o.keepR HR3.o p3);have HB4:=ae (HB3.o.trans (kD p3 hR HT3.o.base));obtain⟨N,cc,t0,⟨cs,hN⟩,hBN,n2,n3,s2,s3⟩:=HT4.o.last;have HN:=ae hN;have hnf:w4.frozen? ⟨N,ns.length*6+3,none⟩=false:=Lib.frozen_of_heap hN _;have EI:=ae s3;have hnl:ns.length<ns.length+1:=by omega
     cases SI with
     | error ec =>
      obtain⟨ec1,ec2⟩:=ec;obtain⟨v,rfl,hv,jj,hjj⟩:=p2 ec1 ec2 rfl;obtain⟨-,-,hrr,-⟩:=hjj.cells;have dZ:=ae hv;have az:Hd (S=.error (ec1,ec2)):=uw.o;clear p1 p2 p3 hv hN s2 s3 hjj;go_wp2;refine bodyPost_ret (results_tmp (t:=8) rfl _ _ _) rfl ?_;rw[az.o];exact⟨fun j ns hh=>(by cases hh),fun c p hh=>(by cases hh;exact⟨v,rfl,NK dZ.o HN.o⟩),xI HB4.o hBN _ _⟩
     | ok q =>
      obtain⟨tx,j⟩:=q;obtain⟨rfl,hr4⟩:=p1 tx j rfl;have HR4:=ae hr4;obtain⟨-,-,hrr,-⟩:=hr4.cells;have az:Hd (S=.ok (j,addN ns up ⟨4,k,[],tx,[],p⟩)):=uw.o;clear p1 p2 p3 hr4 hN s2 s3;go_wp2;refine bodyPost_ret (results_tmp (t:=8) rfl _ _ _) rfl ?_;rw[az.o];exact⟨fun j ns hh=>(by cases hh;exact⟨rfl,HR4.o.node HN.o,EI.o tx⟩),fun c p hh=>(by cases hh),xI HB4.o hBN _ _⟩
   | false =>
    have hI:=of_decide_eq_false Bh.o;have rW:Hd (S=if x=116\/x=102 then(match (generalizing:=false) SU with | .error e=>.error e | .ok (n,j)=>.ok (j,addN ns up ⟨5,k,[],n,[],p⟩)) else if x=91 then(if d=8 then .error (4,i) else lst s.data.toList F (i+1) ns.length (d+1) (addN ns up ⟨1,k,[],0,[],p⟩)) else .error (2,i)):=(by show _=_;rw[Jb.o,if_neg hI];try rfl);clear hI Jb CI Bh;obtain⟨bU,Xv⟩:=zN (decide (x=116\/x=102));have EJ:=ae Xv;clear Xv;go_upto_region 12 with fail
    go_cut [83] from 84 (fun v wx=>v=.bool bU/\wx=w2)
    case first =>
     by_cases a1:x=116
     ·have e1:(x == 116)=true:=by simp[a1]
      have e2:bU=true:=by rw[<-EJ.o];simp[a1]
      subst e2;clear a1;go_wp2;go_meet;exact⟨rfl,rfl⟩
     ·have e1:(x == 116)=false:=by simp[a1]
      have e2:(x == 102)=bU:=by rw[<-EJ.o];by_cases h:x=102<;>simp[a1,h]
      clear a1;go_wp2;go_meet;exact⟨rfl,rfl⟩
    case rest =>
     obtain⟨rfl,rfl⟩:=hcut;obtain⟨w2,hw2⟩:∃w2,w2=wc:=⟨_,rfl⟩;subst hw2
     cases bU with
     | true =>
      have hU:=of_decide_eq_true EJ.o;have uw:Hd (S=match (generalizing:=false) SU with | .error e=>.error e | .ok (n,j)=>.ok (j,addN ns up ⟨5,k,[],n,[],p⟩)):=(by show _=_;rw[rW.o,if_pos hU];try rfl);clear hU CL rW;go_upto_region 13 with fail
      go_cut [16] from 90 (fun v wx=>v=.int .i64 (ns.length:Nat)/\Tr wx B T (addN ns up ⟨5,k,[],0,[],p⟩) own now/\Rd wx R s i T/\Below B w wx)
      case first =>
       go_region_with (first|(go_at_call 196;refine(CA.o 5 _ (HT2.o.gb (lw w2))).mono ?_;rintro e w3 ⟨rfl,ht3,hf3⟩))
       all_goals (
        go_wp2_with fail;go_meet;exact⟨rfl,ht3,Rd.fr (w:=w2.drew) HR2.o hf3,(nN HG2.o hB).trans (Below.trans (nN (lw w2) (Nat.le_trans hB HG2.o.size)) hf3.bel)⟩)
      case rest =>
       obtain⟨rfl,ht3,hr3,hb3⟩:=hcut;have HT3:=ae ht3;have HB3:=ae hb3;have HR3:=ae hr3;clear ht3 hr3 hb3 r1 r2 k0 k1;go_wp2_with (first|(go_at_call 198;refine(CT.o _ HB3.o HR3.o).mono ?_));rintro e w4 ⟨p1,p2,p3⟩;have HT4:=ae (HT3.o.keepR HR3.o p3);have HB4:=ae (HB3.o.trans (kD p3 hR HT3.o.base));obtain⟨N,cc,t0,⟨cs,hN⟩,hBN,n2,n3,s2,s3⟩:=HT4.o.last;have HN:=ae hN;have hnf:w4.frozen? ⟨N,ns.length*6+3,none⟩=false:=Lib.frozen_of_heap hN _;have EI:=ae s3;have hnl:ns.length<ns.length+1:=by omega
       cases SU with
       | error ec =>
        obtain⟨ec1,ec2⟩:=ec;obtain⟨v,rfl,hv,jj,hjj⟩:=p2 ec1 ec2 rfl;obtain⟨-,-,hrr,-⟩:=hjj.cells;have dZ:=ae hv;have az:Hd (S=.error (ec1,ec2)):=uw.o;clear p1 p2 p3 hv hN s2 s3 hjj;go_wp2;refine bodyPost_ret (results_tmp (t:=8) rfl _ _ _) rfl ?_;rw[az.o];exact⟨fun j ns hh=>(by cases hh),fun c p hh=>(by cases hh;exact⟨v,rfl,NK dZ.o HN.o⟩),xI HB4.o hBN _ _⟩
       | ok q =>
        obtain⟨tx,j⟩:=q;obtain⟨rfl,hr4⟩:=p1 tx j rfl;have HR4:=ae hr4;obtain⟨-,-,hrr,-⟩:=hr4.cells;have az:Hd (S=.ok (j,addN ns up ⟨5,k,[],tx,[],p⟩)):=uw.o;clear p1 p2 p3 hr4 hN s2 s3;go_wp2;refine bodyPost_ret (results_tmp (t:=8) rfl _ _ _) rfl ?_;rw[az.o];exact⟨fun j ns hh=>(by cases hh;exact⟨rfl,HR4.o.node HN.o,EI.o tx⟩),fun c p hh=>(by cases hh),xI HB4.o hBN _ _⟩
     | false =>
      have hU:=of_decide_eq_false EJ.o;have jg:Hd (S=if x=91 then(if d=8 then .error (4,i) else lst s.data.toList F (i+1) ns.length (d+1) (addN ns up ⟨1,k,[],0,[],p⟩)) else .error (2,i)):=(by show _=_;rw[rW.o,if_neg hU];try rfl);clear hU rW CT EJ;have HB2:=ae (nN HG2.o hB)
      by_cases c91:x=91
      ·have e91:(x == 91)=true:=by simp[c91]
       by_cases d8:d=8
       ·have e8:((d:Int) == 8)=true:=by simp[d8]
        have az:Hd (S=.error (4,i)):=by show _=_;rw[jg.o,if_pos c91,if_pos d8]
        have hma:=Bg.o w2 HB2.o;have OH:=CW.o;obtain⟨ty,hty⟩:=zN ((E 4).1);obtain⟨pv,hpv⟩:=zN ((E 4).2);rw[hty,hpv]at hma OH;have Jc:=ae OH;clear OH CW Bg hty hpv c91 d8 CL jg;go_wp2;go_region_with (first|(go_at_call 195;refine(Jc.o _).mono ?_;rintro e w5 ⟨⟨v,rfl,hv⟩,hg5⟩))
        all_goals (
         go_wp2;refine bodyPost_ret (results_tmp (t:=8) rfl _ _ _) rfl ?_;rw[az.o];exact⟨fun j ns hh=>(by cases hh),fun c p hh=>(by cases hh;exact⟨v,rfl,hv⟩),HB2.o.trans ((nN (lw w2) (Nat.le_trans hB HG2.o.size)).trans (nN hg5 (Nat.le_trans hB HG2.o.size)))⟩)
       ·have e8:((d:Int) == 8)=false:=by rw[beq_eq_false_iff_ne];omega
        have az:Hd (S=lst s.data.toList F (i+1) ns.length (d+1) (addN ns up ⟨1,k,[],0,[],p⟩)):=by show _=_;rw[jg.o,if_pos c91,if_neg d8]
        have mO:=CL.o c91 d8;obtain⟨SL,Xw⟩:=zN (lst s.data.toList F (i+1) ns.length (d+1) (addN ns up ⟨1,k,[],0,[],p⟩));rw[Xw]at az mO;have Bi:Hd (∀w',Below B w w'->Rd w' R s i T->Tr w' B T (addN ns up ⟨1,k,[],0,[],p⟩) own now->Calls prog 199 #[.pointer (some ⟨R,0,none⟩),.int .i64 (ns.length:Nat),.int .i64 ((d:Int)+1)] w' (vI B R T s E own now SL w')):=mO;clear mO CL jg c91 d8 Xw;have iy:=ae (lw w2);have Xx:=ae (HT2.o.gb iy.o);have dJ:Hd (Rd w2.drew R s i T):=HR2.o;have Ac:=ae (HB2.o.trans (nN iy.o (Nat.le_trans hB HG2.o.size)));have Ah:Hd (Calls prog 196 #[.pointer (some ⟨T,0,none⟩),.int .i64 (up:Nat),.int .i64 1,.agg #[.string ⟨k.toArray⟩,.int .i64 (p:Nat)]] w2.drew fun e w'=>e=.returned (.int .i64 (ns.length:Nat))/\Hd (Tr w' B T (addN ns up ⟨1,k,[],0,[],p⟩) own now/\Rd w' R s i T/\Below B w w')):=(CA.o 1 _ Xx.o).mono fun e w' ⟨a,b,c⟩=>⟨a,b,dJ.o.fr c,Ac.o.trans c.bel⟩
        have CL3:Hd (∀w',Hd (Tr w' B T (addN ns up ⟨1,k,[],0,[],p⟩) own now/\Rd w' R s i T/\Below B w w')->Calls prog 199 #[.pointer (some ⟨R,0,none⟩),.int .i64 (ns.length:Nat),.int .i64 (IntKind.i64.wrap ((d:Int)+1))] w' fun e w''=>∃v,e=.returned v/\Hd (vI B R T s E own now SL w (.returned v) w'')):=fun w' hh=>by
         have hwd:=aeY d hd;rw[hwd];exact(Bi.o w' hh.o.2.2 hh.o.2.1 hh.o.1).mono fun e w'' hq=>aeZ hh.o.2.2 hq
        clear CA Bi CN CD CH CW Bg iy Xx dJ Ac HT2 HR2 HG2 HB2 ax lZ nJ iV H1 C1;go_wp2;go_region_with (first|(go_at_call 196;refine Ah.o.mono ?_;rintro e w3 ⟨rfl,h3⟩)|(go_at_call 199;refine(CL3.o _ h3).mono ?_;rintro e w5 ⟨v,rfl,hv⟩))
        all_goals (
         go_wp2;refine bodyPost_ret (results_tmp (t:=8) rfl _ _ _) rfl ?_;rw[az.o];exact hv.o)
      ·have e91:(x == 91)=false:=by simp[c91]
       have az:Hd (S=.error (2,i)):=by show _=_;rw[jg.o,if_neg c91]
       clear c91 CL jg;go_wp2_with (go_at_call 156;refine(CH.o _ HB2.o HR2.o).mono ?_;rintro e w5 ⟨⟨v,rfl,hv⟩,hg5⟩);refine bodyPost_ret (results_tmp (t:=8) rfl _ _ _) rfl ?_;rw[az.o];exact⟨fun j ns hh=>(by cases hh),fun c p hh=>(by cases hh;exact⟨v,rfl,hv⟩),HB2.o.trans (nN hg5 (Nat.le_trans hB HG2.o.size))⟩
theorem ae2:Eb 0:=by
 intro B R T s E own now i up k p d ns w _ _ _ _ _ _ _ _ _ _ _ _ _ _ hF;omega
theorem OI:∀F:Nat,∀f,f<=F->Eb f
 | 0,f,h=>by
  have:f=0:=by omega
  subst this;exact ae2
 | F+1,f,h=>by
  by_cases he:f<=F
  ·exact OI F f he
  ·have:f=F+1:=by omega
   subst this;exact ae0 F (adL F fun f hf=>OI F f (by omega))
theorem ae3(f:Nat):Eb f:=OI f f (Nat.le_refl _)
open Go.RowKit Go.Maps Go.WideMaps Go.Joins
def sF(B R T:Nat)(s:ByteArray)(E:Int->TypeId × Value)(r:Rs Sd)(w:World)(e:Ending)(w':World):Prop :=
 (∀d,r=.ok d->e=.returned .nilIface/\Rd w' R s d.i T/\Tr w' B T d.ns d.own d.now)/\(∀c p,r=.error (c,p)->∃F,e=.returned (.iface 130 (.pointer (some ⟨F,0,none⟩)))/\dF w' (.iface 130 (.pointer (some ⟨F,0,none⟩))) E c p)/\Below B w w'
def OJ(own:List Nat)(now:Nat):Rs (Nat × List Tn)->Rs Sd
 | .error e=>.error e
 | .ok (j,ns)=>.ok ⟨j,ns,own,now⟩
theorem Jd(l:List UInt8)(i:Nat)(ns:List Tn)(own:List Nat)(now:Nat):rdPair l ⟨i,ns,own,now⟩ =
  match dm l i with
  | .error e=>.error e
  | .ok (k,j)=>match must l (bl l j) 61 with
   | .error e=>.error e
   | .ok j1=>match ah ns now k with
    | some _=>.error (5,i)
    | none=>OJ own now (val l (2*l.length+2) (bl l j1) now k i 0 ns):=by
 unfold rdPair
 cases dm l i with
 | error e=>rfl
 | ok q =>
  obtain⟨k,j⟩:=q;simp only[]
  cases must l (bl l j) 61 with
  | error e=>rfl
  | ok j1 =>
   simp only[]
   cases ah ns now k with
   | some q=>rfl
   | none =>
    simp only[]
    cases val l (2*l.length+2) (bl l j1) now k i 0 ns with
    | error e=>rfl
    | ok q=>rfl
theorem ae4{B R T:Nat}{s:ByteArray}{E:Int->TypeId × Value}{own:List Nat}{now:Nat}{v:Rs (Nat × List Tn)}{w w' w'':World}{e:Ending}(hb:Below B w w')(h:vI B R T s E own now v w' e w''):∃u,e=.returned u/\Hd (sF B R T s E (OJ own now v) w (.returned u) w''):=by
 cases v with
 | error ec =>
  obtain⟨c,p⟩:=ec;obtain⟨u,rfl,F,rfl,hF⟩:=h.2.1 c p rfl;exact⟨_,rfl,fun d hh=>(by cases hh),fun c p hh=>(by cases hh;exact⟨F,rfl,F,rfl,hF⟩),hb.trans h.2.2⟩
 | ok q =>
  obtain⟨j,ns⟩:=q;obtain⟨rfl,h1,h2⟩:=h.1 j ns rfl;exact⟨_,rfl,fun d hh=>(by cases hh;exact⟨rfl,h1,h2⟩),fun c p hh=>(by cases hh),hb.trans h.2.2⟩
theorem ae5(B R T:Nat)(s:ByteArray)(E:Int->TypeId × Value)(own:List Nat)(now i:Nat)(ns:List Tn)(w:World)(h:Rd w R s i T)(htr:Tr w B T ns own now)(G:Gl w B E)(hR:B<=R)(hi:i<=s.size)(hs:s.size<=100000)(J:Jt ns own now)(hsz:ns.length+own.length+(s.size-i)<=700000) :
  Calls prog 107 #[.pointer (some ⟨R,0,none⟩)] w (sF B R T s E (rdPair s.data.toList ⟨i,ns,own,now⟩) w):=by
 have hl:s.data.toList.length=s.size:=by simp
 have hB:=htr.base;have CK:=ae (VN R s i T B E w h hi (by omega) G hR hB);have CS:=ae (fun k w (h1:Rd w R s k T) (h2:k<=s.size)=>Gx R s k T w h1 h2 (by omega));have CT:Hd (∀k w',Rd w' R s k T->w.grownBy w' (some R)->k<=s.size->Calls prog 109 #[.pointer (some ⟨R,0,none⟩),.int .i64 61] w' fun e w''=>(∃v,e=.returned v/\Hd ((∀q,must s.data.toList k 61=.ok q->v=.nilIface/\Rd w'' R s q T)/\(∀c p,must s.data.toList k 61=.error (c,p)->∃F,v=.iface 130 (.pointer (some ⟨F,0,none⟩))/\dF w'' v E c p)))/\w'.grownBy w'' (some R)):=fun k w' h1 hg hk =>
  (KI R s k T 61 (E 2).1 (E 2).2 w' h1 hk (by omega) (by decide) (G.gb hg hR hB).es.te).mono fun e w'' ⟨a1,a2,a3⟩=>by
   unfold must
   by_cases hx:nx s.data.toList k=61
   ·rw[if_pos hx];exact⟨⟨_,(a1 hx).1,fun q hq=>(by cases hq;exact⟨rfl,(a1 hx).2⟩),fun c p hp=>(by cases hp)⟩,a3⟩
   ·rw[if_neg hx];obtain⟨⟨v,e1,F,rfl,hF⟩,-⟩:=a2 hx;exact⟨⟨_,e1,fun q hq=>(by cases hq),fun c p hp=>(by cases hp;exact⟨F,rfl,F,rfl,hF⟩)⟩,a3⟩
 have CF:Hd (∀(k:List UInt8) w',k.length<=1048576->w.grownBy w' (some R)->Calls prog 153 #[.pointer (some ⟨T,0,none⟩),.agg #[.string ⟨k.toArray⟩,.int .i64 (i:Nat)]] w' fun e w''=>(∃v,e=.returned v/\Hd ((ah ns now k=none->v=.nilIface)/\(∀q,ah ns now k=some q->∃F,v=.iface 130 (.pointer (some ⟨F,0,none⟩))/\dF w'' v E 5 i)))/\w'.grownBy w'' none):=fun k w' hk hg =>
  (acC B T ns own now E k i w' (htr.keepR h hg) J.kd (by have:=J.lt;omega) hk (G.gb hg hR hB).es).mono fun e w'' ⟨a1,a2,a3⟩=>by
   cases hq:ah ns now k with
   | none=>exact⟨⟨_,a1 hq,fun _=>rfl,fun q hh=>(by cases hh)⟩,a3⟩
   | some q =>
    obtain⟨v,e1,F,rfl,hF⟩:=a2 q hq;exact⟨⟨_,e1,fun hh=>(by cases hh),fun q hh=>⟨F,rfl,F,rfl,hF⟩⟩,a3⟩
 have CV:Hd (∀(k:List UInt8) j w',k.length<=1048576->j<=s.size->i<=j->ah ns now k=none->w.grownBy w' (some R)->Rd w' R s j T->Calls prog 154 #[.pointer (some ⟨R,0,none⟩),.int .i64 (now:Nat),.agg #[.string ⟨k.toArray⟩,.int .i64 (i:Nat)],.int .i64 0] w' fun e w''=>∃u,e=.returned u/\Hd (sF B R T s E (OJ own now (val s.data.toList (2*s.data.toList.length+2) j now k i 0 ns)) w (.returned u) w'')):=fun k j w' hk hj hij hq hg hr =>
  (ae3 (2*s.data.toList.length+2) B R T s E own now j now k i 0 ns w' hr (htr.keepR h hg) (G.gb hg hR hB) hR hj hs J.wf J.wt J.lt (by rw[J.kd];decide) (fun _=>hq) hk (by omega) (by omega) (by omega)).mono fun e w'' hv=>ae4 (kD hg hR hB) hv
 have jU:Hd (∀x j,dm s.data.toList i=.ok (x,j)->i<j/\j<=s.size/\x.length<=1048576):=fun x j a=>by
  have:=wU s.data.toList i x j (by omega) a;omega
 have fP:Hd (∀k,k<=s.size->k<=bl s.data.toList k/\bl s.data.toList k<=s.size):=fun k hk=>by rw[<-hl];exact jR _ k (by omega)
 have pz:Hd (∀k q,must s.data.toList k 61=.ok q->q=k+1/\k<s.size):=fun k q a=>by
  unfold must at a;split at a
  ·rename_i hx;have:=aY (l:=s.data.toList) (i:=k) (by rw[hx];decide)
   cases a
   omega
  ·cases a
 have mV:=Jd s.data.toList i ns own now;obtain⟨S,hS⟩:=zN (rdPair s.data.toList ⟨i,ns,own,now⟩);rw[hS]at mV ⊢;obtain⟨KR,kS⟩:=zN (dm s.data.toList i);rw[kS]at mV CK jU;have HP:Hd (S=_):=mV;have nJ:=ae htr;have H0:=ae h;clear mV hS kS h htr G J;go_enter func107,ntmps107;go_wp2_with (go_at_call 152;refine CK.o.mono ?_);rintro e w1 ⟨p1,p2,p3⟩
 cases KR with
 | error ec =>
  obtain⟨ec1,ec2⟩:=ec;obtain⟨ka,kb,v,rfl,F,rfl,hF⟩:=p2 ec1 ec2 rfl;have dZ:Hd (dF w1 (.iface 130 (.pointer (some ⟨F,0,none⟩))) E ec1 ec2):=⟨F,rfl,hF⟩;have az:Hd (S=.error (ec1,ec2)):=HP.o;have HBA:Hd (Below B w (w1.alloc (.cells #[.string ka,.int .i64 kb] 213))):=kD (aG p3 (World.grownBy_alloc _ _ none)) hR hB;have bi:Hd (dF (w1.alloc (.cells #[.string ka,.int .i64 kb] 213)) (.iface 130 (.pointer (some ⟨F,0,none⟩))) E ec1 ec2):=FaultV.grow dZ.o (World.grownBy_alloc _ _ none);clear p1 p2 p3 hF;go_wp2;refine bodyPost_ret (results_tmp (t:=2) rfl _ _ _) rfl ?_;rw[az.o];exact⟨fun d hh=>(by cases hh),fun c p hh=>(by cases hh;exact⟨F,rfl,bi.o⟩),HBA.o⟩
 | ok q =>
  obtain⟨k,j⟩:=q;obtain⟨rfl,hr1⟩:=p1 k j rfl;obtain⟨k1,k2,k3⟩:=jU.o k j rfl;have HP2:=HP.o
  try simp only[]at HP2
  have hgA:=aG p3 (World.grownBy_alloc w1 (.cells #[.string ⟨k.toArray⟩,.int .i64 (i:Nat)] 213) none);have Je:Rd (w1.alloc (.cells #[.string ⟨k.toArray⟩,.int .i64 (i:Nat)] 213)) R s j T:=hr1.grow (World.grownBy_alloc _ _ none);have Jf:=heap_alloc_new w1 (.cells #[.string ⟨k.toArray⟩,.int .i64 (i:Nat)] 213);obtain⟨K,hK⟩:=zN (w1.heap.size);rw[hK]at Jf;obtain⟨w2,hw2⟩:=zN (w1.alloc (.cells #[.string ⟨k.toArray⟩,.int .i64 (i:Nat)] 213));rw[hw2]at hgA Je Jf;have HG2:=ae hgA;have HR2:=ae Je;have iV:=ae Jf;have C3:=CS.o j w2 Je k2;obtain⟨b1,b2⟩:=fP.o j k2;obtain⟨j3,hj3⟩:=zN (bl s.data.toList j);rw[hj3]at C3 b1 b2 HP2;have OL:=ae C3;have vJ:=CT.o j3;have pJ:=pz.o j3;obtain⟨MU,lX⟩:=zN (must s.data.toList j3 61);rw[lX]at vJ pJ HP2;have Jg:=ae vJ;have ae6:=ae pJ;have sG:Hd (S=_):=HP2;clear p1 p2 p3 hr1 hgA Je Jf hj3 C3 vJ pJ lX HP2 HP jU
  go_wp2_with (go_at_call 103;refine OL.o.mono ?_);rintro e w3 ⟨rfl,hr3,hg3⟩;have HR3:=ae hr3;have aK:=ae (dK HG2.o hg3);have jW:=ae ((hg3.block K (aB iV.o) (by simp only[ne_eq,Option.some.injEq];exact aO iV.o HR2.o (by decide))).trans iV.o);clear hr3 hg3;go_wp2_with (go_at_call 109;refine(Jg.o _ HR3.o aK.o b2).mono ?_);rintro e w4 ⟨⟨v,rfl,hv⟩,hg4⟩;have eX:=ae (dK aK.o hg4);have nO:=ae ((hg4.block K (aB jW.o) (by simp only[ne_eq,Option.some.injEq];exact aO jW.o HR3.o (by decide))).trans jW.o);clear hg4
  cases MU with
  | error ec =>
   obtain⟨ec1,ec2⟩:=ec;obtain⟨F,rfl,hF⟩:=hv.o.2 ec1 ec2 rfl;have dZ:=ae hF;have az:Hd (S=.error (ec1,ec2)):=sG.o;clear hv hF;go_wp2;refine bodyPost_ret (results_tmp (t:=2) rfl _ _ _) rfl ?_;rw[az.o];exact⟨fun d hh=>(by cases hh),fun c p hh=>(by cases hh;exact⟨F,rfl,dZ.o⟩),kD eX.o hR hB⟩
  | ok j4 =>
   obtain⟨rfl,hr4⟩:=hv.o.1 j4 rfl;obtain⟨m1,m2⟩:=ae6.o j4 rfl;have HR4:=ae hr4;have vV:=sG.o
   try simp only[]at vV
   have Jh:Hd (S=_):=vV;have OM:=CF.o k;have OO:=CV.o k;obtain⟨KO,Xy⟩:=zN (ah ns now k);rw[Xy]at OM OO Jh;have ae7:=ae OM;have Xz:=ae OO;obtain⟨-,-,r2,-⟩:=hr4.cells;obtain⟨q0,q1,-⟩:=iG nO.o;clear hv hr4 sG vV OM OO CF CV Xy;go_upto_region 8 with fail
   go_cut [6] from 22 (fun v6 wx=>Hd ((KO=none->v6=.nilIface)/\(∀q,KO=some q->∃F,v6=.iface 130 (.pointer (some ⟨F,0,none⟩))/\dF wx v6 E 5 i))/\w4.grownBy wx none)
   case first =>
    go_region_with (first|(go_at_call 153;refine(ae7.o _ k3 (aG eX.o (lw w4))).mono ?_;rintro e w5 ⟨⟨v,rfl,hv⟩,hg5⟩))
    all_goals (
     go_wp2_with fail;go_meet;exact⟨hv,ai (lw w4) hg5⟩)
   case rest =>
    obtain⟨hv,hgc⟩:=hcut;have iK:=ae (aG eX.o hgc);have kP:=ae (HR4.o.grow hgc);have vP:=ae (jG nO.o hgc);clear hgc r2 q0 q1
    cases KO with
    | some q =>
     obtain⟨F,rfl,hF⟩:=hv.o.2 q rfl;have dZ:=ae hF;have az:Hd (S=.error (5,i)):=Jh.o;clear hv hF;go_wp2;refine bodyPost_ret (results_tmp (t:=2) rfl _ _ _) rfl ?_;rw[az.o];exact⟨fun d hh=>(by cases hh),fun c p hh=>(by cases hh;exact⟨F,rfl,dZ.o⟩),kD iK.o hR hB⟩
    | none =>
     obtain rfl:=hv.o.1 rfl;have XA:j4<=s.size:=by omega
     have C6:=CS.o j4 wc kP.o XA;obtain⟨b3,b4⟩:=fP.o j4 XA;have Bj:=Jh.o
     try simp only[]at Bj
     obtain⟨j6,XB⟩:=zN (bl s.data.toList j4);rw[XB]at C6 b3 b4 Bj;have OQ:=ae C6;have CV6:Hd (∀w',w.grownBy w' (some R)->Rd w' R s j6 T->Calls prog 154 #[.pointer (some ⟨R,0,none⟩),.int .i64 (now:Nat),.agg #[.string ⟨k.toArray⟩,.int .i64 (i:Nat)],.int .i64 0] w' fun e w''=>∃u,e=.returned u/\Hd (sF B R T s E S w (.returned u) w'')):=fun w' a b=>by rw[Bj];exact Xz.o j6 w' k3 b4 (by omega) rfl a b
     clear hv XB C6 Bj Xz Jh;go_wp2_with (go_at_call 103;refine OQ.o.mono ?_);rintro e w6 rfl hr6 eY;have mD:=ae (dK iK.o eY);have oh:=ae hr6;have hk6:=(eY.block K (aB vP.o) (by simp only[ne_eq,Option.some.injEq];exact aO vP.o kP.o (by decide))).trans vP.o;obtain⟨q0,q1,-⟩:=iG hk6;obtain⟨-,-,r2,-⟩:=hr6.cells;obtain⟨t2,-⟩:=(nJ.o.keepR H0.o mD.o).two;clear hr6 eY hk6;go_wp2;go_region_with (first|(go_at_call 154;refine(CV6.o _ (aG mD.o (lw w6)) oh.o).mono ?_;rintro e w7 ⟨u,rfl,hu⟩))
     all_goals (
      go_wp2;refine bodyPost_ret (results_tmp (t:=2) rfl _ _ _) rfl ?_;exact hu.o)
open Go.RowKit Go.Maps Go.WideMaps Go.Joins
theorem Ji(l:List UInt8):∀(f i:Nat) (acc ks:List (List UInt8 × Nat)) (j:Nat),i<=l.length->(∀x∈acc,x.1.length<=l.length)->ik l f i acc=.ok (ks,j)->(∀x∈ks,x.1.length<=l.length)/\acc.length<ks.length/\ks.length+i<=acc.length+j/\j<=l.length:=by
 intro f
 induction f with
 | zero=>intro i acc ks j hi ha h;cases h
 | succ f ih =>
  intro i acc ks j hi ha h;rw[AX]at h;have b1:=jR l i hi
  cases hk:dm l (bl l i) with
  | error e=>rw[hk]at h;cases h
  | ok q =>
   obtain⟨k,j1⟩:=q;rw[hk]at h;simp only[]at h;obtain⟨k1,k2,k3⟩:=wU l (bl l i) k j1 b1.2 hk;have b2:=jR l j1 k2;have ha':∀x∈acc++[(k,bl l i)],x.1.length<=l.length:=fun x hx=>by
    rcases List.mem_append.1 hx with hx|hx
    ·exact ha x hx
    ·rw[List.mem_singleton.1 hx];exact k3
   split at h
   ·rename_i hx;have hlt:=aY (l:=l) (i:=bl l j1) (by rw[hx];decide);obtain⟨a,b,c,d⟩:=ih (bl l j1+1) (acc++[(k,bl l i)]) ks j (by omega) ha' h;rw[List.length_append,List.length_singleton]at b c;exact⟨a,by omega,by omega,d⟩
   ·cases h
    refine⟨ha',by simp,?_,b2.2⟩;rw[List.length_append,List.length_singleton];omega
def Bl(j:Nat)(own:List Nat):Rs (Nat × List Tn)->Rs Sd
 | .error e=>.error e
 | .ok (t,ns)=>.ok ⟨j,ns,t :: own,t⟩
theorem Bo(l:List UInt8)(i:Nat)(ns:List Tn)(own:List Nat)(now:Nat)(many:Bool)(hm:decide (nx l (i+1)=91)=many):iF l ⟨i,ns,own,now⟩ =
  match ik l (l.length+1) (if many=true then i+2 else i+1) [] with
  | .error e=>.error e
  | .ok (ks,j)=>match must l j 93 with
   | .error e=>.error e
   | .ok j1=>match (if many=true then must l j1 93 else .ok j1) with
    | .error e=>.error e
    | .ok j2=>Bl j2 own (way many own ks 0 ns):=by
 unfold iF;simp only[hm]
 cases ik l (l.length+1) (if many=true then i+2 else i+1) [] with
 | error e=>rfl
 | ok q =>
  obtain⟨ks,j⟩:=q;simp only[]
  cases must l j 93 with
  | error e=>rfl
  | ok j1 =>
   simp only[]
   cases (if many=true then must l j1 93 else .ok j1) with
   | error e=>rfl
   | ok j2 =>
    simp only[]
    cases way many own ks 0 ns with
    | error e=>rfl
    | ok q=>rfl
theorem ae8{B R T:Nat}{s:ByteArray}{E:Int->TypeId × Value}{own:List Nat}{j:Nat}{v:Rs (Nat × List Tn)}{w w' w'':World}{e:Ending}(hb:Below B w w')(hr:Rd w' R s j T)(h:VL B T own E v w' e w''):∃u,e=.returned u/\Hd (sF B R T s E (Bl j own v) w (.returned u) w''):=by
 cases v with
 | error ec =>
  obtain⟨c,p⟩:=ec;obtain⟨u,rfl,F,rfl,hF⟩:=h.2.1 c p rfl;exact⟨_,rfl,fun d hh=>(by cases hh),fun c p hh=>(by cases hh;exact⟨F,rfl,F,rfl,hF⟩),hb.trans h.2.2.bel⟩
 | ok q =>
  obtain⟨t,ns⟩:=q;obtain⟨rfl,h1⟩:=h.1 t ns rfl;exact⟨_,rfl,fun d hh=>(by cases hh;exact⟨rfl,hr.fr h.2.2,h1⟩),fun c p hh=>(by cases hh),hb.trans h.2.2.bel⟩
open Go.RowKit Go.Joins
theorem EK(ns:List Tn)(up:Nat)(n:Tn)(q:Nat)(hu:up<ns.length)(hq:q<ns.length):ak (addN ns up n) q=ak ns q:=by rw[fF ns up n hu,if_neg (by omega)]
theorem ae9{ns ns':List Tn}{own:List Nat}{t t' p:Nat}{k:List UInt8}(J:Jt ns own t)(h:gz ns t k p=.ok (t',ns'))(q:Nat)(hq:q<ns.length):ak ns' q=ak ns q:=by
 unfold gz at h
 cases hk:ah ns t k with
 | none =>
  rw[hk]at h
  cases h
  exact EK ns t _ q J.lt hq
 | some x =>
  rw[hk]at h;simp only[]at h;split at h
  ·cases h;rfl
  ·split at h
   ·cases hx:ns[x]? with
    | none=>rw[hx]at h;cases h
    | some u=>rw[hx]at h;cases h;rfl
   ·cases h
theorem afa{ns ns':List Tn}{own:List Nat}{t t' p:Nat}{k:List UInt8}(J:Jt ns own t)(h:gV ns own t k p=.ok (t',ns'))(q:Nat)(hq:q<ns.length):ak ns' q=ak ns q:=by
 unfold gV at h
 cases hk:ah ns t k with
 | none =>
  rw[hk]at h
  cases h
  exact EK ns t _ q J.lt hq
 | some x =>
  rw[hk]at h;simp only[]at h;split at h
  ·cases h;rfl
  ·cases h
theorem afb{ns ns':List Tn}{own:List Nat}{t t' p:Nat}{k:List UInt8}(J:Jt ns own t)(h:fO ns t k p=.ok (t',ns'))(q:Nat)(hq:q<ns.length):ak ns' q=ak ns q:=by
 unfold fO at h
 cases hk:ah ns t k with
 | none =>
  rw[hk]at h
  cases h
  rw[EK _ _ _ q (by rw[bY];omega) (by rw[bY];omega),EK _ _ _ q J.lt hq]
 | some x =>
  rw[hk]at h;simp only[]at h;split at h
  ·rename_i h2
   cases h
   exact EK ns x _ q (nZ h2 (by omega)) hq
  ·cases h
theorem XC(many:Bool)(own:List Nat):∀(l:List (List UInt8 × Nat)) (t:Nat) (ns ns':List Tn) (t':Nat),Jt ns own t->way many own l t ns=.ok (t',ns')->∀q,q<ns.length->ak ns' q=ak ns q
 | [],t,ns,ns',t',J,h,q,hq=>by cases h;rfl
 | [(k,p)],t,ns,ns',t',J,h,q,hq=>by
  rw[Aa]at h;split at h
  ·exact afb J h q hq
  ·exact afa J h q hq
 | (k,p) :: b :: r,t,ns,ns',t',J,h,q,hq=>by
  rw[Dj]at h
  cases hs:gz ns t k p with
  | error e=>rw[hs]at h;cases h
  | ok z =>
   obtain⟨t1,ns1⟩:=z;rw[hs]at h;obtain⟨a,b',c⟩:=Di J hs;exact(XC many own (b :: r) t1 ns1 ns' t' a h q (by omega)).trans (ae9 J hs q hq)
structure Li(l:List UInt8)(d:Sd):Prop where
 jt:Jt d.ns d.own d.now
 rt:ak d.ns 0=0
 le:d.i<=l.length
 nn:d.ns.length<=2*d.i+1
 on:d.own.length<=d.i
theorem xY(l:List UInt8)(k q:Nat)(c:Int)(hc:0<=c)(h:must l k c=.ok q):q=k+1/\k<l.length:=by
 unfold must at h;split at h
 ·rename_i hx;have:=aY (l:=l) (i:=k) (by omega)
  cases h
  omega
 ·cases h
theorem OT(l:List UInt8)(d d':Sd)(L:Li l d)(h:rdPair l d=.ok d'):Li l d'/\d.i<d'.i:=by
 obtain⟨i,ns,own,now⟩:=d;have L1:=L.jt;have L2:=L.rt;have L3:=L.le;have L4:=L.nn;have L5:=L.on;simp only[]at L1 L2 L3 L4 L5;rw[Jd]at h
 cases hk:dm l i with
 | error e=>rw[hk]at h;cases h
 | ok q =>
  obtain⟨k,j⟩:=q;rw[hk]at h;simp only[]at h;obtain⟨k1,k2,k3⟩:=wU l i k j L3 hk;have b1:=jR l j k2
  cases hm:must l (bl l j) 61 with
  | error e=>rw[hm]at h;cases h
  | ok j1 =>
   rw[hm]at h;simp only[]at h;obtain⟨m1,m2⟩:=xY l _ _ 61 (by decide) hm;have b2:=jR l j1 (by omega)
   cases hq:ah ns now k with
   | some q=>rw[hq]at h;cases h
   | none =>
    rw[hq]at h;simp only[]at h
    cases hv:val l (2*l.length+2) (bl l j1) now k i 0 ns with
    | error e=>rw[hv]at h;cases h
    | ok z =>
     obtain⟨j2,ns'⟩:=z;rw[hv]at h;have A:=(Ic l own _).1 (bl l j1) now k i 0 ns j2 ns' b2.2 L1.wf L1.wt L1.lt (by rw[L1.kd];decide) hv;have a1:=A.lo;have a2:=A.hi;have a3:=A.fw;have a4:=A.en;have hlt:=L1.lt
     cases h
     exact⟨⟨⟨A.wf,A.wt,by simp only[];omega,(A.kd now L1.lt).trans L1.kd⟩,(A.kd 0 (by omega)).trans L2,a4,by simp only[];omega,by simp only[];omega⟩,by simp only[];omega⟩
theorem OU(l:List UInt8)(d d':Sd)(L:Li l d)(hi:d.i<l.length)(h:iF l d=.ok d'):Li l d'/\d.i<d'.i:=by
 obtain⟨i,ns,own,now⟩:=d;have L1:=L.jt;have L2:=L.rt;have L3:=L.le;have L4:=L.nn;have L5:=L.on;simp only[]at L1 L2 L3 L4 L5 hi;obtain⟨many,uy⟩:=zN (decide (nx l (i+1)=91));rw[Bo l i ns own now many uy]at h;have ha:i+1<=(if many=true then i+2 else i+1)/\(if many=true then i+2 else i+1)<=l.length:=by
  cases many with
  | false=>simp;omega
  | true =>
   have hx:=of_decide_eq_true uy;have:=aY (l:=l) (i:=i+1) (by rw[hx];decide);simp;omega
 generalize (if many=true then i+2 else i+1)=a at h ha
 cases hk:ik l (l.length+1) a [] with
 | error e=>rw[hk]at h;cases h
 | ok q =>
  obtain⟨ks,j⟩:=q;rw[hk]at h;simp only[]at h;obtain⟨k1,k2,k3,k4⟩:=Ji l _ a [] ks j ha.2 (by simp) hk;simp at k2 k3
  cases hm:must l j 93 with
  | error e=>rw[hm]at h;cases h
  | ok j1 =>
   rw[hm]at h;simp only[]at h;obtain⟨m1,m2⟩:=xY l _ _ 93 (by decide) hm;have hj2:∀j2,(if many=true then must l j1 93 else(.ok j1:Rs Nat))=.ok j2->j1<=j2/\j2<=l.length:=fun j2 hh=>by
    split at hh
    ·obtain⟨n1,n2⟩:=xY l _ _ 93 (by decide) hh;omega
    ·cases hh
     omega
   cases hc:(if many=true then must l j1 93 else(.ok j1:Rs Nat)) with
   | error e=>rw[hc]at h;cases h
   | ok j2 =>
    rw[hc]at h;simp only[]at h;obtain⟨c1,c2⟩:=hj2 j2 hc
    cases hw:way many own ks 0 ns with
    | error e=>rw[hw]at h;cases h
    | ok z =>
     obtain⟨t,ns'⟩:=z;rw[hw]at h;have hlt:=L1.lt;have J0:Jt ns own 0:=⟨L1.wf,L1.wt,by omega,L2⟩;obtain⟨w1,w2,w3⟩:=TE many own ks 0 ns ns' t (by intro e;rw[e]at k2;simp at k2) J0 hw;have w4:=XC many own ks 0 ns ns' t J0 hw 0 (by omega)
     cases h
     exact⟨⟨w1,w4.trans L2,c2,by simp only[];omega,by simp only[List.length_cons];omega⟩,by simp only[];omega⟩
open Go.RowKit Go.Maps Go.WideMaps Go.Joins
theorem KyR.keepR{w w':World}{g R:Nat}{l:List (List UInt8 × Nat)}{s:ByteArray}{i T:Nat}(h:KyR w g l)(hr:Rd w R s i T)(hg:w.grownBy w' (some R)):KyR w' g l:=by
 obtain⟨cur,h1,h2⟩:=h;exact⟨cur,(hg.block g (aB h1) (by simp only[ne_eq,Option.some.injEq];exact aO h1 hr (by decide))).trans h1,h2⟩
theorem afc(B R T:Nat)(s:ByteArray)(E:Int->TypeId × Value)(own:List Nat)(now i:Nat)(ns:List Tn)(w:World)(h:Rd w R s i T)(htr:Tr w B T ns own now)(G:Gl w B E)(hR:B<=R)(hi:i<s.size)(hs:s.size<=100000)(J:Jt ns own now)(h0:ak ns 0=0)(hsz:ns.length+own.length+(s.size-i)<=700000) :
  Calls prog 105 #[.pointer (some ⟨R,0,none⟩)] w (sF B R T s E (iF s.data.toList ⟨i,ns,own,now⟩) w):=by
 have hl:s.data.toList.length=s.size:=by simp
 have hB:=htr.base;have CN:=ae (fun k w (h1:Rd w R s k T) (h2:k<=s.size)=>mX R s k T w h1 h2 (by omega));have CK:=ae (fun a w' (h1:Rd w' R s a T) (hg:w.grownBy w' (some R)) (ha:a<=s.size)=>adV R s a T B E w' h1 ha hs (G.gb hg hR hB) hR (Nat.le_trans hB hg.size));have CT:Hd (∀k w',Rd w' R s k T->w.grownBy w' (some R)->k<=s.size->Calls prog 109 #[.pointer (some ⟨R,0,none⟩),.int .i64 93] w' fun e w''=>(∃v,e=.returned v/\Hd ((∀q,must s.data.toList k 93=.ok q->v=.nilIface/\Rd w'' R s q T)/\(∀c p,must s.data.toList k 93=.error (c,p)->∃F,v=.iface 130 (.pointer (some ⟨F,0,none⟩))/\dF w'' v E c p)))/\w'.grownBy w'' (some R)):=fun k w' h1 hg hk =>
  (KI R s k T 93 (E 2).1 (E 2).2 w' h1 hk (by omega) (by decide) (G.gb hg hR hB).es.te).mono fun e w'' ⟨a1,a2,a3⟩=>by
   unfold must
   by_cases hx:nx s.data.toList k=93
   ·rw[if_pos hx];exact⟨⟨_,(a1 hx).1,fun q hq=>(by cases hq;exact⟨rfl,(a1 hx).2⟩),fun c p hp=>(by cases hp)⟩,a3⟩
   ·rw[if_neg hx];obtain⟨⟨v,e1,F,rfl,hF⟩,-⟩:=a2 hx;exact⟨⟨_,e1,fun q hq=>(by cases hq),fun c p hp=>(by cases hp;exact⟨F,rfl,F,rfl,hF⟩)⟩,a3⟩
 have CE:Hd (∀(many:Bool) ks d g c j w',ks.length=d+1->d+1<=c->d<=s.size-i->(∀x∈ks,x.1.length<=1048576)->KyR w' g ks->Rd w' R s j T->w.grownBy w' (some R)->Calls prog 149 #[.pointer (some ⟨T,0,none⟩),.slice (some ⟨g,0,none⟩) ks.length c,.bool many] w' fun e w''=>∃u,e=.returned u/\Hd (sF B R T s E (Bl j own (way many own ks 0 ns)) w (.returned u) w'')):=fun many ks d g c j w' a1 a2 a3 a4 a5 a6 hg=>by
  rw[a1];exact(adD B T ns own now E ks many g c d w' (htr.keepR h hg) ⟨J.wf,J.wt,by have:=J.lt;omega,h0⟩ a1 a2 a5 (by omega) a4 (G.gb hg hR hB).es G.lo).mono fun e w'' hv=>ae8 (kD hg hR hB) a6 hv
 have jU:Hd (∀a ks j,a<=s.size->ik s.data.toList (s.data.toList.length+1) a []=.ok (ks,j)->(∀x∈ks,x.1.length<=1048576)/\0<ks.length/\ks.length+a<=j/\j<=s.size):=fun a ks j ha hh=>by
  obtain⟨b1,b2,b3,b4⟩:=Ji s.data.toList _ a [] ks j (by omega) (by simp) hh;refine⟨fun x hx=>by have:=b1 x hx;omega,by simpa using b2,by simpa using b3,by omega⟩
 have pz:Hd (∀k q,must s.data.toList k 93=.ok q->q=k+1/\k<s.size):=fun k q a=>by
  unfold must at a;split at a
  ·rename_i hx;have:=aY (l:=s.data.toList) (i:=k) (by rw[hx];decide)
   cases a
   omega
  ·cases a
 have GU:Hd (nx s.data.toList (i+1)=91->i+1<s.size):=fun hx=>by
  have:=aY (l:=s.data.toList) (i:=i+1) (by rw[hx];decide);omega
 obtain⟨many,uy⟩:=zN (decide (nx s.data.toList (i+1)=91));have mV:=Bo s.data.toList i ns own now many uy;obtain⟨S,hS⟩:=zN (iF s.data.toList ⟨i,ns,own,now⟩);rw[hS]at mV ⊢;have HP:Hd (S=_):=mV;obtain⟨-,r1,-,rf⟩:=h.cells;have rf1:=rf 1;have HR1:Hd (Rd (w.setCell ⟨R,1,none⟩ (.int .i64 ((i:Int)+1))) R s (i+1) T):=h.set (i+1);have ax:Hd (w.grownBy (w.setCell ⟨R,1,none⟩ (.int .i64 ((i:Int)+1))) (some R)):=iL w R 1 _;have C1:=ae (CN.o (i+1) _ HR1.o (by omega));obtain⟨x,hx⟩:=zN (nx s.data.toList (i+1));rw[hx]at C1 uy GU;have Bg:=ae uy;clear mV hS hx uy h htr G J rf;go_enter func105,ntmps105;go_wp2_with (go_at_call 104;refine C1.o.mono ?_);rintro e w1 ⟨rfl,hg1⟩;have OW:=ae (HR1.o.grow hg1);have AQ:=ae (aG ax.o hg1);clear hg1 r1 rf1
 cases many with
 | false =>
  have c91:=of_decide_eq_false Bg.o;have e91:(x == 91)=false:=by simp[c91]
  clear c91;have EL:=ae (fun w' (a:Rd w' R s (i+1) T) (b:w.grownBy w' (some R))=>CK.o (i+1) w' a b (by omega));have zt:=jU.o (i+1);have mP:=HP.o;simp only[Bool.false_eq_true,if_false]at mP;obtain⟨KR,kS⟩:=zN (ik s.data.toList (s.data.toList.length+1) (i+1) []);rw[kS]at EL zt mP;have EM:=ae zt;have zu:Hd (S=_):=mP;clear zt mP kS HP CK jU;go_wp2_with (go_at_call 148;refine(EL.o _ OW.o AQ.o).mono ?_);rintro e w2 ⟨p1,p2,p3⟩;have HG2:=ae (dK AQ.o p3)
  cases KR with
  | error ec =>
   obtain⟨ec1,ec2⟩:=ec;obtain⟨F,rfl,hF⟩:=p2 ec1 ec2 rfl;have dZ:=ae hF;have az:Hd (S=.error (ec1,ec2)):=zu.o;clear p1 p2 p3 hF;go_wp2;refine bodyPost_ret (results_tmp (t:=2) rfl _ _ _) rfl ?_;rw[az.o];exact⟨fun d hh=>(by cases hh),fun c p hh=>(by cases hh;exact⟨F,rfl,dZ.o⟩),kD HG2.o hR hB⟩
  | ok q =>
   obtain⟨ks,j⟩:=q;obtain⟨g,c,rfl,hky,hkc,hr2⟩:=p1 ks j rfl;obtain⟨k1,k2,k3,k4⟩:=EM.o ks j (by omega) rfl;have iV:=ae hky;have HR2:=ae hr2;have AL:=ae k1;have HP2:=zu.o
   try simp only[]at HP2
   have rX:=CT.o j;have mM:=pz.o j;obtain⟨MU,lX⟩:=zN (must s.data.toList j 93);rw[lX]at rX mM HP2;have EN:=ae rX;have EO:=ae mM;have sG:Hd (S=_):=HP2;clear p1 p2 p3 hky hr2 k1 rX mM HP2 lX zu EM;go_wp2_with (go_at_call 109;refine(EN.o _ HR2.o HG2.o k4).mono ?_);rintro e w3 ⟨⟨v,rfl,hv⟩,hg3⟩;have aK:=ae (dK HG2.o hg3);have jW:=ae (iV.o.keepR HR2.o hg3);clear hg3
   cases MU with
   | error ec =>
    obtain⟨ec1,ec2⟩:=ec;obtain⟨F,rfl,hF⟩:=hv.o.2 ec1 ec2 rfl;have dZ:=ae hF;have az:Hd (S=.error (ec1,ec2)):=sG.o;clear hv hF;go_wp2;refine bodyPost_ret (results_tmp (t:=2) rfl _ _ _) rfl ?_;rw[az.o];exact⟨fun d hh=>(by cases hh),fun c p hh=>(by cases hh;exact⟨F,rfl,dZ.o⟩),kD aK.o hR hB⟩
   | ok j1 =>
    obtain⟨rfl,hr3⟩:=hv.o.1 j1 rfl;obtain⟨m1,m2⟩:=EO.o j1 rfl;have HR3:=ae hr3;have uz:=sG.o
    try simp only[]at uz
    clear hv hr3 sG EO EN;have vV:=uz;clear uz;obtain⟨d,hd⟩:∃d,ks.length=d+1:=⟨ks.length-1,by omega⟩;have tJ:Hd (Calls prog 149 #[.pointer (some ⟨T,0,none⟩),.slice (some ⟨g,0,none⟩) ks.length c,.bool false] w3 fun e w''=>∃u,e=.returned u/\Hd (sF B R T s E S w (.returned u) w'')):=by
     rw[vV];exact CE.o false ks d g c j1 w3 hd (by omega) (by omega) AL.o jW.o HR3.o aK.o
    obtain⟨-,-,rr,-⟩:=HR3.o.cells;clear vV CE hd;go_wp2_with (go_at_call 149;refine tJ.o.mono ?_;rintro e w9 ⟨u,rfl,hu⟩);refine bodyPost_ret (results_tmp (t:=2) rfl _ _ _) rfl ?_;exact hu.o
 | true =>
  have c91:=of_decide_eq_true Bg.o;have e91:(x == 91)=true:=by simp[c91]
  have hx1:=GU.o c91;obtain⟨-,s1,-,sf⟩:=OW.o.cells;have sf1:=sf 1;have e2:((i+1:Nat):Int)+1=((i+2:Nat):Int):=by omega
  have HRb:Hd (Rd (w1.setCell ⟨R,1,none⟩ (.int .i64 (((i+1:Nat):Int)+1))) R s (i+2) T):=OW.o.set (i+2);have XD:Hd (w.grownBy (w1.setCell ⟨R,1,none⟩ (.int .i64 (((i+1:Nat):Int)+1))) (some R)):=aS AQ.o 1 _;clear c91 sf e2;have EL:=ae (fun w' (a:Rd w' R s (i+2) T) (b:w.grownBy w' (some R))=>CK.o (i+2) w' a b (by omega));have zt:=jU.o (i+2);have mP:=HP.o;simp only[if_true]at mP;obtain⟨KR,kS⟩:=zN (ik s.data.toList (s.data.toList.length+1) (i+2) []);rw[kS]at EL zt mP;have EM:=ae zt;have zu:Hd (S=_):=mP;clear zt mP kS HP CK jU;go_wp2_with (go_at_call 148;refine(EL.o _ HRb.o XD.o).mono ?_);rintro e w2 ⟨p1,p2,p3⟩;have HG2:=ae (dK XD.o p3)
  cases KR with
  | error ec =>
   obtain⟨ec1,ec2⟩:=ec;obtain⟨F,rfl,hF⟩:=p2 ec1 ec2 rfl;have dZ:=ae hF;have az:Hd (S=.error (ec1,ec2)):=zu.o;clear p1 p2 p3 hF;go_wp2;refine bodyPost_ret (results_tmp (t:=2) rfl _ _ _) rfl ?_;rw[az.o];exact⟨fun d hh=>(by cases hh),fun c p hh=>(by cases hh;exact⟨F,rfl,dZ.o⟩),kD HG2.o hR hB⟩
  | ok q =>
   obtain⟨ks,j⟩:=q;obtain⟨g,c,rfl,hky,hkc,hr2⟩:=p1 ks j rfl;obtain⟨k1,k2,k3,k4⟩:=EM.o ks j (by omega) rfl;have iV:=ae hky;have HR2:=ae hr2;have AL:=ae k1;have HP2:=zu.o
   try simp only[]at HP2
   have rX:=CT.o j;have mM:=pz.o j;obtain⟨MU,lX⟩:=zN (must s.data.toList j 93);rw[lX]at rX mM HP2;have EN:=ae rX;have EO:=ae mM;have sG:Hd (S=_):=HP2;clear p1 p2 p3 hky hr2 k1 rX mM HP2 lX zu EM;go_wp2_with (go_at_call 109;refine(EN.o _ HR2.o HG2.o k4).mono ?_);rintro e w3 ⟨⟨v,rfl,hv⟩,hg3⟩;have aK:=ae (dK HG2.o hg3);have jW:=ae (iV.o.keepR HR2.o hg3);clear hg3
   cases MU with
   | error ec =>
    obtain⟨ec1,ec2⟩:=ec;obtain⟨F,rfl,hF⟩:=hv.o.2 ec1 ec2 rfl;have dZ:=ae hF;have az:Hd (S=.error (ec1,ec2)):=sG.o;clear hv hF;go_wp2;refine bodyPost_ret (results_tmp (t:=2) rfl _ _ _) rfl ?_;rw[az.o];exact⟨fun d hh=>(by cases hh),fun c p hh=>(by cases hh;exact⟨F,rfl,dZ.o⟩),kD aK.o hR hB⟩
   | ok j1 =>
    obtain⟨rfl,hr3⟩:=hv.o.1 j1 rfl;obtain⟨m1,m2⟩:=EO.o j1 rfl;have HR3:=ae hr3;have uz:=sG.o
    try simp only[]at uz
    clear hv hr3 sG EO EN;have vJ:=CT.o j1;have pJ:=pz.o j1;obtain⟨MV,XE⟩:=zN (must s.data.toList j1 93);rw[XE]at vJ pJ uz;have Jg:=ae vJ;have OX:Hd (S=_):=uz;clear vJ pJ uz XE CT;go_wp2_with (go_at_call 109;refine(Jg.o _ HR3.o aK.o (by omega)).mono ?_);rintro e w4 ⟨⟨v,rfl,hv⟩,hg4⟩;have eX:=ae (dK aK.o hg4);have nO:=ae (jW.o.keepR HR3.o hg4);clear hg4
    cases MV with
    | error ec =>
     obtain⟨ec1,ec2⟩:=ec;obtain⟨F,rfl,hF⟩:=hv.o.2 ec1 ec2 rfl;have dZ:=ae hF;have az:Hd (S=.error (ec1,ec2)):=OX.o;clear hv hF;go_wp2;refine bodyPost_ret (results_tmp (t:=2) rfl _ _ _) rfl ?_;rw[az.o];exact⟨fun d hh=>(by cases hh),fun c p hh=>(by cases hh;exact⟨F,rfl,dZ.o⟩),kD eX.o hR hB⟩
    | ok j2 =>
     obtain⟨rfl,hr4⟩:=hv.o.1 j2 rfl;have HR4:=ae hr4;have vV:S=Bl j2 own (way true own ks 0 ns):=OX.o;clear hv hr4 OX Jg;obtain⟨d,hd⟩:∃d,ks.length=d+1:=⟨ks.length-1,by omega⟩;have tJ:Hd (Calls prog 149 #[.pointer (some ⟨T,0,none⟩),.slice (some ⟨g,0,none⟩) ks.length c,.bool true] w4 fun e w''=>∃u,e=.returned u/\Hd (sF B R T s E S w (.returned u) w'')):=by
      rw[vV];exact CE.o true ks d g c j2 w4 hd (by omega) (by omega) AL.o nO.o HR4.o eX.o
     obtain⟨-,-,rr,-⟩:=HR4.o.cells;clear vV CE hd;go_wp2_with (go_at_call 149;refine tJ.o.mono ?_;rintro e w9 ⟨u,rfl,hu⟩);refine bodyPost_ret (results_tmp (t:=2) rfl _ _ _) rfl ?_;exact hu.o
open Go.RowKit Go.Maps Go.WideMaps Go.Joins
def qJ(l:List UInt8)(d:Sd)(c:Bool × Nat):Rs Sd :=
 if c.1=false then .error (2,c.2)
 else if nx l c.2=-1 then .ok ⟨c.2,d.ns,d.own,d.now⟩
 else match must l c.2 10 with
  | .error e=>.error e
  | .ok j=>.ok ⟨j,d.ns,d.own,d.now⟩
def XF(l:List UInt8):Rs Sd->Rs Sd
 | .error e=>.error e
 | .ok d=>qJ l d (aZ l (bl l d.i))
theorem Bq(l:List UInt8)(i:Nat)(ns:List Tn)(own:List Nat)(now:Nat):gW l ⟨i,ns,own,now⟩=XF l (if nx l (bl l i)=91 then iF l ⟨bl l i,ns,own,now⟩ else if nx l (bl l i)=34\/bg (nx l (bl l i))=true then rdPair l ⟨bl l i,ns,own,now⟩ else .ok ⟨bl l i,ns,own,now⟩):=by
 unfold gW;simp only[]
 cases (if nx l (bl l i)=91 then iF l ⟨bl l i,ns,own,now⟩ else if nx l (bl l i)=34\/bg (nx l (bl l i))=true then rdPair l ⟨bl l i,ns,own,now⟩ else .ok ⟨bl l i,ns,own,now⟩) with
 | error e=>rfl
 | ok d=>rfl
theorem afd(B R T:Nat)(s:ByteArray)(E:Int->TypeId × Value)(own:List Nat)(now i:Nat)(ns:List Tn)(w:World)(h:Rd w R s i T)(htr:Tr w B T ns own now)(G:Gl w B E)(hR:B<=R)(hs:s.size<=100000)(L:Li s.data.toList ⟨i,ns,own,now⟩) :
  Calls prog 72 #[.pointer (some ⟨R,0,none⟩)] w (sF B R T s E (gW s.data.toList ⟨i,ns,own,now⟩) w):=by
 have hl:s.data.toList.length=s.size:=by simp
 have hB:=htr.base;have hi:i<=s.size:=by have:=L.le;simp only[]at this;omega
 have CN:=ae (fun k w (h1:Rd w R s k T) (h2:k<=s.size)=>mX R s k T w h1 h2 (by omega));have CB:=ae RQ;have CS:=ae (fun k w (h1:Rd w R s k T) (h2:k<=s.size)=>Gx R s k T w h1 h2 (by omega));have CC:=ae (fun k w' (h1:Rd w' R s k T) (hb:Below B w w') (hk:k<=s.size)=>RP R s k T (E 2).1 (E 2).2 w' h1 hk (by omega) (G.bel hb).es.te (AO G.lo hR).te);have CT:=ae (fun k ns own now w' (h1:Rd w' R s k T) (h2:Tr w' B T ns own now) (hb:Below B w w') (hk:k<=s.size)=>VY B R T s E own now k 10 (by decide) ns w' h1 h2 (G.bel hb) hR hk hs);have fP:Hd (∀k,k<=s.size->k<=bl s.data.toList k/\bl s.data.toList k<=s.size):=fun k hk=>by rw[<-hl];exact jR _ k (by omega)
 have HCM:Hd (∀k,k<=s.size->k<=(aZ s.data.toList k).2/\(aZ s.data.toList k).2<=s.size):=fun k hk=>by rw[<-hl];exact Cf _ k (by omega)
 obtain⟨b1,b2⟩:=fP.o i hi;have C1:=CS.o i w h hi;have mV:=Bq s.data.toList i ns own now;obtain⟨j,hj⟩:=zN (bl s.data.toList i);rw[hj]at C1 b1 b2 mV;have L':Li s.data.toList ⟨j,ns,own,now⟩:=⟨L.jt,L.rt,by simp only[];omega,by have:=L.nn;simp only[]at this ⊢;omega,by have:=L.on;simp only[]at this ⊢;omega⟩;have xZ:=ae (fun(hx:nx s.data.toList j=91) w' (h1:Rd w' R s j T) (h2:Tr w' B T ns own now) (hb:Below B w w')=>afc B R T s E own now j ns w' h1 h2 (G.bel hb) hR (by have:=aY (l:=s.data.toList) (i:=j) (by rw[hx];decide);omega) hs L'.jt L'.rt (by have:=L'.nn;have:=L'.on;simp only[]at *;omega));have Jj:=ae (fun w' (h1:Rd w' R s j T) (h2:Tr w' B T ns own now) (hb:Below B w w')=>ae5 B R T s E own now j ns w' h1 h2 (G.bel hb) hR b2 hs L'.jt (by have:=L'.nn;have:=L'.on;simp only[]at *;omega));have Bv:Hd (nx s.data.toList j=91->∀d,iF s.data.toList ⟨j,ns,own,now⟩=.ok d->d.i<=s.size):=fun hx d hd=>by
  have:=(OU s.data.toList _ d L' (aY (l:=s.data.toList) (i:=j) (by rw[hx];decide)) hd).1.le;omega
 have lS:Hd (∀d,rdPair s.data.toList ⟨j,ns,own,now⟩=.ok d->d.i<=s.size):=fun d hd=>by
  have:=(OT s.data.toList _ d L' hd).1.le;omega
 obtain⟨S,hS⟩:=zN (gW s.data.toList ⟨i,ns,own,now⟩);rw[hS]at mV ⊢;obtain⟨HD,XG⟩:=zN (iF s.data.toList ⟨j,ns,own,now⟩);obtain⟨PR,pI⟩:=zN (rdPair s.data.toList ⟨j,ns,own,now⟩);rw[XG]at mV xZ Bv;rw[pI]at mV Jj lS;obtain⟨x,hx⟩:=zN (nx s.data.toList j);rw[hx]at mV xZ Bv;have HP:Hd (S=_):=mV;have y9:=ae C1;have C2:Hd (∀w',Rd w' R s j T->Calls prog 104 #[.pointer (some ⟨R,0,none⟩)] w' fun e w''=>e=.returned (.int .i64 x)/\w'.grownBy w'' none):=fun w' hh=>by rw[<-hx];exact CN.o j w' hh b2
 have nJ:=ae htr;have H0:=ae h;clear mV hS XG pI hx hj C1 h htr G L L';go_enter func72,ntmps72;go_wp2_with (go_at_call 103;refine y9.o.mono ?_);rintro e w1 ⟨rfl,hr1,hg1⟩;have HR1:=ae hr1;have HB1:=ae (kD hg1 hR hB);have HT1:=ae (nJ.o.keepR H0.o hg1);clear hr1 hg1;go_wp2_with (first|(go_at_call 104;refine(C2.o _ HR1.o).mono ?_));rintro e w2 ⟨rfl,hg2⟩;have HR2:=ae (HR1.o.grow hg2);have HB2:=ae (HB1.o.trans (nN hg2 HT1.o.base));have HT2:=ae (HT1.o.gb hg2);clear hg2;have hcs:x=91\/(¬x=91/\x=34)\/(¬x=91/\¬x=34/\bg x=true)\/(¬x=91/\¬x=34/\bg x=false):=by
  by_cases a:x=91
  ·exact .inl a
  ·by_cases b:x=34
   ·exact .inr (.inl ⟨a,b⟩)
   ·cases c:bg x with
    | true=>exact .inr (.inr (.inl ⟨a,b,rfl⟩))
    | false=>exact .inr (.inr (.inr ⟨a,b,rfl⟩))
 rcases hcs with q1|⟨n91,q2⟩|⟨n91,n34,q3⟩|⟨n91,n34,q4⟩
 all_goals (
  have sH:=HP.o
  first
   | (first
     | (have e91:(x == 91)=true:=by simp[q1]
        have C3:=xZ.o q1;have DJ:=ae (Bv.o q1);rw[if_pos q1]at sH;have Jk:=ae sH;have OL:=ae C3;clear q1 C3 sH HP xZ Bv Jj lS CB;go_wp2_with (go_at_call 105;refine(OL.o _ HR2.o HT2.o HB2.o).mono ?_);rintro e w3 ⟨p1,p2,p3⟩;obtain⟨X,rfl⟩:∃X,X=HD:=⟨_,rfl⟩)
     | (have e91:(x == 91)=false:=by simp[n91]
        rw[if_neg n91]at sH
        first
        | (have e34:(x == 34)=true:=by simp[q2]
           rw[if_pos (Or.inl q2)]at sH;clear q2 n91 CB)
        | (have e34:(x == 34)=false:=by simp[n34]
           have jk:Hd (∀w,Calls prog 106 #[.int .i64 x] w fun e w'=>e=.returned (.bool true)/\w'=w):=fun w=>by have:=CB.o x w;rw[q3]at this;exact this
           rw[if_pos (Or.inr q3)]at sH;clear q3 n91 n34 CB)
        have Jk:=ae sH;have DJ:=ae lS.o;clear sH HP xZ Bv lS
        try
         go_wp2_with (go_at_call 106;refine(jk.o _).mono ?_);rintro e w' ⟨rfl,rfl⟩
        go_wp2_with (go_at_call 107;refine(Jj.o _ HR2.o HT2.o HB2.o).mono ?_);rintro e w3 ⟨p1,p2,p3⟩;obtain⟨X,rfl⟩:∃X,X=PR:=⟨_,rfl⟩)
      have OY:=ae (HB2.o.trans p3)
      rcases X with⟨ec1,ec2⟩|d
      ·obtain⟨F,rfl,hF⟩:=p2 ec1 ec2 rfl;have dZ:=ae hF;have az:Hd (S=.error (ec1,ec2)):=Jk.o;clear p1 p2 p3 hF;go_wp2;refine bodyPost_ret (results_tmp (t:=2) rfl _ _ _) rfl ?_;rw[az.o];exact⟨fun d hh=>(by cases hh),fun c p hh=>(by cases hh;exact⟨F,rfl,dZ.o⟩),OY.o⟩
      obtain⟨rfl,hr3,ht3⟩:=p1 d rfl;have hdl:=DJ.o d rfl;have OZ:=ae hr3;have O0:=ae ht3;have O3:Hd (S=qJ s.data.toList d (aZ s.data.toList (bl s.data.toList d.i))):=Jk.o;clear p1 p2 p3 hr3 ht3 Jk DJ)
   | (have e91:(x == 91)=false:=by simp[n91]
      have e34:(x == 34)=false:=by simp[n34]
      have jk:Hd (∀w,Calls prog 106 #[.int .i64 x] w fun e w'=>e=.returned (.bool false)/\w'=w):=fun w=>by have:=CB.o x w;rw[q4]at this;exact this
      rw[if_neg n91,if_neg (by rintro(h|h);exact n34 h;rw[q4]at h;cases h)]at sH;have xN:Hd (S=qJ s.data.toList ⟨j,ns,own,now⟩ (aZ s.data.toList (bl s.data.toList j))):=sH;clear q4 n91 n34 CB sH HP xZ Bv Jj lS;go_wp2_with (go_at_call 106;refine(jk.o _).mono ?_);rintro e w3 ⟨rfl,rfl⟩;obtain⟨d,hd⟩:∃d:Sd,d=⟨j,ns,own,now⟩:=⟨_,rfl⟩;have OZ:Hd (Rd w3 R s d.i T):=by rw[hd];exact HR2.o
      have O0:Hd (Tr w3 B T d.ns d.own d.now):=by rw[hd];exact HT2.o
      have hdl:d.i<=s.size:=by rw[hd];exact b2
      have O3:Hd (S=qJ s.data.toList d (aZ s.data.toList (bl s.data.toList d.i))):=by rw[hd];exact xN.o
      have OY:=ae HB2.o;clear hd xN)
  obtain⟨g1,g2⟩:=fP.o d.i hdl;have C5:=CS.o d.i w3 OZ.o hdl;have Ak:=O3.o;obtain⟨j5,XH⟩:=zN (bl s.data.toList d.i);rw[XH]at C5 g1 g2 Ak;have NT:=ae C5;obtain⟨f1,f2⟩:=HCM.o j5 g2;have O4:=CC.o j5;obtain⟨cm,hcm⟩:=zN (aZ s.data.toList j5);rw[hcm]at O4 Ak f1 f2;obtain⟨okb,j6⟩:=cm;simp only[]at f1 f2;have afe:=ae (fun w' (a:Rd w' R s j5 T) (b:Below B w w')=>O4 w' a b g2);have O5:=ae Ak;clear C5 O4 Ak XH hcm O3;go_wp2_with (first|(go_at_call 103;refine NT.o.mono ?_));rintro e w5 ⟨rfl,lu,hg5⟩;have kP:=ae lu;have tK:=ae (OY.o.trans (kD hg5 hR O0.o.base));have XI:=ae (O0.o.keepR OZ.o hg5);clear lu hg5;go_wp2_with (first|(go_at_call 108;refine(afe.o _ kP.o tK.o).mono ?_));rintro e w6 ⟨q1,q2,q3,q4⟩;have oh:Hd (Rd w6 R s j6 T):=q3;have Hg:=ae (tK.o.trans (kD q4 hR XI.o.base))
  have vW:=ae (XI.o.keepR kP.o q4);clear q3 q4
  cases okb with
  | false =>
   obtain⟨v,rfl,F,rfl,hF⟩:=q2 rfl;have dZ:Hd (dF w6 (.iface 130 (.pointer (some ⟨F,0,none⟩))) E 2 j6):=⟨F,rfl,hF⟩;have az:Hd (S=.error (2,j6)):=by
    have:=O5.o;unfold qJ at this;rw[if_pos rfl]at this;exact this
   clear q1 q2 hF;go_wp2;refine bodyPost_ret (results_tmp (t:=2) rfl _ _ _) rfl ?_;rw[az.o];exact⟨fun d hh=>(by cases hh),fun c p hh=>(by cases hh;exact⟨F,rfl,dZ.o⟩),Hg.o⟩
  | true =>
   obtain rfl:=q1 rfl;have C7:=ae (CN.o j6 w6 oh.o f2);have uA:=O5.o;unfold qJ at uA;rw[if_neg (by simp)]at uA;simp only[]at uA;have O6:=CT.o j6 d.ns d.own d.now;obtain⟨MU,lX⟩:=zN (must s.data.toList j6 10);rw[lX]at uA O6;obtain⟨y,hy⟩:=zN (nx s.data.toList j6);rw[hy]at uA C7;have XJ:Hd (S=_):=uA;have aff:=ae O6;clear q1 q2 uA O6 lX hy O5;go_wp2_with (first|(go_at_call 104;refine C7.o.mono ?_));rintro e w7 ⟨rfl,lT⟩;have wW:=ae (oh.o.grow lT);have rE:=ae (Hg.o.trans (nN lT vW.o.base));have XK:=ae (vW.o.gb lT);clear lT
   by_cases cy:y=-1
   ·have ey:(y == -1)=true:=by simp[cy]
    have az:Hd (S=.ok ⟨j6,d.ns,d.own,d.now⟩):=by
     have:=XJ.o;rw[if_pos cy]at this;exact this
    clear cy;go_wp2;refine bodyPost_ret (results_tmp (t:=2) rfl _ _ _) rfl ?_;rw[az.o];exact⟨fun d hh=>(by cases hh;exact⟨rfl,wW.o,XK.o⟩),fun c p hh=>(by cases hh),rE.o⟩
   ·have ey:(y == -1)=false:=by simp[cy]
    have az:Hd (S=match (generalizing:=false) MU with | .error e=>.error e | .ok j=>.ok ⟨j,d.ns,d.own,d.now⟩):=by
     have:=XJ.o;rw[if_neg cy]at this;exact this
    clear cy;go_wp2_with (go_at_call 109;refine(aff.o _ wW.o XK.o rE.o f2).mono ?_);rintro e w8 ⟨t1,t2,t3⟩
    cases MU with
    | error ec =>
     obtain⟨ec1,ec2⟩:=ec;obtain⟨F,rfl,hF⟩:=t2 ec1 ec2 rfl;have dZ:=ae hF;have Dk:=ae (rE.o.trans t3);have O7:Hd (S=.error (ec1,ec2)):=az.o;clear t1 t2 t3 hF;go_wp2;refine bodyPost_ret (results_tmp (t:=2) rfl _ _ _) rfl ?_;rw[O7.o];exact⟨fun d hh=>(by cases hh),fun c p hh=>(by cases hh;exact⟨F,rfl,dZ.o⟩),Dk.o⟩
    | ok j8 =>
     obtain⟨rfl,Aw,XL⟩:=t1 j8 rfl;have uY:=ae Aw;have HT8:=ae XL;have Dk:=ae (rE.o.trans t3);have O7:Hd (S=.ok ⟨j8,d.ns,d.own,d.now⟩):=az.o;clear t1 t2 t3 Aw XL;go_wp2;refine bodyPost_ret (results_tmp (t:=2) rfl _ _ _) rfl ?_;rw[O7.o];exact⟨fun d hh=>(by cases hh;exact⟨rfl,uY.o,HT8.o⟩),fun c p hh=>(by cases hh),Dk.o⟩)
open Go.RowKit Go.Joins
theorem EP{l:List UInt8}{d:Sd}(L:Li l d)(j:Nat)(h1:d.i<=j)(h2:j<=l.length):Li l ⟨j,d.ns,d.own,d.now⟩ :=
 ⟨L.jt,L.rt,h2,by have:=L.nn;simp only[];omega,by have:=L.on;simp only[];omega⟩
theorem Jl(l:List UInt8)(d d':Sd)(L:Li l d)(hi:d.i<l.length)(h:gW l d=.ok d'):Li l d'/\d.i<d'.i:=by
 obtain⟨i,ns,own,now⟩:=d;simp only[]at hi;rw[Bq]at h;have b1:=jR l i (by omega);have L':Li l ⟨bl l i,ns,own,now⟩:=EP L (bl l i) b1.1 b1.2;have mid:∀d1,(if nx l (bl l i)=91 then iF l ⟨bl l i,ns,own,now⟩ else if nx l (bl l i)=34\/bg (nx l (bl l i))=true then rdPair l ⟨bl l i,ns,own,now⟩ else .ok ⟨bl l i,ns,own,now⟩)=.ok d1->Li l d1/\bl l i<=d1.i:=fun d1 hh=>by
  split at hh
  ·rename_i hx;obtain⟨a,b⟩:=OU l _ d1 L' (aY (l:=l) (i:=bl l i) (by rw[hx];decide)) hh;exact⟨a,Nat.le_of_lt b⟩
  ·split at hh
   ·obtain⟨a,b⟩:=OT l _ d1 L' hh;exact⟨a,Nat.le_of_lt b⟩
   ·cases hh
    exact⟨L',Nat.le_refl _⟩
 cases hm:(if nx l (bl l i)=91 then iF l ⟨bl l i,ns,own,now⟩ else if nx l (bl l i)=34\/bg (nx l (bl l i))=true then rdPair l ⟨bl l i,ns,own,now⟩ else .ok ⟨bl l i,ns,own,now⟩) with
 | error e=>rw[hm]at h;cases h
 | ok d1 =>
  rw[hm]at h;obtain⟨L1,h1⟩:=mid d1 hm;have h2:qJ l d1 (aZ l (bl l d1.i))=.ok d':=h;have b2:=jR l d1.i L1.le;have c2:=Cf l (bl l d1.i) b2.2;unfold qJ at h2;split at h2
  ·cases h2
  ·split at h2
   ·rename_i hx;have:=Cc hx
    cases h2
    exact⟨EP L1 _ (by omega) c2.2,by simp only[];omega⟩
   ·cases hq:must l (aZ l (bl l d1.i)).2 10 with
    | error e=>rw[hq]at h2;cases h2
    | ok q =>
     rw[hq]at h2;obtain⟨m1,m2⟩:=xY l _ _ 10 (by decide) hq
     cases h2
     exact⟨EP L1 q (by omega) (by omega),by simp only[];omega⟩
theorem EQ(l:List UInt8):Li l ⟨0,[⟨0,[],[],0,[],0⟩],[],0⟩:=by
 have hk:∀p,af [(⟨0,[],[],0,[],0⟩:Tn)] p=[]:=fun p=>by
  unfold af
  cases p with
  | zero=>rfl
  | succ p=>rfl
 refine⟨⟨⟨fun p p' q h=>?_,fun p q h=>?_,fun q h=>?_,fun p=>?_⟩,fun q hq=>?_,by simp,rfl⟩,rfl,Nat.zero_le _,by simp,by simp⟩
 ·rw[hk]at h;cases h
 ·rw[hk]at h;cases h
 ·cases h
 ·rw[hk];simp
 ·exfalso;unfold ak at hq
  cases q with
  | zero=>exact absurd (show(0:Int)=2 from hq) (by decide)
  | succ q=>exact absurd (show(-1:Int)=2 from hq) (by decide)
open Go.RowKit Go.Maps Go.WideMaps Go.Joins
theorem afg:hold [(⟨0,[],[],0,[],0⟩:Tn)] []=fun _ _=>none:=by
 funext t k;unfold hold;have:ah [(⟨0,[],[],0,[],0⟩:Tn)] t k=none:=by
  rw[qZ];unfold af
  cases t with
  | zero=>rfl
  | succ t=>rfl
 rw[this];split<;>rfl
theorem afh(w:World):Tr (((w.alloc (.cells #[.int .i64 0,.string ⟨#[]⟩,.string ⟨#[]⟩,.int .i64 0,.slice none 0 0,.int .i64 0] 64)).alloc (.map #[] 0)).alloc (.cells #[.slice (some ⟨w.heap.size,0,none⟩) 1 1,.map (some (w.heap.size+1)),.int .i64 0] 129)) w.heap.size (w.heap.size+2) [⟨0,[],[],0,[],0⟩] [] 0:=by
 obtain⟨w1,hw1⟩:=zN (w.alloc (.cells #[.int .i64 0,.string ⟨#[]⟩,.string ⟨#[]⟩,.int .i64 0,.slice none 0 0,.int .i64 0] 64));have n1:=heap_alloc_new w (.cells #[.int .i64 0,.string ⟨#[]⟩,.string ⟨#[]⟩,.int .i64 0,.slice none 0 0,.int .i64 0] 64);have s1:(w.alloc (.cells #[.int .i64 0,.string ⟨#[]⟩,.string ⟨#[]⟩,.int .i64 0,.slice none 0 0,.int .i64 0] 64)).heap.size=w.heap.size+1:=World.size_alloc _ _;rw[hw1]at n1 s1 ⊢;have m2:=HM.made w1;have g2:w1.grownBy (w1.alloc (.map #[] 0)) none:=World.grownBy_alloc _ _ _;have s2:(w1.alloc (.map #[] 0)).heap.size=w.heap.size+2:=by rw[World.size_alloc,s1]
 rw[s1]at m2;obtain⟨w2,hw2⟩:=zN (w1.alloc (.map #[] 0));rw[hw2]at m2 g2 s2 ⊢;have n3:=heap_alloc_new w2 (.cells #[.slice (some ⟨w.heap.size,0,none⟩) 1 1,.map (some (w.heap.size+1)),.int .i64 0] 129);have g3:w2.grownBy (w2.alloc (.cells #[.slice (some ⟨w.heap.size,0,none⟩) 1 1,.map (some (w.heap.size+1)),.int .i64 0] 129)) none:=World.grownBy_alloc _ _ _;rw[s2]at n3;have n1':=jG (jG n1 g2) g3;obtain⟨es,cc,hm⟩:=m2.map;refine⟨w.heap.size,1,w.heap.size+1,[.int .i64 0,.string ⟨#[]⟩,.string ⟨#[]⟩,.int .i64 0,.slice none 0 0,.int .i64 0],fun _=>.slice none 0 0,?_⟩;refine⟨n3,by omega,⟨rfl,Or.inr ⟨w.heap.size,1,_,rfl,Nat.le_refl _,n1',Nat.le_refl _,by unfold maxLen;omega,rfl,rfl⟩⟩,fun i hi=>?_,fun i hi=>?_,fun i j g hi hj h1 _=>?_,?_,by omega⟩
 ·have:i=0:=by simp at hi;omega
  subst this;exact⟨rfl,rfl,rfl,rfl,rfl,rfl⟩
 ·have:i=0:=by simp at hi;omega
  subst this;exact⟨rfl,Or.inl ⟨rfl,rfl⟩⟩
 ·cases h1
 ·rw[afg];exact(m2.mono (by simp)).block (g3.block _ (aB hm) (by simp))
theorem afi(w:World):(Instr.makeMap 127 none).run prog w=.ok (.map (some w.heap.size)) (w.alloc (.map #[] 0)):=by kernel_rfl
theorem afj(w:World):Calls prog 71 #[] w fun e w'=>e=.returned (.pointer (some ⟨w.heap.size+2,0,none⟩))/\Tr w' w.heap.size (w.heap.size+2) [⟨0,[],[],0,[],0⟩] [] 0/\w.grownBy w' none:=by
 have HT:=ae (afh w);have hmk:=afi (w.alloc (.cells #[.int .i64 0,.string ⟨#[]⟩,.string ⟨#[]⟩,.int .i64 0,.slice none 0 0,.int .i64 0] 64));rw[World.size_alloc]at hmk;go_enter func71,ntmps71;go_wp2;go_ret;exact⟨rfl,HT.o,ai (ai (World.grownBy_alloc _ _ none) (World.grownBy_alloc _ _ none)) (World.grownBy_alloc _ _ none)⟩
end Go.Proofs.YtnnbgjaphfhibaaGreatDoor
