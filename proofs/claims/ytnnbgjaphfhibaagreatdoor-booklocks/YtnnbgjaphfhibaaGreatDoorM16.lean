import Derived.Test.YtnnbgjaphfhibaaGreatDoorM15
set_option linter.unusedVariables false
set_option linter.unusedSimpArgs false
set_option maxRecDepth 100000
set_option maxHeartbeats 6400000
open Go.Proofs.Tryz
namespace Go.Proofs.YtnnbgjaphfhibaaGreatDoor
open Go.RowKit Go.Maps Go.WideMaps Go.Joins
theorem aa2(d:Nat)(h:d<=8):IntKind.i64.wrap ((d:Int)+1)=(d:Int)+1:=by
 rw[IntKind.wrap_i64];omega
theorem aa3{B R T:Nat}{s:ByteArray}{E:Int->TypeId × Value}{own:List Nat}{now:Nat}{r:Rs (Nat × List Tn)}{w w' w'':World}{e:Ending}(hb:Below B w w')(h:qX B R T s E own now r w' e w''):∃v,e=.returned v/\Hd (qX B R T s E own now r w (.returned v) w''):=by
 cases r with
 | error ec =>
  obtain⟨c,p⟩:=ec;obtain⟨v,rfl,hv⟩:=h.2.1 c p rfl;exact⟨v,rfl,fun j ns hh=>(by cases hh),fun c p hh=>(by cases hh;exact⟨v,rfl,hv⟩),hb.trans h.2.2⟩
 | ok q =>
  obtain⟨j,ns⟩:=q;obtain⟨rfl,h1,h2⟩:=h.1 j ns rfl;exact⟨_,rfl,fun j ns hh=>(by cases hh;exact⟨rfl,h1,h2⟩),fun c p hh=>(by cases hh),hb.trans h.2.2⟩
theorem aa4(F:Nat)(IH:Tj F):Ce (F+1):=by
 intro B R T s E own now i up k p d ns w h htr G hR hi hs W V hu h2 hfree hk hd hsz hF;have hB:B<=w.heap.size:=htr.base;have hl:s.data.toList.length=s.size:=by simp
 have CN:Hd (∀k w,Rd w R s k T->k<=s.size->Calls prog 104 #[.pointer (some ⟨R,0,none⟩)] w fun e w'=>e=.returned (.int .i64 (nx s.data.toList k))/\w.grownBy w' none):=fun k w h1 h2=>mV R s k T w h1 h2 (by omega)
 have CD:Hd (∀c w,Calls prog 151 #[.int .i64 c] w fun e w'=>e=.returned (.bool (au c))/\w'=w):=Ff;have CA:Hd (∀(kd:Int) w',Tr w' B T ns own now->Calls prog 196 #[.pointer (some ⟨T,0,none⟩),.int .i64 (up:Nat),.int .i64 kd,.agg #[.string ⟨k.toArray⟩,.int .i64 (p:Nat)]] w' (qU B T ns own now up ⟨kd,k,[],0,[],p⟩ w')):=fun kd w' h'=>zk B T ns own now up kd k p w' h' W hu hfree (by omega) hk
 have CH:Hd (∀w',Below B w w'->Rd w' R s i T->Calls prog 156 #[.pointer (some ⟨R,0,none⟩)] w' fun e w''=>(∃v,e=.returned v/\aV w'' v E 2 i)/\w'.grownBy w'' none):=fun w' hb hr=>(vO R s i T (E 2).1 (E 2).2 w' hr (G.bel hb).es.te).mono fun e w'' h=>h
 have CW:Hd (∀w,Calls prog 195 #[.iface (E 4).1 (E 4).2,.int .i64 (i:Nat)] w fun e w'=>(∃v,e=.returned v/\aV w' v E 4 i)/\w.grownBy w' none):=fun w=>rV i (E 4).1 (E 4).2 w
 have CQ:Hd (nx s.data.toList i=34->∀w',Below B w w'->Rd w' R s i T->Calls prog 193 #[.pointer (some ⟨R,0,none⟩)] w' (F7 R s T E (str s.data.toList (s.data.toList.length+1) (i+1) []) w')):=fun hx w' hb hr=>RG R s i T E w' hr (by have:=bH (l:=s.data.toList) (i:=i) (by rw[hx];decide);omega) (by omega) (G.bel hb).es (zA G.lo hR) (G.bel hb).tabs (by have:=G.t3;omega) (by have:=G.t4;omega)
 have CI:Hd ((nx s.data.toList i=43\/nx s.data.toList i=45\/au (nx s.data.toList i)=true)->∀w',Below B w w'->Rd w' R s i T->Calls prog 197 #[.pointer (some ⟨R,0,none⟩)] w' (Bo R s T E (jf s.data.toList i) w')):=fun hx w' hb hr=>aaS R s i T E w' hr (by omega) (G.bel hb).es (zA G.lo hR) (by rcases hx with h|h|h;exact Or.inr (Or.inl h);exact Or.inr (Or.inr h);exact Or.inl h)
 have CT:Hd (∀w',Below B w w'->Rd w' R s i T->Calls prog 198 #[.pointer (some ⟨R,0,none⟩)] w' (Bo R s T E (kU s.data.toList i) w')):=fun w' hb hr=>Y5 R s i T E w' hr hi (by omega) (G.bel hb).es (zA G.lo hR)
 have CL:Hd (nx s.data.toList i=91->¬d=8->∀w',Below B w w'->Rd w' R s i T->Tr w' B T (addN ns up ⟨1,k,[],0,[],p⟩) own now->Calls prog 199 #[.pointer (some ⟨R,0,none⟩),.int .i64 (ns.length:Nat),.int .i64 ((d+1:Nat):Int)] w' (qX B R T s E own now (lst s.data.toList F (i+1) ns.length (d+1) (addN ns up ⟨1,k,[],0,[],p⟩)) w')):=fun hx hd8 w' hb hr ht=>by
  have hlt:i<s.size:=by have:=bH (l:=s.data.toList) (i:=i) (by rw[hx];decide);omega
  have A:=zB (i:=i) (j:=i+1) (n:=s.size) (x:=⟨1,k,[],0,[],p⟩) W V hu h2 rfl (fun e=>absurd (show(1:Int)=2 from e) (by decide)) (by omega) (by omega);exact IH B R T s E own now i ns.length (d+1) _ w' hr ht (G.bel hb) hR hlt hs A.wf A.wt (by rw[dh];omega) (by rw[fA ns up _ hu,if_pos rfl]) (by omega) (by rw[dh];omega) (by omega)
 have zH:Hd (∀w',Below B w w'->w'.cell? ⟨2,0,none⟩=some (.iface (E 4).1 (E 4).2)):=fun w' hb=>(G.bel hb).es.ma
 have TB:=sN s.data.toList F i up k p d ns;have HV:Hd (val s.data.toList (F+1) i up k p d ns=_):=TB;obtain⟨S,hS⟩:=zN (val s.data.toList (F+1) i up k p d ns);rw[hS]at HV ⊢;obtain⟨SQ,BZ⟩:=zN (str s.data.toList (s.data.toList.length+1) (i+1) []);obtain⟨SI,TC⟩:=zN (jf s.data.toList i);obtain⟨SU,TD⟩:=zN (kU s.data.toList i);rw[BZ]at CQ HV;rw[TC]at CI HV;rw[TD]at CT HV;have eX:w.grownBy (w.alloc (.cells #[.string ⟨k.toArray⟩,.int .i64 (p:Nat)] 213)) none:=World.grownBy_alloc w _ none;have bZ:=heap_alloc_new w (.cells #[.string ⟨k.toArray⟩,.int .i64 (p:Nat)] 213);obtain⟨K,jg⟩:=zN (w.heap.size);rw[jg]at bZ;obtain⟨w1,hw1⟩:=zN (w.alloc (.cells #[.string ⟨k.toArray⟩,.int .i64 (p:Nat)] 213));rw[hw1]at eX bZ;have H1:Hd (Rd w1 R s i T):=h.grow eX;have C1:Hd (Calls prog 104 #[.pointer (some ⟨R,0,none⟩)] w1 fun e w'=>e=.returned (.int .i64 (nx s.data.toList i))/\w1.grownBy w' none):=CN.o i w1 H1.o hi
 obtain⟨x,hx⟩:=zN (nx s.data.toList i);rw[hx]at C1 HV CQ CI CL;have ay:Hd (w.grownBy w1 none):=eX;have kT:Hd (w1.heap[K]?=some (.cells #[.string ⟨k.toArray⟩,.int .i64 (p:Nat)] 213 (0,0))):=bZ;have nD:Hd (Tr w B T ns own now):=htr;clear TB hS BZ TC TD eX bZ hx h htr G W V h2 hfree IH;go_enter func154,ntmps154;go_wp2_with (go_at_call 104;refine C1.o.mono ?_);rintro e w2 ⟨rfl,hg2⟩;have HG2:Hd (w.grownBy w2 none):=ah ay.o hg2;have HR2:Hd (Rd w2 R s i T):=H1.o.grow hg2;have eY:Hd (w2.heap[K]?=some (.cells #[.string ⟨k.toArray⟩,.int .i64 (p:Nat)] 213 (0,0))):=jy kT.o hg2;have HT2:Hd (Tr w2 B T ns own now):=nD.o.gb HG2.o;obtain⟨-,r1,r2,-⟩:=HR2.o.cells;obtain⟨k0,k1,-⟩:=iF eY.o;clear hg2
 by_cases c34:x=34
 ·have aa5:(x == 34)=true:=by simp[c34]
  have TE:=CQ.o c34;have Lc:Hd (∀w',Below B w w'->Rd w' R s i T->Calls prog 193 #[.pointer (some ⟨R,0,none⟩)] w' (F7 R s T E SQ w')):=TE;have wL:Hd (S=match (generalizing:=false) SQ with | .error e=>.error e | .ok (t,j)=>.ok (j,addN ns up ⟨3,k,t,0,[],p⟩)):=(by show _=_;rw[HV.o,if_pos c34];try rfl);clear c34 TE HV CI CT CL;go_upto_region 3 with fail
  go_cut [10] from 24 (fun v wx=>v=.int .i64 (ns.length:Nat)/\Tr wx B T (addN ns up ⟨3,k,[],0,[],p⟩) own now/\Rd wx R s i T/\Below B w wx)
  case first =>
   go_region_with (first|(go_at_call 196;refine(CA.o 3 _ (HT2.o.gb (lg w2))).mono ?_;rintro e w3 ⟨rfl,ht3,hf3⟩))
   all_goals (
    go_wp2_with fail;go_meet;exact⟨rfl,ht3,Rd.fr (w:=w2.drew) HR2.o hf3,(nG HG2.o hB).trans (Below.trans (nG (lg w2) (Nat.le_trans hB HG2.o.size)) hf3.bel)⟩)
  case rest =>
   obtain⟨rfl,ht3,hr3,hb3⟩:=hcut;have HT3:Hd (Tr wc B T (addN ns up ⟨3,k,[],0,[],p⟩) own now):=ht3;have HB3:Hd (Below B w wc):=hb3;have HR3:Hd (Rd wc R s i T):=hr3;clear ht3 hr3 hb3 r1 r2 k0 k1;go_wp2_with (go_at_call 193;refine(Lc.o _ HB3.o HR3.o).mono ?_);rintro e w4 ⟨p1,p2,p3⟩;have HT4:Hd (Tr w4 B T (addN ns up ⟨3,k,[],0,[],p⟩) own now):=HT3.o.keepR HR3.o p3;have HB4:Hd (Below B w w4):=HB3.o.trans (kz p3 hR HT3.o.base);obtain⟨N,cc,t0,⟨cs,hN⟩,hBN,n2,n3,s2,s3⟩:=HT4.o.last;have HN:Hd (w4.heap[N]?=some (.cells cs 64 (0,0))):=hN;have hnf:w4.frozen? ⟨N,ns.length*6+2,none⟩=false:=Lib.frozen_of_heap hN _;have Cm:Hd (∀t:List UInt8,Tr (w4.setCell ⟨N,ns.length*6+2,none⟩ (.string ⟨t.toArray⟩)) B T (addN ns up ⟨3,k,t,0,[],p⟩) own now):=s2;have hnl:ns.length<ns.length+1:=by omega
   cases SQ with
   | error ec =>
    obtain⟨ec1,ec2⟩:=ec;obtain⟨v,rfl,hv,jj,hjj⟩:=p2 ec1 ec2 rfl;obtain⟨-,-,hrr,-⟩:=hjj.cells;have dU:Hd (aV w4 v E ec1 ec2):=hv;have az:Hd (S=.error (ec1,ec2)):=wL.o;clear p1 p2 p3 hv hN s2 s3 hjj;go_wp2;refine bodyPost_ret (results_tmp (t:=8) rfl _ _ _) rfl ?_;rw[az.o];exact⟨fun j ns hh=>(by cases hh),fun c p hh=>(by cases hh;exact⟨v,rfl,LK dU.o HN.o⟩),wI HB4.o hBN _ _⟩
   | ok q =>
    obtain⟨tx,j⟩:=q;obtain⟨rfl,hr4⟩:=p1 tx j rfl;have HR4:Hd (Rd w4 R s j T):=hr4;obtain⟨-,-,hrr,-⟩:=hr4.cells;have az:Hd (S=.ok (j,addN ns up ⟨3,k,tx,0,[],p⟩)):=wL.o;clear p1 p2 p3 hr4 hN s2 s3;go_wp2;refine bodyPost_ret (results_tmp (t:=8) rfl _ _ _) rfl ?_;rw[az.o];exact⟨fun j ns hh=>(by cases hh;exact⟨rfl,HR4.o.node HN.o,Cm.o tx⟩),fun c p hh=>(by cases hh),wI HB4.o hBN _ _⟩
 ·have aa5:(x == 34)=false:=by simp[c34]
  have GR:Hd (S=if x=43\/x=45\/au x=true then(match (generalizing:=false) SI with | .error e=>.error e | .ok (n,j)=>.ok (j,addN ns up ⟨4,k,[],n,[],p⟩)) else if x=116\/x=102 then(match (generalizing:=false) SU with | .error e=>.error e | .ok (n,j)=>.ok (j,addN ns up ⟨5,k,[],n,[],p⟩)) else if x=91 then(if d=8 then .error (4,i) else lst s.data.toList F (i+1) ns.length (d+1) (addN ns up ⟨1,k,[],0,[],p⟩)) else .error (2,i)):=(by show _=_;rw[HV.o,if_neg c34];try rfl);clear c34 HV CQ;obtain⟨bI,FM⟩:=zN (decide (x=43\/x=45\/au x=true));have zI:Hd (decide (x=43\/x=45\/au x=true)=bI):=FM;clear FM;go_upto_region 7 with fail
  go_cut [48] from 49 (fun v wx=>v=.bool bI/\wx=w2)
  case first =>
   by_cases a1:x=43
   ·have e1:(x == 43)=true:=by simp[a1]
    have e2:bI=true:=by rw[<-zI.o];simp[a1]
    subst e2;clear a1;go_wp2;go_meet;exact⟨rfl,rfl⟩
   ·have e1:(x == 43)=false:=by simp[a1]
    by_cases a2:x=45
    ·have e3:(x == 45)=true:=by simp[a2]
     have e2:bI=true:=by rw[<-zI.o];simp[a2]
     subst e2;clear a1 a2;go_wp2;go_meet;exact⟨rfl,rfl⟩
    ·have e3:(x == 45)=false:=by simp[a2]
     have BJ:Hd (∀w,Calls prog 151 #[.int .i64 x] w fun e w'=>e=.returned (.bool (au x))/\w'=w):=fun w=>CD.o x w
     have e2:au x=bI:=by rw[<-zI.o];simp[a1,a2]
     rw[e2]at BJ;clear a1 a2 e2;go_wp2_with (go_at_call 151;refine(BJ.o _).mono ?_;rintro e w' ⟨rfl,rfl⟩);go_meet;exact⟨rfl,rfl⟩
  case rest =>
   obtain⟨rfl,rfl⟩:=hcut;obtain⟨w2,hw2⟩:∃w2,w2=wc:=⟨_,rfl⟩;subst hw2
   cases bI with
   | true =>
    have hI:=of_decide_eq_true zI.o;have yt:Hd (∀w',Below B w w'->Rd w' R s i T->Calls prog 197 #[.pointer (some ⟨R,0,none⟩)] w' (Bo R s T E SI w')):=CI.o hI;have wL:Hd (S=match (generalizing:=false) SI with | .error e=>.error e | .ok (n,j)=>.ok (j,addN ns up ⟨4,k,[],n,[],p⟩)):=(by show _=_;rw[GR.o,if_pos hI];try rfl);clear hI CI CT CL GR;go_upto_region 8 with fail
    go_cut [13] from 59 (fun v wx=>v=.int .i64 (ns.length:Nat)/\Tr wx B T (addN ns up ⟨4,k,[],0,[],p⟩) own now/\Rd wx R s i T/\Below B w wx)
    case first =>
     go_region_with (first|(go_at_call 196;refine(CA.o 4 _ (HT2.o.gb (lg w2))).mono ?_;rintro e w3 ⟨rfl,ht3,hf3⟩))
     all_goals (
      go_wp2_with fail;go_meet;exact⟨rfl,ht3,Rd.fr (w:=w2.drew) HR2.o hf3,(nG HG2.o hB).trans (Below.trans (nG (lg w2) (Nat.le_trans hB HG2.o.size)) hf3.bel)⟩)
    case rest =>
     obtain⟨rfl,ht3,hr3,hb3⟩:=hcut;have HT3:Hd (Tr wc B T (addN ns up ⟨4,k,[],0,[],p⟩) own now):=ht3;have HB3:Hd (Below B w wc):=hb3;have HR3:Hd (Rd wc R s i T):=hr3;clear ht3 hr3 hb3 r1 r2 k0 k1;go_wp2_with (go_at_call 197;refine(yt.o _ HB3.o HR3.o).mono ?_);rintro e w4 ⟨p1,p2,p3⟩;have HT4:Hd (Tr w4 B T (addN ns up ⟨4,k,[],0,[],p⟩) own now):=HT3.o.keepR HR3.o p3;have HB4:Hd (Below B w w4):=HB3.o.trans (kz p3 hR HT3.o.base);obtain⟨N,cc,t0,⟨cs,hN⟩,hBN,n2,n3,s2,s3⟩:=HT4.o.last;have HN:Hd (w4.heap[N]?=some (.cells cs 64 (0,0))):=hN;have hnf:w4.frozen? ⟨N,ns.length*6+3,none⟩=false:=Lib.frozen_of_heap hN _;have Cm:Hd (∀t:Int,Tr (w4.setCell ⟨N,ns.length*6+3,none⟩ (.int .i64 t)) B T (addN ns up ⟨4,k,[],t,[],p⟩) own now):=s3;have hnl:ns.length<ns.length+1:=by omega
     cases SI with
     | error ec =>
      obtain⟨ec1,ec2⟩:=ec;obtain⟨v,rfl,hv,jj,hjj⟩:=p2 ec1 ec2 rfl;obtain⟨-,-,hrr,-⟩:=hjj.cells;have dU:Hd (aV w4 v E ec1 ec2):=hv;have az:Hd (S=.error (ec1,ec2)):=wL.o;clear p1 p2 p3 hv hN s2 s3 hjj;go_wp2;refine bodyPost_ret (results_tmp (t:=8) rfl _ _ _) rfl ?_;rw[az.o];exact⟨fun j ns hh=>(by cases hh),fun c p hh=>(by cases hh;exact⟨v,rfl,LK dU.o HN.o⟩),wI HB4.o hBN _ _⟩
     | ok q =>
      obtain⟨tx,j⟩:=q;obtain⟨rfl,hr4⟩:=p1 tx j rfl;have HR4:Hd (Rd w4 R s j T):=hr4;obtain⟨-,-,hrr,-⟩:=hr4.cells;have az:Hd (S=.ok (j,addN ns up ⟨4,k,[],tx,[],p⟩)):=wL.o;clear p1 p2 p3 hr4 hN s2 s3;go_wp2;refine bodyPost_ret (results_tmp (t:=8) rfl _ _ _) rfl ?_;rw[az.o];exact⟨fun j ns hh=>(by cases hh;exact⟨rfl,HR4.o.node HN.o,Cm.o tx⟩),fun c p hh=>(by cases hh),wI HB4.o hBN _ _⟩
   | false =>
    have hI:=of_decide_eq_false zI.o;have vI:Hd (S=if x=116\/x=102 then(match (generalizing:=false) SU with | .error e=>.error e | .ok (n,j)=>.ok (j,addN ns up ⟨5,k,[],n,[],p⟩)) else if x=91 then(if d=8 then .error (4,i) else lst s.data.toList F (i+1) ns.length (d+1) (addN ns up ⟨1,k,[],0,[],p⟩)) else .error (2,i)):=(by show _=_;rw[GR.o,if_neg hI];try rfl);clear hI GR CI zI;obtain⟨bU,TF⟩:=zN (decide (x=116\/x=102));have CO:Hd (decide (x=116\/x=102)=bU):=TF;clear TF;go_upto_region 12 with fail
    go_cut [83] from 84 (fun v wx=>v=.bool bU/\wx=w2)
    case first =>
     by_cases a1:x=116
     ·have e1:(x == 116)=true:=by simp[a1]
      have e2:bU=true:=by rw[<-CO.o];simp[a1]
      subst e2;clear a1;go_wp2;go_meet;exact⟨rfl,rfl⟩
     ·have e1:(x == 116)=false:=by simp[a1]
      have e2:(x == 102)=bU:=by rw[<-CO.o];by_cases h:x=102<;>simp[a1,h]
      clear a1;go_wp2;go_meet;exact⟨rfl,rfl⟩
    case rest =>
     obtain⟨rfl,rfl⟩:=hcut;obtain⟨w2,hw2⟩:∃w2,w2=wc:=⟨_,rfl⟩;subst hw2
     cases bU with
     | true =>
      have hU:=of_decide_eq_true CO.o;have wL:Hd (S=match (generalizing:=false) SU with | .error e=>.error e | .ok (n,j)=>.ok (j,addN ns up ⟨5,k,[],n,[],p⟩)):=(by show _=_;rw[vI.o,if_pos hU];try rfl);clear hU CL vI;go_upto_region 13 with fail
      go_cut [16] from 90 (fun v wx=>v=.int .i64 (ns.length:Nat)/\Tr wx B T (addN ns up ⟨5,k,[],0,[],p⟩) own now/\Rd wx R s i T/\Below B w wx)
      case first =>
       go_region_with (first|(go_at_call 196;refine(CA.o 5 _ (HT2.o.gb (lg w2))).mono ?_;rintro e w3 ⟨rfl,ht3,hf3⟩))
       all_goals (
        go_wp2_with fail;go_meet;exact⟨rfl,ht3,Rd.fr (w:=w2.drew) HR2.o hf3,(nG HG2.o hB).trans (Below.trans (nG (lg w2) (Nat.le_trans hB HG2.o.size)) hf3.bel)⟩)
      case rest =>
       obtain⟨rfl,ht3,hr3,hb3⟩:=hcut;have HT3:Hd (Tr wc B T (addN ns up ⟨5,k,[],0,[],p⟩) own now):=ht3;have HB3:Hd (Below B w wc):=hb3;have HR3:Hd (Rd wc R s i T):=hr3;clear ht3 hr3 hb3 r1 r2 k0 k1;go_wp2_with (go_at_call 198;refine(CT.o _ HB3.o HR3.o).mono ?_);rintro e w4 ⟨p1,p2,p3⟩;have HT4:Hd (Tr w4 B T (addN ns up ⟨5,k,[],0,[],p⟩) own now):=HT3.o.keepR HR3.o p3;have HB4:Hd (Below B w w4):=HB3.o.trans (kz p3 hR HT3.o.base);obtain⟨N,cc,t0,⟨cs,hN⟩,hBN,n2,n3,s2,s3⟩:=HT4.o.last;have HN:Hd (w4.heap[N]?=some (.cells cs 64 (0,0))):=hN;have hnf:w4.frozen? ⟨N,ns.length*6+3,none⟩=false:=Lib.frozen_of_heap hN _;have Cm:Hd (∀t:Int,Tr (w4.setCell ⟨N,ns.length*6+3,none⟩ (.int .i64 t)) B T (addN ns up ⟨5,k,[],t,[],p⟩) own now):=s3;have hnl:ns.length<ns.length+1:=by omega
       cases SU with
       | error ec =>
        obtain⟨ec1,ec2⟩:=ec;obtain⟨v,rfl,hv,jj,hjj⟩:=p2 ec1 ec2 rfl;obtain⟨-,-,hrr,-⟩:=hjj.cells;have dU:Hd (aV w4 v E ec1 ec2):=hv;have az:Hd (S=.error (ec1,ec2)):=wL.o;clear p1 p2 p3 hv hN s2 s3 hjj;go_wp2;refine bodyPost_ret (results_tmp (t:=8) rfl _ _ _) rfl ?_;rw[az.o];exact⟨fun j ns hh=>(by cases hh),fun c p hh=>(by cases hh;exact⟨v,rfl,LK dU.o HN.o⟩),wI HB4.o hBN _ _⟩
       | ok q =>
        obtain⟨tx,j⟩:=q;obtain⟨rfl,hr4⟩:=p1 tx j rfl;have HR4:Hd (Rd w4 R s j T):=hr4;obtain⟨-,-,hrr,-⟩:=hr4.cells;have az:Hd (S=.ok (j,addN ns up ⟨5,k,[],tx,[],p⟩)):=wL.o;clear p1 p2 p3 hr4 hN s2 s3;go_wp2;refine bodyPost_ret (results_tmp (t:=8) rfl _ _ _) rfl ?_;rw[az.o];exact⟨fun j ns hh=>(by cases hh;exact⟨rfl,HR4.o.node HN.o,Cm.o tx⟩),fun c p hh=>(by cases hh),wI HB4.o hBN _ _⟩
     | false =>
      have hU:=of_decide_eq_false CO.o;have jh:Hd (S=if x=91 then(if d=8 then .error (4,i) else lst s.data.toList F (i+1) ns.length (d+1) (addN ns up ⟨1,k,[],0,[],p⟩)) else .error (2,i)):=(by show _=_;rw[vI.o,if_neg hU];try rfl);clear hU vI CT CO;have HB2:Hd (Below B w w2):=nG HG2.o hB
      by_cases c91:x=91
      ·have e91:(x == 91)=true:=by simp[c91]
       by_cases d8:d=8
       ·have e8:((d:Int) == 8)=true:=by simp[d8]
        have az:Hd (S=.error (4,i)):=by show _=_;rw[jh.o,if_pos c91,if_pos d8]
        have hma:=zH.o w2 HB2.o;have Mc:=CW.o;obtain⟨ty,hty⟩:=zN ((E 4).1);obtain⟨pv,hpv⟩:=zN ((E 4).2);rw[hty,hpv]at hma Mc;have CW1:Hd (∀w,Calls prog 195 #[.iface ty pv,.int .i64 (i:Nat)] w fun e w'=>(∃v,e=.returned v/\aV w' v E 4 i)/\w.grownBy w' none):=Mc;clear Mc CW zH hty hpv c91 d8 CL jh;go_wp2;go_region_with (first|(go_at_call 195;refine(CW1.o _).mono ?_;rintro e w5 ⟨⟨v,rfl,hv⟩,hg5⟩))
        all_goals (
         go_wp2;refine bodyPost_ret (results_tmp (t:=8) rfl _ _ _) rfl ?_;rw[az.o];exact⟨fun j ns hh=>(by cases hh),fun c p hh=>(by cases hh;exact⟨v,rfl,hv⟩),HB2.o.trans ((nG (lg w2) (Nat.le_trans hB HG2.o.size)).trans (nG hg5 (Nat.le_trans hB HG2.o.size)))⟩)
       ·have e8:((d:Int) == 8)=false:=by rw[beq_eq_false_iff_ne];omega
        have az:Hd (S=lst s.data.toList F (i+1) ns.length (d+1) (addN ns up ⟨1,k,[],0,[],p⟩)):=by show _=_;rw[jh.o,if_pos c91,if_neg d8]
        have mi:=CL.o c91 d8;obtain⟨SL,TG⟩:=zN (lst s.data.toList F (i+1) ns.length (d+1) (addN ns up ⟨1,k,[],0,[],p⟩));rw[TG]at az mi;have zJ:Hd (∀w',Below B w w'->Rd w' R s i T->Tr w' B T (addN ns up ⟨1,k,[],0,[],p⟩) own now->Calls prog 199 #[.pointer (some ⟨R,0,none⟩),.int .i64 (ns.length:Nat),.int .i64 ((d:Int)+1)] w' (qX B R T s E own now SL w')):=mi;clear mi CL jh c91 d8 TG;have iO:Hd (w2.grownBy w2.drew none):=lg w2;have TI:Hd (Tr w2.drew B T ns own now):=HT2.o.gb iO.o;have dB:Hd (Rd w2.drew R s i T):=HR2.o;have zg:Hd (Below B w w2.drew):=HB2.o.trans (nG iO.o (Nat.le_trans hB HG2.o.size));have vZ:Hd (Calls prog 196 #[.pointer (some ⟨T,0,none⟩),.int .i64 (up:Nat),.int .i64 1,.agg #[.string ⟨k.toArray⟩,.int .i64 (p:Nat)]] w2.drew fun e w'=>e=.returned (.int .i64 (ns.length:Nat))/\Hd (Tr w' B T (addN ns up ⟨1,k,[],0,[],p⟩) own now/\Rd w' R s i T/\Below B w w')):=(CA.o 1 _ TI.o).mono fun e w' ⟨a,b,c⟩=>⟨a,b,dB.o.fr c,zg.o.trans c.bel⟩
        have CL3:Hd (∀w',Hd (Tr w' B T (addN ns up ⟨1,k,[],0,[],p⟩) own now/\Rd w' R s i T/\Below B w w')->Calls prog 199 #[.pointer (some ⟨R,0,none⟩),.int .i64 (ns.length:Nat),.int .i64 (IntKind.i64.wrap ((d:Int)+1))] w' fun e w''=>∃v,e=.returned v/\Hd (qX B R T s E own now SL w (.returned v) w'')):=fun w' hh=>by
         have hwd:IntKind.i64.wrap ((d:Int)+1)=(d:Int)+1:=aa2 d hd;rw[hwd];exact(zJ.o w' hh.o.2.2 hh.o.2.1 hh.o.1).mono fun e w'' hq=>aa3 hh.o.2.2 hq
        clear CA zJ CN CD CH CW zH iO TI dB zg HT2 HR2 HG2 HB2 ay kT nD eY H1 C1;go_wp2;go_region_with (first|(go_at_call 196;refine vZ.o.mono ?_;rintro e w3 ⟨rfl,h3⟩)|(go_at_call 199;refine(CL3.o _ h3).mono ?_;rintro e w5 ⟨v,rfl,hv⟩))
        all_goals (
         go_wp2;refine bodyPost_ret (results_tmp (t:=8) rfl _ _ _) rfl ?_;rw[az.o];exact hv.o)
      ·have e91:(x == 91)=false:=by simp[c91]
       have az:Hd (S=.error (2,i)):=by show _=_;rw[jh.o,if_neg c91]
       clear c91 CL jh;go_wp2_with (go_at_call 156;refine(CH.o _ HB2.o HR2.o).mono ?_;rintro e w5 ⟨⟨v,rfl,hv⟩,hg5⟩);refine bodyPost_ret (results_tmp (t:=8) rfl _ _ _) rfl ?_;rw[az.o];exact⟨fun j ns hh=>(by cases hh),fun c p hh=>(by cases hh;exact⟨v,rfl,hv⟩),HB2.o.trans (nG hg5 (Nat.le_trans hB HG2.o.size))⟩
theorem aa6:Ce 0:=by
 intro B R T s E own now i up k p d ns w _ _ _ _ _ _ _ _ _ _ _ _ _ _ hF;omega
theorem Md:∀F:Nat,∀f,f<=F->Ce f
 | 0,f,h=>by
  have:f=0:=by omega
  subst this;exact aa6
 | F+1,f,h=>by
  by_cases he:f<=F
  ·exact Md F f he
  ·have:f=F+1:=by omega
   subst this;exact aa4 F (aaX F fun f hf=>Md F f (by omega))
theorem aa7(f:Nat):Ce f:=Md f f (Nat.le_refl _)
open Go.RowKit Go.Maps Go.WideMaps Go.Joins
def mr(B R T:Nat)(s:ByteArray)(E:Int->TypeId × Value)(r:Rs Sd)(w:World)(e:Ending)(w':World):Prop :=
 (∀d,r=.ok d->e=.returned .nilIface/\Rd w' R s d.i T/\Tr w' B T d.ns d.own d.now)/\(∀c p,r=.error (c,p)->∃F,e=.returned (.iface 130 (.pointer (some ⟨F,0,none⟩)))/\aV w' (.iface 130 (.pointer (some ⟨F,0,none⟩))) E c p)/\Below B w w'
def GU(own:List Nat)(now:Nat):Rs (Nat × List Tn)->Rs Sd
 | .error e=>.error e
 | .ok (j,ns)=>.ok ⟨j,ns,own,now⟩
theorem Me(l:List UInt8)(i:Nat)(ns:List Tn)(own:List Nat)(now:Nat):rdPair l ⟨i,ns,own,now⟩ =
  match bY l i with
  | .error e=>.error e
  | .ok (k,j)=>match must l (bl l j) 61 with
   | .error e=>.error e
   | .ok j1=>match ai ns now k with
    | some _=>.error (5,i)
    | none=>GU own now (val l (2*l.length+2) (bl l j1) now k i 0 ns):=by
 unfold rdPair
 cases bY l i with
 | error e=>rfl
 | ok q =>
  obtain⟨k,j⟩:=q;simp only[]
  cases must l (bl l j) 61 with
  | error e=>rfl
  | ok j1 =>
   simp only[]
   cases ai ns now k with
   | some q=>rfl
   | none =>
    simp only[]
    cases val l (2*l.length+2) (bl l j1) now k i 0 ns with
    | error e=>rfl
    | ok q=>rfl
theorem aa8{B R T:Nat}{s:ByteArray}{E:Int->TypeId × Value}{own:List Nat}{now:Nat}{v:Rs (Nat × List Tn)}{w w' w'':World}{e:Ending}(hb:Below B w w')(h:qX B R T s E own now v w' e w''):∃u,e=.returned u/\Hd (mr B R T s E (GU own now v) w (.returned u) w''):=by
 cases v with
 | error ec =>
  obtain⟨c,p⟩:=ec;obtain⟨u,rfl,F,rfl,hF⟩:=h.2.1 c p rfl;exact⟨_,rfl,fun d hh=>(by cases hh),fun c p hh=>(by cases hh;exact⟨F,rfl,F,rfl,hF⟩),hb.trans h.2.2⟩
 | ok q =>
  obtain⟨j,ns⟩:=q;obtain⟨rfl,h1,h2⟩:=h.1 j ns rfl;exact⟨_,rfl,fun d hh=>(by cases hh;exact⟨rfl,h1,h2⟩),fun c p hh=>(by cases hh),hb.trans h.2.2⟩
theorem aa9(B R T:Nat)(s:ByteArray)(E:Int->TypeId × Value)(own:List Nat)(now i:Nat)(ns:List Tn)(w:World)(h:Rd w R s i T)(htr:Tr w B T ns own now)(G:Gl w B E)(hR:B<=R)(hi:i<=s.size)(hs:s.size<=100000)(J:Jt ns own now)(hsz:ns.length+own.length+(s.size-i)<=700000) :
  Calls prog 107 #[.pointer (some ⟨R,0,none⟩)] w (mr B R T s E (rdPair s.data.toList ⟨i,ns,own,now⟩) w):=by
 have hl:s.data.toList.length=s.size:=by simp
 have hB:B<=w.heap.size:=htr.base;have CK:Hd (Calls prog 152 #[.pointer (some ⟨R,0,none⟩)] w (Gx R s T E i (bY s.data.toList i) w)):=SB R s i T B E w h hi (by omega) G hR hB;have CS:Hd (∀k w,Rd w R s k T->k<=s.size->Calls prog 103 #[.pointer (some ⟨R,0,none⟩)] w fun e w'=>e=.returned (.tuple #[])/\Rd w' R s (bl s.data.toList k) T/\w.grownBy w' (some R)):=fun k w h1 h2=>Fg R s k T w h1 h2 (by omega)
 have CT:Hd (∀k w',Rd w' R s k T->w.grownBy w' (some R)->k<=s.size->Calls prog 109 #[.pointer (some ⟨R,0,none⟩),.int .i64 61] w' fun e w''=>(∃v,e=.returned v/\Hd ((∀q,must s.data.toList k 61=.ok q->v=.nilIface/\Rd w'' R s q T)/\(∀c p,must s.data.toList k 61=.error (c,p)->∃F,v=.iface 130 (.pointer (some ⟨F,0,none⟩))/\aV w'' v E c p)))/\w'.grownBy w'' (some R)):=fun k w' h1 hg hk =>
  (JX R s k T 61 (E 2).1 (E 2).2 w' h1 hk (by omega) (by decide) (G.gb hg hR hB).es.te).mono fun e w'' ⟨a1,a2,a3⟩=>by
   unfold must
   by_cases hx:nx s.data.toList k=61
   ·rw[if_pos hx];exact⟨⟨_,(a1 hx).1,fun q hq=>(by cases hq;exact⟨rfl,(a1 hx).2⟩),fun c p hp=>(by cases hp)⟩,a3⟩
   ·rw[if_neg hx];obtain⟨⟨v,e1,F,rfl,hF⟩,-⟩:=a2 hx;exact⟨⟨_,e1,fun q hq=>(by cases hq),fun c p hp=>(by cases hp;exact⟨F,rfl,F,rfl,hF⟩)⟩,a3⟩
 have CF:Hd (∀(k:List UInt8) w',k.length<=1048576->w.grownBy w' (some R)->Calls prog 153 #[.pointer (some ⟨T,0,none⟩),.agg #[.string ⟨k.toArray⟩,.int .i64 (i:Nat)]] w' fun e w''=>(∃v,e=.returned v/\Hd ((ai ns now k=none->v=.nilIface)/\(∀q,ai ns now k=some q->∃F,v=.iface 130 (.pointer (some ⟨F,0,none⟩))/\aV w'' v E 5 i)))/\w'.grownBy w'' none):=fun k w' hk hg =>
  (aaB B T ns own now E k i w' (htr.keepR h hg) J.kd (by have:=J.lt;omega) hk (G.gb hg hR hB).es).mono fun e w'' ⟨a1,a2,a3⟩=>by
   cases hq:ai ns now k with
   | none=>exact⟨⟨_,a1 hq,fun _=>rfl,fun q hh=>(by cases hh)⟩,a3⟩
   | some q =>
    obtain⟨v,e1,F,rfl,hF⟩:=a2 q hq;exact⟨⟨_,e1,fun hh=>(by cases hh),fun q hh=>⟨F,rfl,F,rfl,hF⟩⟩,a3⟩
 have CV:Hd (∀(k:List UInt8) j w',k.length<=1048576->j<=s.size->i<=j->ai ns now k=none->w.grownBy w' (some R)->Rd w' R s j T->Calls prog 154 #[.pointer (some ⟨R,0,none⟩),.int .i64 (now:Nat),.agg #[.string ⟨k.toArray⟩,.int .i64 (i:Nat)],.int .i64 0] w' fun e w''=>∃u,e=.returned u/\Hd (mr B R T s E (GU own now (val s.data.toList (2*s.data.toList.length+2) j now k i 0 ns)) w (.returned u) w'')):=fun k j w' hk hj hij hq hg hr =>
  (aa7 (2*s.data.toList.length+2) B R T s E own now j now k i 0 ns w' hr (htr.keepR h hg) (G.gb hg hR hB) hR hj hs J.wf J.wt J.lt (by rw[J.kd];decide) (fun _=>hq) hk (by omega) (by omega) (by omega)).mono fun e w'' hv=>aa8 (kz hg hR hB) hv
 have jR:Hd (∀x j,bY s.data.toList i=.ok (x,j)->i<j/\j<=s.size/\x.length<=1048576):=fun x j a=>by
  have:=ww s.data.toList i x j (by omega) a;omega
 have fQ:Hd (∀k,k<=s.size->k<=bl s.data.toList k/\bl s.data.toList k<=s.size):=fun k hk=>by rw[<-hl];exact jP _ k (by omega)
 have oG:Hd (∀k q,must s.data.toList k 61=.ok q->q=k+1/\k<s.size):=fun k q a=>by
  unfold must at a;split at a
  ·rename_i hx;have:=bH (l:=s.data.toList) (i:=k) (by rw[hx];decide)
   cases a
   omega
  ·cases a
 have mD:=Me s.data.toList i ns own now;obtain⟨S,hS⟩:=zN (rdPair s.data.toList ⟨i,ns,own,now⟩);rw[hS]at mD ⊢;obtain⟨KR,kQ⟩:=zN (bY s.data.toList i);rw[kQ]at mD CK jR;have HP:Hd (S=_):=mD;have nD:Hd (Tr w B T ns own now):=htr;have H0:Hd (Rd w R s i T):=h;clear mD hS kQ h htr G J;go_enter func107,ntmps107;go_wp2_with (go_at_call 152;refine CK.o.mono ?_);rintro e w1 ⟨p1,p2,p3⟩
 cases KR with
 | error ec =>
  obtain⟨ec1,ec2⟩:=ec;obtain⟨ka,kb,v,rfl,F,rfl,hF⟩:=p2 ec1 ec2 rfl;have dU:Hd (aV w1 (.iface 130 (.pointer (some ⟨F,0,none⟩))) E ec1 ec2):=⟨F,rfl,hF⟩;have az:Hd (S=.error (ec1,ec2)):=HP.o;have HBA:Hd (Below B w (w1.alloc (.cells #[.string ka,.int .i64 kb] 213))):=kz (aG p3 (World.grownBy_alloc _ _ none)) hR hB;have bK:Hd (aV (w1.alloc (.cells #[.string ka,.int .i64 kb] 213)) (.iface 130 (.pointer (some ⟨F,0,none⟩))) E ec1 ec2):=FaultV.grow dU.o (World.grownBy_alloc _ _ none);clear p1 p2 p3 hF;go_wp2;refine bodyPost_ret (results_tmp (t:=2) rfl _ _ _) rfl ?_;rw[az.o];exact⟨fun d hh=>(by cases hh),fun c p hh=>(by cases hh;exact⟨F,rfl,bK.o⟩),HBA.o⟩
 | ok q =>
  obtain⟨k,j⟩:=q;obtain⟨rfl,hr1⟩:=p1 k j rfl;obtain⟨k1,k2,k3⟩:=jR.o k j rfl;have HP2:=HP.o
  try simp only[]at HP2
  have hgA:=aG p3 (World.grownBy_alloc w1 (.cells #[.string ⟨k.toArray⟩,.int .i64 (i:Nat)] 213) none);have GV:Rd (w1.alloc (.cells #[.string ⟨k.toArray⟩,.int .i64 (i:Nat)] 213)) R s j T:=hr1.grow (World.grownBy_alloc _ _ none);have GX:=heap_alloc_new w1 (.cells #[.string ⟨k.toArray⟩,.int .i64 (i:Nat)] 213);obtain⟨K,hK⟩:=zN (w1.heap.size);rw[hK]at GX;obtain⟨w2,hw2⟩:=zN (w1.alloc (.cells #[.string ⟨k.toArray⟩,.int .i64 (i:Nat)] 213));rw[hw2]at hgA GV GX;have HG2:Hd (w.grownBy w2 (some R)):=hgA;have HR2:Hd (Rd w2 R s j T):=GV;have eY:Hd (w2.heap[K]?=some (.cells #[.string ⟨k.toArray⟩,.int .i64 (i:Nat)] 213 (0,0))):=GX;have C3:=CS.o j w2 GV k2;obtain⟨b1,b2⟩:=fQ.o j k2;obtain⟨j3,hj3⟩:=zN (bl s.data.toList j);rw[hj3]at C3 b1 b2 HP2;have MB:Hd (Calls prog 103 #[.pointer (some ⟨R,0,none⟩)] w2 fun e w'=>e=.returned (.tuple #[])/\Rd w' R s j3 T/\w2.grownBy w' (some R)):=C3
  have uy:=CT.o j3;have lW:=oG.o j3;obtain⟨MU,lN⟩:=zN (must s.data.toList j3 61);rw[lN]at uy lW HP2;have GY:Hd (∀w',Rd w' R s j3 T->w.grownBy w' (some R)->j3<=s.size->Calls prog 109 #[.pointer (some ⟨R,0,none⟩),.int .i64 61] w' fun e w''=>(∃v,e=.returned v/\Hd ((∀q,MU=.ok q->v=.nilIface/\Rd w'' R s q T)/\(∀c p,MU=.error (c,p)->∃F,v=.iface 130 (.pointer (some ⟨F,0,none⟩))/\aV w'' v E c p)))/\w'.grownBy w'' (some R)):=uy;have aba:Hd (∀q,MU=.ok q->q=j3+1/\j3<s.size):=lW;have qZ:Hd (S=_):=HP2;clear p1 p2 p3 hr1 hgA GV GX hj3 C3 uy lW lN HP2 HP jR;go_wp2_with (go_at_call 103;refine MB.o.mono ?_);rintro e w3 ⟨rfl,hr3,hg3⟩;have HR3:Hd (Rd w3 R s j3 T):=hr3;have aK:Hd (w.grownBy w3 (some R)):=dH HG2.o hg3;have jK:Hd (w3.heap[K]?=some (.cells #[.string ⟨k.toArray⟩,.int .i64 (i:Nat)] 213 (0,0))):=(hg3.block K (aB eY.o) (by simp only[ne_eq,Option.some.injEq];exact aP eY.o HR2.o (by decide))).trans eY.o
  clear hr3 hg3;go_wp2_with (go_at_call 109;refine(GY.o _ HR3.o aK.o b2).mono ?_);rintro e w4 ⟨⟨v,rfl,hv⟩,hg4⟩;have dS:Hd (w.grownBy w4 (some R)):=dH aK.o hg4;have mO:Hd (w4.heap[K]?=some (.cells #[.string ⟨k.toArray⟩,.int .i64 (i:Nat)] 213 (0,0))):=(hg4.block K (aB jK.o) (by simp only[ne_eq,Option.some.injEq];exact aP jK.o HR3.o (by decide))).trans jK.o;clear hg4
  cases MU with
  | error ec =>
   obtain⟨ec1,ec2⟩:=ec;obtain⟨F,rfl,hF⟩:=hv.o.2 ec1 ec2 rfl;have dU:Hd (aV w4 (.iface 130 (.pointer (some ⟨F,0,none⟩))) E ec1 ec2):=hF;have az:Hd (S=.error (ec1,ec2)):=qZ.o;clear hv hF;go_wp2;refine bodyPost_ret (results_tmp (t:=2) rfl _ _ _) rfl ?_;rw[az.o];exact⟨fun d hh=>(by cases hh),fun c p hh=>(by cases hh;exact⟨F,rfl,dU.o⟩),kz dS.o hR hB⟩
  | ok j4 =>
   obtain⟨rfl,hr4⟩:=hv.o.1 j4 rfl;obtain⟨m1,m2⟩:=aba.o j4 rfl;have HR4:Hd (Rd w4 R s j4 T):=hr4;have uz:=qZ.o
   try simp only[]at uz
   have GZ:Hd (S=_):=uz;have MC:=CF.o k;have MF:=CV.o k;obtain⟨KO,TJ⟩:=zN (ai ns now k);rw[TJ]at MC MF GZ;have abb:Hd (∀w',k.length<=1048576->w.grownBy w' (some R)->Calls prog 153 #[.pointer (some ⟨T,0,none⟩),.agg #[.string ⟨k.toArray⟩,.int .i64 (i:Nat)]] w' fun e w''=>(∃v,e=.returned v/\Hd ((KO=none->v=.nilIface)/\(∀q,KO=some q->∃F,v=.iface 130 (.pointer (some ⟨F,0,none⟩))/\aV w'' v E 5 i)))/\w'.grownBy w'' none):=MC;have TK:Hd (∀j w',k.length<=1048576->j<=s.size->i<=j->KO=none->w.grownBy w' (some R)->Rd w' R s j T->Calls prog 154 #[.pointer (some ⟨R,0,none⟩),.int .i64 (now:Nat),.agg #[.string ⟨k.toArray⟩,.int .i64 (i:Nat)],.int .i64 0] w' fun e w''=>∃u,e=.returned u/\Hd (mr B R T s E (GU own now (val s.data.toList (2*s.data.toList.length+2) j now k i 0 ns)) w (.returned u) w'')):=MF;obtain⟨-,-,r2,-⟩:=hr4.cells;obtain⟨q0,q1,-⟩:=iF mO.o
   clear hv hr4 qZ uz MC MF CF CV TJ;go_upto_region 8 with fail
   go_cut [6] from 22 (fun v6 wx=>Hd ((KO=none->v6=.nilIface)/\(∀q,KO=some q->∃F,v6=.iface 130 (.pointer (some ⟨F,0,none⟩))/\aV wx v6 E 5 i))/\w4.grownBy wx none)
   case first =>
    go_region_with (first|(go_at_call 153;refine(abb.o _ k3 (aG dS.o (lg w4))).mono ?_;rintro e w5 ⟨⟨v,rfl,hv⟩,hg5⟩))
    all_goals (
     go_wp2_with fail;go_meet;exact⟨hv,ah (lg w4) hg5⟩)
   case rest =>
    obtain⟨hv,hgc⟩:=hcut;have iy:Hd (w.grownBy wc (some R)):=aG dS.o hgc;have oI:Hd (Rd wc R s j4 T):=HR4.o.grow hgc;have uf:Hd (wc.heap[K]?=some (.cells #[.string ⟨k.toArray⟩,.int .i64 (i:Nat)] 213 (0,0))):=jy mO.o hgc;clear hgc r2 q0 q1
    cases KO with
    | some q =>
     obtain⟨F,rfl,hF⟩:=hv.o.2 q rfl;have dU:Hd (aV wc (.iface 130 (.pointer (some ⟨F,0,none⟩))) E 5 i):=hF;have az:Hd (S=.error (5,i)):=GZ.o;clear hv hF;go_wp2;refine bodyPost_ret (results_tmp (t:=2) rfl _ _ _) rfl ?_;rw[az.o];exact⟨fun d hh=>(by cases hh),fun c p hh=>(by cases hh;exact⟨F,rfl,dU.o⟩),kz iy.o hR hB⟩
    | none =>
     obtain rfl:=hv.o.1 rfl;have TL:j4<=s.size:=by omega
     have C6:=CS.o j4 wc oI.o TL;obtain⟨b3,b4⟩:=fQ.o j4 TL;have zK:=GZ.o
     try simp only[]at zK
     obtain⟨j6,TM⟩:=zN (bl s.data.toList j4);rw[TM]at C6 b3 b4 zK;have MG:Hd (Calls prog 103 #[.pointer (some ⟨R,0,none⟩)] wc fun e w'=>e=.returned (.tuple #[])/\Rd w' R s j6 T/\wc.grownBy w' (some R)):=C6;have CV6:Hd (∀w',w.grownBy w' (some R)->Rd w' R s j6 T->Calls prog 154 #[.pointer (some ⟨R,0,none⟩),.int .i64 (now:Nat),.agg #[.string ⟨k.toArray⟩,.int .i64 (i:Nat)],.int .i64 0] w' fun e w''=>∃u,e=.returned u/\Hd (mr B R T s E S w (.returned u) w'')):=fun w' a b=>by rw[zK];exact TK.o j6 w' k3 b4 (by omega) rfl a b
     clear hv TM C6 zK TK GZ;go_wp2_with (go_at_call 103;refine MG.o.mono ?_);rintro e w6 rfl hr6 dK;have kX:Hd (w.grownBy w6 (some R)):=dH iy.o dK;have l9:Hd (Rd w6 R s j6 T):=hr6;have hk6:=(dK.block K (aB uf.o) (by simp only[ne_eq,Option.some.injEq];exact aP uf.o oI.o (by decide))).trans uf.o;obtain⟨q0,q1,-⟩:=iF hk6;obtain⟨-,-,r2,-⟩:=hr6.cells;obtain⟨t2,-⟩:=(nD.o.keepR H0.o kX.o).two;clear hr6 dK hk6;go_wp2;go_region_with (first|(go_at_call 154;refine(CV6.o _ (aG kX.o (lg w6)) l9.o).mono ?_;rintro e w7 ⟨u,rfl,hu⟩))
     all_goals (
      go_wp2;refine bodyPost_ret (results_tmp (t:=2) rfl _ _ _) rfl ?_;exact hu.o)
open Go.RowKit Go.Maps Go.WideMaps Go.Joins
def lQ(l:List (List UInt8 × Nat)):List Value:=l.flatMap fun x=>[.string ⟨x.1.toArray⟩,.int .i64 (x.2:Nat)]
theorem TP:∀(l:List (List UInt8 × Nat)) (i:Nat) (hi:i<l.length),(lQ l)[i*2]?=some (.string ⟨l[i].1.toArray⟩)/\(lQ l)[i*2+1]?=some (.int .i64 (l[i].2:Nat))
 | a :: r,0,_=>⟨rfl,rfl⟩
 | a :: r,i+1,hi=>by
  have:=TP r i (by simpa using hi);have e:lQ (a :: r)=.string ⟨a.1.toArray⟩ :: .int .i64 (a.2:Nat) :: lQ r:=rfl;rw[e,show(i+1)*2=i*2+1+1 by omega];exact this
theorem abd(l:List (List UInt8 × Nat))(x:List UInt8 × Nat):lQ (l++[x])=lQ l++[.string ⟨x.1.toArray⟩,.int .i64 (x.2:Nat)]:=by
 unfold lQ;rw[List.flatMap_append];rfl
theorem abe{w:World}{B g c n:Nat}{l:List (List UInt8 × Nat)}(h:w.ownsRow B 213 2 (.slice (some ⟨g,0,none⟩) n c) n (lQ l))(hn:l.length=n):KyR w g l/\n<=c:=by
 rcases h.2 with⟨h1,-⟩|⟨g',cap,cur,h1,-,h3,h4,-,h6,h7⟩
 ·cases h1
 ·cases h1
  refine⟨⟨cur,h3,fun i hi=>?_⟩,h4⟩;obtain⟨a,b⟩:=TP l i hi;rw[<-h7]at a b;rw[List.getElem?_take_of_lt (by omega),Array.getElem?_toList]at a b;exact⟨a,b⟩
theorem abf:(prog.info? 213).map (fun i=>(i.zero,i.size,i.bytes))=some (some (.agg #[.string ⟨#[]⟩,.int .i64 0]),2,24):=by kernel_rfl
theorem Df(l:List UInt8)(f i:Nat)(acc:List (List UInt8 × Nat)):fP l (f+1) i acc=match bY l (bl l i) with | .error e=>.error e | .ok (k,j)=>if nx l (bl l j)=46 then fP l f (bl l j+1) (acc++[(k,bl l i)]) else .ok (acc++[(k,bl l i)],bl l j):=rfl
theorem MH{w W w3:World}{r q:Option Nat}(h:w.grownBy W r)(hg:W.grownBy w3 q)(hq:∀b,q=some b->w.heap.size<=b):w.grownBy w3 r :=
 ⟨hg.os.trans h.os,hg.tape.trans h.tape,hg.output.trans h.output,Nat.le_trans h.size hg.size,fun k hk hn=>(hg.block k (Nat.lt_of_lt_of_le hk h.size) (fun e=>by have:=hq k e.symm;omega)).trans (h.block k hk hn)⟩
def G5(R:Nat)(s:ByteArray)(T:Nat)(E:Int->TypeId × Value)(g:Rs (List (List UInt8 × Nat) × Nat))(w:World)(e:Ending)(w':World):Prop :=
 (∀l j,g=.ok (l,j)->∃b c,e=.returned (.tuple #[.slice (some ⟨b,0,none⟩) l.length c,.nilIface])/\KyR w' b l/\l.length<=c/\Rd w' R s j T)/\(∀c p,g=.error (c,p)->∃F,e=.returned (.tuple #[.slice none 0 0,.iface 130 (.pointer (some ⟨F,0,none⟩))])/\aV w' (.iface 130 (.pointer (some ⟨F,0,none⟩))) E c p)/\w.grownBy w' (some R)
theorem abg(x:List UInt8 × Nat):∀u∈([.string ⟨x.1.toArray⟩,.int .i64 (x.2:Nat)]:List Value),u.oneCell'=true:=by
 intro u hu;simp only[List.mem_cons,List.not_mem_nil,or_false]at hu
 rcases hu with rfl|rfl<;>rfl
theorem abh(R:Nat)(s:ByteArray)(i T B:Nat)(E:Int->TypeId × Value)(w:World)(h:Rd w R s i T)(hi:i<=s.size)(hs:s.size<=100000)(G:Gl w B E)(hR:B<=R)(hBw:B<=w.heap.size) :
  Calls prog 148 #[.pointer (some ⟨R,0,none⟩)] w (G5 R s T E (fP s.data.toList (s.data.toList.length+1) i []) w):=by
 have CN:Hd (∀k w,Rd w R s k T->k<=s.size->Calls prog 104 #[.pointer (some ⟨R,0,none⟩)] w fun e w'=>e=.returned (.int .i64 (nx s.data.toList k))/\w.grownBy w' none):=fun k w h1 h2=>mV R s k T w h1 h2 (by omega)
 have CS:Hd (∀k w,Rd w R s k T->k<=s.size->Calls prog 103 #[.pointer (some ⟨R,0,none⟩)] w fun e w'=>e=.returned (.tuple #[])/\Rd w' R s (bl s.data.toList k) T/\w.grownBy w' (some R)):=fun k w h1 h2=>Fg R s k T w h1 h2 (by omega)
 have CK:Hd (∀k w',Rd w' R s k T->k<=s.size->w.grownBy w' (some R)->Calls prog 152 #[.pointer (some ⟨R,0,none⟩)] w' (Gx R s T E k (bY s.data.toList k) w')):=fun k w' h1 h2 hg=>SB R s k T B E w' h1 h2 (by omega) (G.gb hg hR hBw) hR (Nat.le_trans hBw hg.size)
 have hl:s.data.toList.length=s.size:=by simp
 have fQ:Hd (∀k,k<=s.size->k<=bl s.data.toList k/\bl s.data.toList k<=s.size):=fun k hk=>by rw[<-hl];exact jP _ k (by omega)
 have jR:Hd (∀k x j,k<=s.size->bY s.data.toList k=.ok (x,j)->k<j/\j<=s.size):=fun k x j a b=>by
  have:=ww s.data.toList k x j (by omega) b;omega
 have cZ:Hd (∀k,nx s.data.toList k=46->k<s.size):=fun k a=>by
  have:=bH (l:=s.data.toList) (i:=k) (by rw[a];decide);omega
 obtain⟨i0,hi0,hii⟩:=Option.map_eq_some_iff.1 abf;simp only[Prod.mk.injEq]at hii;obtain⟨hz0,hz1,hzb⟩:=hii;obtain⟨S,hS⟩:=zN (fP s.data.toList (s.data.toList.length+1) i []);have HS:Hd (fP s.data.toList (s.data.toList.length+1) i []=S):=hS;rw[hS];have H0:Hd (Rd w R s i T):=h;clear h G hS;go_enter func148,ntmps148;go_wp2;go_loopw [2,3,4] (fun v2 v3 v4 wr=>v2=.slice none 0 0/\v3=.nilIface/\∃(kx f:Nat) (acc:List (List UInt8 × Nat)),Rd wr R s kx T/\kx<=s.size/\wr.ownsRow w.heap.size 213 2 v4 acc.length (lQ acc)/\w.grownBy wr (some R)/\s.size-kx<f/\fP s.data.toList f kx acc=S/\acc.length<=kx) (fun _ _ _ wr=>s.size-(match wr.cell? ⟨R,1,none⟩ with|some (.int _ k)=>k.toNat|_=>0))
 case atStart=>exact⟨rfl,rfl,i,s.data.toList.length+1,[],H0.o,hi,World.ownsRow_nil _ _ _ _,ax _ _,by omega,HS.o,by simp⟩
 case round =>
  obtain⟨rfl,rfl,kx,f,acc,hrd,hk,hown,hg,hf,hhd,hac⟩:=hrel;obtain⟨f,rfl⟩:∃f',f=f'+1:=⟨f-1,by omega⟩;rw[Df]at hhd;have kV:Hd (Rd wr R s kx T):=hrd;have jY:Hd (w.grownBy wr (some R)):=hg;have HOW:Hd (wr.ownsRow w.heap.size 213 2 u4 acc.length (lQ acc)):=hown;have gK:Hd ((match wr.cell? ⟨R,1,none⟩ with|some (.int _ k)=>k.toNat|_=>0)=kx):=by show _=_;rw[hrd.cells.2.1];simp
  have C1:=CS.o kx wr hrd hk;obtain⟨b1,b2⟩:=fQ.o kx hk;obtain⟨j0,hj0⟩:=zN (bl s.data.toList kx);rw[hj0]at C1 hhd b1 b2;have yj:Hd (Calls prog 103 #[.pointer (some ⟨R,0,none⟩)] wr fun e w'=>e=.returned (.tuple #[])/\Rd w' R s j0 T/\wr.grownBy w' (some R)):=C1;have x8:=jR.o j0;have MI:=CK.o j0;obtain⟨KR,kQ⟩:=zN (bY s.data.toList j0);rw[kQ]at x8 MI hhd;have uA:Hd (_=S):=hhd;have abj:Hd (∀x j,j0<=s.size->KR=.ok (x,j)->j0<j/\j<=s.size):=x8;have abk:Hd (∀w',Rd w' R s j0 T->j0<=s.size->w.grownBy w' (some R)->Calls prog 152 #[.pointer (some ⟨R,0,none⟩)] w' (Gx R s T E j0 KR w')):=MI;clear hrd hown hg hhd C1 x8 MI hj0 kQ;go_wp2_with (first|(go_at_call 103;refine yj.o.mono ?_));rintro e w2 ⟨rfl,hr2,hg2⟩;have HR2:Hd (Rd w2 R s j0 T):=hr2;have HG2:Hd (w.grownBy w2 (some R)):=dH jY.o hg2;have abl:Hd (w2.ownsRow w.heap.size 213 2 u4 acc.length (lQ acc)):=bP HOW.o fun g' cur' hh hc=>hg2.block g' (aB hc) (by simp only[ne_eq,Option.some.injEq];exact aP hc kV.o (by decide))
  clear hr2 hg2;go_wp2_with (go_at_call 152;refine(abk.o _ HR2.o b2 HG2.o).mono ?_);rintro e w3 ⟨p1,p2,p3⟩;have aK:Hd (w.grownBy w3 (some R)):=dH HG2.o p3
  cases KR with
  | error ec =>
   obtain⟨ec1,ec2⟩:=ec;obtain⟨ka,kb,v,rfl,F,rfl,hF⟩:=p2 ec1 ec2 rfl;have dU:Hd (aV w3 (.iface 130 (.pointer (some ⟨F,0,none⟩))) E ec1 ec2):=⟨F,rfl,hF⟩;have az:Hd (S=.error (ec1,ec2)):=uA.o.symm;clear p1 p2 p3 hF;have dO:Hd (w.grownBy (w3.alloc (.cells #[.string ka,.int .i64 kb] 213)) (some R)):=aG aK.o (World.grownBy_alloc _ _ none);have bK:Hd (aV (w3.alloc (.cells #[.string ka,.int .i64 kb] 213)) (.iface 130 (.pointer (some ⟨F,0,none⟩))) E ec1 ec2):=FaultV.grow dU.o (World.grownBy_alloc _ _ none);go_wp2;refine bodyPost_ret (results_tmp2 (t:=2) (u:=3) rfl _ _ _) rfl ?_;rw[az.o];exact⟨fun l j hh=>(by cases hh),fun c p hh=>(by cases hh;exact⟨F,rfl,bK.o⟩),dO.o⟩
  | ok q =>
   obtain⟨kk,j⟩:=q;obtain⟨rfl,hr3⟩:=p1 kk j rfl;obtain⟨k1,k2⟩:=abj.o kk j b2 rfl;have hown3:w3.ownsRow w.heap.size 213 2 u4 acc.length (lQ acc):=bP abl.o fun g' cur' hh hc=>p3.block g' (aB hc) (by simp only[ne_eq,Option.some.injEq];exact aP hc HR2.o (by decide))
   have HR3:Hd (Rd w3 R s j T):=hr3;have hnb:=heap_alloc_new (w3.alloc (.cells #[.string ⟨kk.toArray⟩,.int .i64 (j0:Nat)] 213)) (.cells #[.string ⟨kk.toArray⟩,.int .i64 (j0:Nat)] 213);rw[World.size_alloc]at hnb;have Ku:Hd (((w3.alloc (.cells #[.string ⟨kk.toArray⟩,.int .i64 (j0:Nat)] 213)).alloc (.cells #[.string ⟨kk.toArray⟩,.int .i64 (j0:Nat)] 213)).heap[w3.heap.size+1]?=some (.cells #[.string ⟨kk.toArray⟩,.int .i64 (j0:Nat)] 213 (0,0))):=hnb;have hsz3:w.heap.size<=w3.heap.size:=aK.o.size;have hone:=abg (kk,j0)
   try simp only[]at hone
   clear p1 p2 p3 hr3 hnb;go_wp2_with (first|(at_builtin;refine wpList_append_lies _ rfl _ _ 208 rfl w.heap.size 213 i0 _ 2 24 underlying208 hi0 hz0 hz1 hzb rfl (by decide) u4 acc.length (lQ acc) rfl ((hown3.alloc _).alloc _) ⟨w3.heap.size+1,0,none⟩ 1 1 [.string ⟨kk.toArray⟩,.int .i64 (j0:Nat)] rfl rfl (World.news_of_block Ku.o) hone (by omega) (by unfold maxLen;omega) (by omega) (by simp;omega) _ rfl ?_));intro g cap w6 hown6 hgrow hat hlt6;have pO:=(HR3.o.grow (World.grownBy_alloc w3 (.cells #[.string ⟨kk.toArray⟩,.int .i64 (j0:Nat)] 213) none)).grow (World.grownBy_alloc _ (.cells #[.string ⟨kk.toArray⟩,.int .i64 (j0:Nat)] 213) none);have hown5:=(hown3.alloc (.cells #[.string ⟨kk.toArray⟩,.int .i64 (j0:Nat)] 213)).alloc (.cells #[.string ⟨kk.toArray⟩,.int .i64 (j0:Nat)] 213);have l9:Hd (Rd w6 R s j T):=(hgrow.block R (aB pO) (fun e=>by
    obtain⟨-,cc,hcc⟩:=bz hown5 e.symm;exact aP pO hcc (by decide) rfl)).trans pO
   have kX:Hd (w.grownBy w6 (some R)):=MH (aG (aG aK.o (World.grownBy_alloc _ _ none)) (World.grownBy_alloc _ _ none)) hgrow (fun b hb=>(bz hown5 hb).1);have abm:Hd (w6.ownsRow w.heap.size 213 2 (.slice (some ⟨g,0,none⟩) (acc.length+1) cap) (acc.length+1) (lQ (acc++[(kk,j0)]))):=by
    show World.ownsRow _ _ _ _ _ _ _;rw[abd];exact hown6
   have C7:=CS.o j w6 l9.o k2;obtain⟨d1,d2⟩:=fQ.o j k2;have Dh:=uA.o
   try simp only[]at Dh
   obtain⟨j7,Di⟩:=zN (bl s.data.toList j);rw[Di]at C7 d1 d2 Dh;have MJ:Hd (Calls prog 103 #[.pointer (some ⟨R,0,none⟩)] w6 fun e w'=>e=.returned (.tuple #[])/\Rd w' R s j7 T/\w6.grownBy w' (some R)):=C7;have TQ:Hd (nx s.data.toList j7=46->j7<s.size):=cZ.o j7;have C8:Hd (∀w',Rd w' R s j7 T->Calls prog 104 #[.pointer (some ⟨R,0,none⟩)] w' fun e w''=>e=.returned (.int .i64 (nx s.data.toList j7))/\w'.grownBy w'' none):=fun w' hh=>CN.o j7 w' hh d2
   obtain⟨y,hy⟩:=zN (nx s.data.toList j7);rw[hy]at Dh TQ C8;have TR:Hd (_=S):=Dh;clear hown6 hgrow hat hlt6 pO hown5 hown3 C7 Dh Di hy hone hsz3;go_wp2_with (first|(go_at_call 103;refine MJ.o.mono ?_));rintro e w7 ⟨rfl,TS,lK⟩;have vX:Hd (Rd w7 R s j7 T):=TS;have oJ:Hd (w.grownBy w7 (some R)):=dH kX.o lK;have abn:Hd (w7.ownsRow w.heap.size 213 2 (.slice (some ⟨g,0,none⟩) (acc.length+1) cap) (acc.length+1) (lQ (acc++[(kk,j0)]))):=bP abm.o fun g' cur' hh hc=>lK.block g' (aB hc) (by simp only[ne_eq,Option.some.injEq];exact aP hc l9.o (by decide))
   clear TS lK;go_wp2_with (go_at_call 104;refine(C8.o _ vX.o).mono ?_);rintro e w8 ⟨rfl,nP⟩;have uq:Hd (Rd w8 R s j7 T):=vX.o.grow nP;have F9:Hd (w.grownBy w8 (some R)):=aG oJ.o nP;have TT:Hd (w8.ownsRow w.heap.size 213 2 (.slice (some ⟨g,0,none⟩) (acc.length+1) cap) (acc.length+1) (lQ (acc++[(kk,j0)]))):=bP abn.o fun g' cur' hh hc=>nP.block g' (aB hc) (by simp)
   clear nP;have nH:Hd ((acc++[(kk,j0)]).length=acc.length+1):=by show _=_;simp
   by_cases c46:y=46
   ·have e46:(y != 46)=false:=by simp[c46]
    have hjl:=TQ.o c46;have iE:Hd (fP s.data.toList f (j7+1) (acc++[(kk,j0)])=S):=by
     have:=TR.o;rw[if_pos c46]at this;exact this
    obtain⟨-,r1,-,rf⟩:=uq.o.cells;have rf1:=rf 1;have TU:Hd (Rd (w8.setCell ⟨R,1,none⟩ (.int .i64 ((j7:Int)+1))) R s (j7+1) T):=uq.o.set (j7+1);have HO9:Hd ((w8.setCell ⟨R,1,none⟩ (.int .i64 ((j7:Int)+1))).ownsRow w.heap.size 213 2 (.slice (some ⟨g,0,none⟩) (acc.length+1) cap) (acc++[(kk,j0)]).length (lQ (acc++[(kk,j0)]))):=by
     show World.ownsRow _ _ _ _ _ _ _;rw[nH.o];exact bP TT.o fun g' cur' hh hc=>heap_setCell_other _ _ _ _ (aP hc uq.o (by decide))
    clear c46 rf;go_wp2;go_roundw
    case rel=>exact⟨rfl,rfl,j7+1,f,acc++[(kk,j0)],TU.o,by omega,HO9.o,aQ F9.o 1 _,by omega,iE.o,by rw[nH.o];omega⟩
    case measure =>
     rw[gK.o,TU.o.cells.2.1];simp;omega
   ·have e46:(y != 46)=true:=by simp[c46]
    have az:Hd (S=.ok (acc++[(kk,j0)],j7)):=by
     have:=TR.o;rw[if_neg c46]at this;exact this.symm
    clear c46;go_wp2;refine bodyPost_ret (results_tmp2 (t:=2) (u:=3) rfl _ _ _) rfl ?_;rw[az.o];obtain⟨hky,hcp⟩:=abe TT.o nH.o;exact⟨fun l j hh=>(by cases hh;exact⟨g,cap,by rw[nH.o];rfl,hky,by rw[nH.o];exact hcp,uq.o⟩),fun c p hh=>(by cases hh),F9.o⟩
open Go.RowKit Go.Maps Go.WideMaps Go.Joins
theorem G6(l:List UInt8):∀(f i:Nat) (acc ks:List (List UInt8 × Nat)) (j:Nat),i<=l.length->(∀x∈acc,x.1.length<=l.length)->fP l f i acc=.ok (ks,j)->(∀x∈ks,x.1.length<=l.length)/\acc.length<ks.length/\ks.length+i<=acc.length+j/\j<=l.length:=by
 intro f
 induction f with
 | zero=>intro i acc ks j hi ha h;cases h
 | succ f ih =>
  intro i acc ks j hi ha h;rw[Df]at h;have b1:=jP l i hi
  cases hk:bY l (bl l i) with
  | error e=>rw[hk]at h;cases h
  | ok q =>
   obtain⟨k,j1⟩:=q;rw[hk]at h;simp only[]at h;obtain⟨k1,k2,k3⟩:=ww l (bl l i) k j1 b1.2 hk;have b2:=jP l j1 k2;have ha':∀x∈acc++[(k,bl l i)],x.1.length<=l.length:=fun x hx=>by
    rcases List.mem_append.1 hx with hx|hx
    ·exact ha x hx
    ·rw[List.mem_singleton.1 hx];exact k3
   split at h
   ·rename_i hx;have hlt:=bH (l:=l) (i:=bl l j1) (by rw[hx];decide);obtain⟨a,b,c,d⟩:=ih (bl l j1+1) (acc++[(k,bl l i)]) ks j (by omega) ha' h;rw[List.length_append,List.length_singleton]at b c;exact⟨a,by omega,by omega,d⟩
   ·cases h
    refine⟨ha',by simp,?_,b2.2⟩;rw[List.length_append,List.length_singleton];omega
def wM(j:Nat)(own:List Nat):Rs (Nat × List Tn)->Rs Sd
 | .error e=>.error e
 | .ok (t,ns)=>.ok ⟨j,ns,t :: own,t⟩
theorem Dj(l:List UInt8)(i:Nat)(ns:List Tn)(own:List Nat)(now:Nat)(many:Bool)(hm:decide (nx l (i+1)=91)=many):gI l ⟨i,ns,own,now⟩ =
  match fP l (l.length+1) (if many=true then i+2 else i+1) [] with
  | .error e=>.error e
  | .ok (ks,j)=>match must l j 93 with
   | .error e=>.error e
   | .ok j1=>match (if many=true then must l j1 93 else .ok j1) with
    | .error e=>.error e
    | .ok j2=>wM j2 own (way many own ks 0 ns):=by
 unfold gI;simp only[hm]
 cases fP l (l.length+1) (if many=true then i+2 else i+1) [] with
 | error e=>rfl
 | ok q =>
  obtain⟨ks,j⟩:=q;simp only[]
  cases must l j 93 with
  | error e=>rfl
  | ok j1 =>
   simp only[]
   cases (if many=true then must l j1 93 else .ok j1) with
   | error e=>rfl
   | ok j2 =>
    simp only[]
    cases way many own ks 0 ns with
    | error e=>rfl
    | ok q=>rfl
theorem abo{B R T:Nat}{s:ByteArray}{E:Int->TypeId × Value}{own:List Nat}{j:Nat}{v:Rs (Nat × List Tn)}{w w' w'':World}{e:Ending}(hb:Below B w w')(hr:Rd w' R s j T)(h:Sz B T own E v w' e w''):∃u,e=.returned u/\Hd (mr B R T s E (wM j own v) w (.returned u) w''):=by
 cases v with
 | error ec =>
  obtain⟨c,p⟩:=ec;obtain⟨u,rfl,F,rfl,hF⟩:=h.2.1 c p rfl;exact⟨_,rfl,fun d hh=>(by cases hh),fun c p hh=>(by cases hh;exact⟨F,rfl,F,rfl,hF⟩),hb.trans h.2.2.bel⟩
 | ok q =>
  obtain⟨t,ns⟩:=q;obtain⟨rfl,h1⟩:=h.1 t ns rfl;exact⟨_,rfl,fun d hh=>(by cases hh;exact⟨rfl,hr.fr h.2.2,h1⟩),fun c p hh=>(by cases hh),hb.trans h.2.2.bel⟩
end Go.Proofs.YtnnbgjaphfhibaaGreatDoor
