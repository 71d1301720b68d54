import Derived.Test.YteciokcdpadmpaaGreatDoorS32
import Derived.Test.YteciokcdpadmpaaGreatDoorS31
set_option linter.all false
set_option maxRecDepth 100000
set_option maxHeartbeats 0
open Go.Proofs.Tryz
namespace Go.Proofs.YteciokcdpadmpaaGreatDoor
open Go.RowKit Go.Maps Go.Joins
theorem aeQ:(prog.info? 53).map (fun i=>(i.zero,i.size,i.bytes))=some (some (.slice none 0 0),1,24):=by kernel_rfl
theorem aeR(n:Nat)(hn:n<=1048576)(W:World):(Instr.makeSlice 79 (.int .i64 (n:Int)) (.int .i64 (n:Int))).run prog W=.ok (.slice (some ⟨W.heap.size,0,none⟩) n n) (W.alloc (.cells (List.replicate n (Value.slice none 0 0)).toArray 53)):=by
 obtain⟨i0,hi0,hii⟩:=Option.map_eq_some_iff.1 aeQ;simp only[Prod.mk.injEq]at hii;obtain⟨hz0,hz1,hzb⟩:=hii;have:=run_make W 79 53 i0 (.slice none 0 0) underlying79 hi0 hz0 .i64 .i64 (n:Int) (n:Int) (by omega) (Int.le_refl _) (by rw[hzb];omega) (by omega);rw[this,hz1];have e:((n:Int)).toNat=n:=by omega
 rw[e,Nat.mul_one];have e2:(Value.slice none 0 0).cells=#[.slice none 0 0]:=rfl;rw[e2,PL]
theorem aeS(w:World):(Instr.makeMap 80 none).run prog w=.ok (.map (some w.heap.size)) (w.alloc (.map #[] 0)):=by kernel_rfl
theorem aeT(w:World):(Instr.makeMap 81 none).run prog w=.ok (.map (some w.heap.size)) (w.alloc (.map #[] 0)):=by kernel_rfl
def MI(N:List Nd)(L:List Re)(w:World)(e:Ending)(w':World):Prop:=∃(B S M nb Mc:Nat) (po:Option Addr) (pc:Nat) (P:List Pl) (x0:Pl) (rv:Value) (f:Int),e=.returned (.pointer (some ⟨S,0,none⟩))/\(w.heap.size<=S/\w.heap.size<=M/\w.heap.size<=B/\B<=w'.heap.size/\¬S=M/\¬Xb B S M nb)/\(P.length=L.length/\dO N L x0/\∀j (h1:j<L.length) (h2:j<P.length),dO L[j].nd L P[j])/\Dy B S M (.slice po P.length pc) (.slice (some ⟨nb,0,none⟩) L.length L.length) (.map (some Mc)) (ed [] (N.map (·.n))) [] 0 x0.bar rv (.slice none 0 0) f w'/\(∀w'',Fx (Xb B S M) w' w''->Ro L.length P (jG L) (fun x k=>aZ L k=x) B S M nb Mc (.slice po P.length pc) w'')/\w.grownBy w' none
theorem aeU(no lo oo:Option Addr)(nc lc oc:Nat)(N:List Nd)(L:List Re)(O:List En)(fu:Int)(w:World)(h:NdS w (.slice no N.length nc) N)(h':ReS w (.slice lo L.length lc) L)(ho:EnS w (.slice oo O.length oc) O)(hvo:∀x∈L,okV x.ve=true)(hr:∀y∈N,okR y.r=true)(hrr:∀x∈L,∀y∈x.nd,okR y.r=true)(hN:N.length<=1048576)(hL:L.length<=64)(hLN:∀x∈L,x.nd.length<=64)(hS:∀y∈N,y.n.size<2 ^ 60/\y.r.size<2 ^ 60)(hSS:∀x∈L,∀y∈x.nd,y.n.size<2 ^ 60/\y.r.size<2 ^ 60)(hV:∀x∈L,x.ve.size<2 ^ 60/\x.nm.size<2 ^ 60)(hO:O.length<=1048576)(hOV:∀x∈O,x.ve.size<2 ^ 60)(hfu:fu<9223372036854775808) :
  Calls prog 14 #[.slice no N.length nc,.slice lo L.length lc,.slice oo O.length oc,.int .i64 fu] w (MI N L w):=by
 have CP:Hd (Calls prog 25 #[.slice no N.length nc,.slice lo L.length lc] w fun e w'=>∃(nam bar:Nat) (mo po:Option Addr) (mn mc pc:Nat),e=.returned (.agg #[.int .u64 (nam:Nat),.int .u64 (bar:Nat),.slice mo mn mc,.slice po L.length pc])/\Hd (∃(x:Pl) (Q:List Pl),x.bar=bar/\PlS w' (.slice po L.length pc) Q/\dO N L x/\Q.length=L.length/\(∀j (h1:j<L.length) (h2:j<Q.length),dO L[j].nd L Q[j])/\w.grownBy w' none)):=(UV no lo nc lc N L w h h' hvo hr hrr hN hL (fun x hx=>by have:=hLN x hx;omega) hS hSS (fun x hx=>(hV x hx).1)).mono fun e w' ⟨x,Q,mv,pv,h1,h2,h3,h4,h5,h6,h7⟩=>by
  obtain⟨po,pc,rfl⟩:=Fp h3;obtain⟨mo,mn,mc,rfl⟩:∃o n c,mv=.slice o n c:=by
   rcases h2 with⟨rfl,-⟩|⟨a,cap,rfl,-⟩
   ·exact⟨_,_,_,rfl⟩
   ·exact⟨_,_,_,rfl⟩
  rw[h5]at h1 h3;exact⟨x.nam,x.bar,mo,po,mn,mc,pc,h1,x,Q,rfl,h3,h4,h5,h6,h7⟩
 have HN:=ae h;have HL:=ae h';have HO:=ae ho;have HH:=ae (And.intro hN (And.intro hLN (And.intro hS (And.intro hSS (And.intro hV (And.intro hO hOV))))));clear h h' ho hvo hr hrr hN hLN hS hSS hV hO hOV;go_enter func14,ntmps14;go_wp2_with (first|(go_at_call 25;refine CP.o.mono ?_));rintro e w1 ⟨nam,bar,mo,po,mn,mc,pc,rfl,hp⟩;obtain⟨x0,P,hbar,hpl,hx0,hPl,Vf,hg1⟩:=hp.o;have HP:=ae (And.intro hbar (And.intro hpl (And.intro hx0 (And.intro hPl Vf))));have bJ:=ae hg1;clear hp hbar hpl hx0 Vf hg1;go_wp2;obtain⟨g1,hg⟩:=zN w1.heap.size;obtain⟨W2,hW2⟩:=zN (w1.alloc (.cells #[.int .u64 (nam:Int),.int .u64 (bar:Int),.slice mo mn mc,.slice po L.length pc] 72));have hb2:W2.heap[g1]?=some (.cells #[.int .u64 (nam:Int),.int .u64 (bar:Int),.slice mo mn mc,.slice po L.length pc] 72 (0,0)):=by rw[<-hW2,<-hg];exact heap_alloc_new w1 _
 have d1:W2.cell? ⟨g1,1,none⟩=some (.int .u64 (bar:Int)):=by rw[ah hb2];rfl
 have d3:W2.cell? ⟨g1,3,none⟩=some (.slice po L.length pc):=by rw[ah hb2];rfl
 have HG2:Hd (w1.grownBy W2 none):=by rw[<-hW2];exact aj (ak w1 none) _
 obtain⟨G,hG⟩:=zN (W2.heap.size);have D6:=ae hG;have hmk:=aeR L.length (by omega);have hmc:=aeS;have hmu:=aeT;have HK:Hd (∀U,W2.grownBy U none->U.cell? ⟨g1,1,none⟩=some (.int .u64 (bar:Int))/\U.cell? ⟨g1,3,none⟩=some (.slice po L.length pc)):=fun U hU=>⟨hU.cell d1 (by simp),hU.cell d3 (by simp)⟩
 rw[hW2,hg];clear hW2 hb2
 go_cut [10] from 15 (Sm L (.slice po L.length pc) bar G W2)
 case first =>
  go_region_held3 (fun u=>u.cell? ⟨g1,1,none⟩=some (.int .u64 (bar:Int))/\u.cell? ⟨g1,3,none⟩=some (.slice po L.length pc)) ((first|exact HK.o _ (by repeat (first|exact ak _ _|refine nz ?_|refine aj ?_ _))|go_keep)) (fail)
  all_goals (go_wp2_with fail;go_meet;exact abW D6.o (by first|exact Or.inl ⟨rfl,rfl⟩|exact Or.inr (Or.inl ⟨rfl,rfl⟩)|exact Or.inr (Or.inr ⟨rfl,rfl⟩)) (by first|exact Or.inl ⟨rfl,rfl⟩|exact Or.inr (Or.inl ⟨rfl,rfl⟩)|exact Or.inr (Or.inr ⟨rfl,rfl⟩)) (by first|exact Or.inl ⟨rfl,rfl⟩|exact Or.inr (Or.inl ⟨rfl,rfl⟩)|exact Or.inr (Or.inr ⟨rfl,rfl⟩)) (by omega) (by omega))
 case rest =>
  obtain⟨S,M,nb,Mc,f,rfl,hge,hdi,hf,hnw,hgw⟩:=hcut;have x9:=ae hnw;have hbase:w.heap.size<=w1.heap.size/\w1.heap.size<=G:=⟨bJ.o.size,by rw[<-D6.o];exact HG2.o.size⟩;have bn:=ae (ag HG2.o hgw);have CN:Hd (∀so sc (K:List Nd) w',K.length<=1048576->NdS w' (.slice so K.length sc) K->Calls prog 30 #[.slice so K.length sc] w' fun e w''=>∃g,e=.returned (.slice (some ⟨g,0,none⟩) K.length K.length)/\Hd (w'.heap.size<=g/\Nms w'' g K.length K.length (K.map (·.n))/\w'.grownBy w'' none)):=fun so sc K w' hK hN=>YY so sc K w' hN hK
  have CC:=ae (fun name w' (hg:w.grownBy w' none)=>abS lo oo lc oc L O name w' (HL.o.grow hg) (HO.o.grow hg) hL (fun x hx=>by have:=(HH.o.2.2.2.2.1 x hx).1;omega) HH.o.2.2.2.2.2.1 (fun x hx=>by have:=HH.o.2.2.2.2.2.2 x hx;omega));have aeV:=ae (fun w' (hg:w.grownBy w' none) i (hi:i<L.length)=>rG (HL.o.grow hg) hi);have gu:=ae hbase;clear hnw hgw hmk hmc hmu d1 d3 hg hG;go_wp2;go_loopw [34] (fun vi wr=>∃i km:Nat,vi=.int .i64 i/\i<=L.length/\km<=i/\Nw L S M nb Mc (.slice po L.length pc) f bar i km wr/\w1.grownBy wr none) (fun vi _=>L.length-(intOf vi).toNat)
  case atStart=>exact⟨0,0,rfl,Nat.zero_le _,Nat.le_refl _,x9.o,bn.o⟩
  case round =>
   obtain⟨i,km,rfl,hi,hkm,hnw,hgr⟩:=hrel;obtain⟨wo,hwo⟩:∃wo,wo=wr:=⟨_,rfl⟩;subst hwo;have pq:=ae hgr;have bT:=ae (ag bJ.o hgr)
   by_cases hlt:i<L.length
   ·obtain⟨a,rfl,hlc,hat⟩:=aeV.o wo bT.o i hlt;obtain⟨e0,e1,⟨v,e2,hnd⟩,e3⟩:=hat i hlt;obtain⟨so,sc,rfl⟩:∃o c,v=.slice o L[i].nd.length c:=by
     rcases hnd with⟨rfl,h⟩|⟨a,cap,rfl,-⟩
     ·exact⟨none,0,by rw[h];rfl⟩
     ·exact⟨_,_,rfl⟩
    have zQ:=ae (Dv L i hlt);have Vg:=HH.o.2.1 L[i] (List.getElem_mem _);have Vh:=(HH.o.2.2.2.2.1 L[i] (List.getElem_mem _)).2;have Vj:=ae (qp L i hlt);obtain⟨⟨nm,ve,nd,da⟩,hx⟩:∃x,L[i]=x:=⟨_,rfl⟩;rw[hx]at e0 e1 e2 e3 hnd zQ Vg Vh Vj;simp only[]at e0 e1 e2 e3 hnd zQ Vg Vh Vj;have hic:i<lc:=by omega
    obtain⟨R,hR⟩:=zN (wo.heap.size);obtain⟨WR,MJ⟩:=zN (wo.alloc (.cells #[.string nm,.string ve,.slice so nd.length sc,.string da] 52));have hgA:wo.grownBy WR none:=by rw[<-MJ];exact aj (ak wo none) _
    have MK:WR.heap[R]?=some (.cells #[.string nm,.string ve,.slice so nd.length sc,.string da] 52 (0,0)):=by rw[<-MJ,<-hR];exact heap_alloc_new wo _
    have r0:WR.cell? ⟨R,0,none⟩=some (.string nm):=by rw[ah MK];rfl
    have r2:WR.cell? ⟨R,2,none⟩=some (.slice so nd.length sc):=by rw[ah MK];rfl
    have uS:=hnw.grow hgA;have aeW:=ae uS;obtain⟨⟨-,s1,s2,-⟩,-⟩:=uS.sb.cells;have kJ:=ae hgA;have D7:Hd (nb<R/\S<R/\M<R/\Mc<R):=by
     obtain⟨cur,q1,-⟩:=hnw.row;obtain⟨D,q2,-⟩:=hnw.cd;have q3:=q2.lt;rw[<-hR];exact⟨(aB q1),(aB hnw.sb),(aB hnw.mm),q3⟩
    have C1:=ae (CN.o so sc nd WR.drew (by omega) (hnd.grow (nz hgA)));have aeX:Hd (∀w3,WR.drew.grownBy w3 none->(∃v,w3.cell? ⟨nb,i,none⟩=some v)/\w3.frozen? ⟨nb,i,none⟩=false):=fun w3 hg3=>by
     obtain⟨cur,q1,q2⟩:=((uS.grow (nz (ak WR none))).grow hg3).row;exact⟨⟨cur[i]'(by omega),by rw[ah q1];exact Array.getElem?_eq_getElem (by omega)⟩,Lib.frozen_of_heap q1 i⟩
    have ML:Hd (∀w3,WR.drew.grownBy w3 none->w3.cell? ⟨S,1,none⟩=some (.slice (some ⟨nb,0,none⟩) L.length L.length)/\w3.cell? ⟨R,2,none⟩=some (.slice so nd.length sc)):=fun w3 hg3=>⟨hg3.cell s1 (by simp),hg3.cell r2 (by simp)⟩
    have aeY:Hd (∀w3 v,WR.drew.grownBy w3 none->(w3.setCell ⟨nb,i,none⟩ v).cell? ⟨S,1,none⟩=some (.slice (some ⟨nb,0,none⟩) L.length L.length)/\(w3.setCell ⟨nb,i,none⟩ v).cell? ⟨R,2,none⟩=some (.slice so nd.length sc)):=fun w3 v hg3=>by
     have hf3:Fx (fun b=>b=nb) w3 (w3.setCell ⟨nb,i,none⟩ v):=(Fx.refl (fun b=>b=nb) w3).set (Or.inl rfl) _ _;exact⟨hf3.cell (ML.o w3 hg3).1 hdi.2.1,hf3.cell (ML.o w3 hg3).2 (by have:=D7.o;omega)⟩
    have HR:=ae hR;have HWR:=ae MJ;clear hat hnd hx hnw uS hgA MK hgr s2;go_upto_region 6 with fail
    go_region_held3 (fun u=>u.cell? ⟨S,1,none⟩=some (.slice (some ⟨nb,0,none⟩) L.length L.length)/\u.cell? ⟨R,2,none⟩=some (.slice so nd.length sc)) ((first|exact ML.o _ (by assumption)|exact aeY.o _ _ (by assumption)|go_keep)) (first|(go_at_call 30;refine C1.o.mono ?_;rintro e w3 ⟨ng,rfl,hnm⟩;have hg3:=hnm.o.2.2;obtain⟨⟨vx,zJ⟩,hfx⟩:=aeX.o w3 hg3))
    have wC:=hnm.o.1;have hlen:(jG L i).length=nd.length:=by rw[zQ.o];simp
    have Vk:Nw L S M nb Mc (.slice po L.length pc) f bar (i+1) km (w3.setCell ⟨nb,i,none⟩ (.slice (some ⟨ng,0,none⟩) nd.length nd.length)):=by
     have hq:=(aeW.o.grow (nz (ak WR none))).grow hg3;obtain⟨cur,q1,q2,q3⟩:=hnm.o.2.1;have:=hq.name (ng:=ng) (nc:=nd.length) ⟨hdi.2.1,hdi.2.2.2.1,fun e=>hdi.2.2.2.2.2 e.symm⟩ hlt (by omega) (aB q1) ?_ (fun t ht=>?_)
     ·rw[hlen]at this;exact this
     ·have h1:=kJ.o.size;have h2:=HR.o;have h3:=D7.o;have h4:WR.drew.heap.size=WR.heap.size:=rfl;refine⟨?_,?_,?_,?_⟩<;>omega
     ·rw[ah q1];have hE:∀(K:List ByteArray) (hK:K=nd.map (·.n)) (ht:t<K.length),cur[t]?=some (.string K[t]):=fun K hK ht=>by
       subst hK;exact q3 t ht (by simpa using ht)
      exact hE _ zQ.o ht
    have D8:=ae Vk;have uw:w1.grownBy (w3.setCell ⟨nb,i,none⟩ (.slice (some ⟨ng,0,none⟩) nd.length nd.length)) none:=F7 (ag (ag pq.o (nz kJ.o)) hg3) (aW (ak w3 (some nb)) _ _) (fun q hq=>by injection hq with hq;have:=hbase.2;omega);have lT:=ae uw;have r0':(w3.setCell ⟨nb,i,none⟩ (.slice (some ⟨ng,0,none⟩) nd.length nd.length)).cell? ⟨R,0,none⟩=some (.string nm):=by
     have hf3:Fx (fun b=>b=nb) w3 (w3.setCell ⟨nb,i,none⟩ (.slice (some ⟨ng,0,none⟩) nd.length nd.length)):=(Fx.refl (fun b=>b=nb) w3).set (Or.inl rfl) _ _;exact hf3.cell (hg3.cell r0 (by simp)) (by have:=D7.o;omega)
    obtain⟨W6,lX⟩:=zN (w3.setCell ⟨nb,i,none⟩ (.slice (some ⟨ng,0,none⟩) nd.length nd.length));rw[lX]at D8 lT r0' ⊢;have lS:=ae (ag bJ.o lT.o);have Vl:WR.heap.size<=W6.heap.size:=by
     rw[<-lX];have h1:=hg3.size;have h2:(w3.setCell ⟨nb,i,none⟩ (.slice (some ⟨ng,0,none⟩) nd.length nd.length)).heap.size=w3.heap.size:=by simp[World.setCell]
     have h4:WR.drew.heap.size=WR.heap.size:=rfl;omega
    have jB:=ae Vl;obtain⟨D,hown,hall⟩:=D8.o.cd;have Gp:=ae hown.isMap;have lg:=ae hall;have hkey:=FN (x:=nm) (by unfold maxLen;omega);obtain⟨v0,cs0,hv0,-⟩:=hall nm;obtain⟨hs,Vm⟩:=zN (Maps.has D (kT nm));have KA:Hd (∀W:World,W.heap=W6.heap->(Instr.lookup 80 (.map (some Mc)) (.string nm) true).run prog W=.ok (.tuple #[v0,.bool hs]) W):=fun W hW=>by
     obtain⟨es,cl,q1,q⟩:=hown;obtain⟨v',ps,hrun,hv'⟩:=World.ownsMap.look_ok (w:=W) ⟨es,cl,by rw[hW];exact q1,q⟩ keyS underlying80 (Sr _) (show oD (.slice none 0 0)=some (Dl,[]) from rfl) hkey;rw[QG hv' hv0,Vm]at hrun;exact hrun
    have HUP:Hd (∀w5 (g n c:Nat),W6.grownBy w5 none->∃w9,(Instr.mapUpdate 80 (.map (some Mc)) (.string nm) (.slice (some ⟨g,0,none⟩) n c)).run prog w5=.ok () w9/\w9.ownsMap prog 9 oD Mc (km+1) (D.put (kT nm) (.agg [mM n,mM c,mM g,mM 0]))/\w5.grownBy w9 (some Mc)):=fun w5 g n c hg=>(hown.kept hg (by simp)).update keyS underlying80 (by unfold maxLen;omega) hkey rfl
    have hrun:=fun q=>KA.o (W6.drewN q) rfl
    obtain⟨⟨-,-,s2,-⟩,-⟩:=D8.o.sb.cells;clear lX hown hall hv0 Vm hkey Vl Vk uw hg3 zJ hfx wC hlen hnm s1 r2 r0
    cases hs with
    | true =>
     go_wp2;go_quiet (fail);go_wp2;exact⟨⟨i+1,km,by go_num,by omega,by omega,D8.o.grow (aG (ak W6 none) _),aG lT.o _⟩,by simp[intOf];omega⟩
    | false =>
     go_wp2;go_quiet (fail);go_upto_region 9 with fail
     obtain⟨W7,MM⟩:=zN (W6.drewN nq);have gK:W6.grownBy W7 none:=by rw[<-MM];exact aG (ak W6 none) _
     have yT:=ae gK;have t2:=gK.cell s2 (by simp);have t0:=gK.cell r0' (by simp);have C3:=ae (CC.o nm W7.drew (ag lS.o (nz gK)));have uD:Hd (∀w5,W7.drew.grownBy w5 none->w5.cell? ⟨S,2,none⟩=some (.map (some Mc))/\w5.cell? ⟨R,0,none⟩=some (.string nm)):=fun w5 hg5=>⟨hg5.cell t2 (by simp),hg5.cell t0 (by simp)⟩
     have Ie:Hd (∀w5 w9,W7.drew.grownBy w5 none->w5.grownBy w9 (some Mc)->w9.cell? ⟨S,2,none⟩=some (.map (some Mc))/\w9.cell? ⟨R,0,none⟩=some (.string nm)):=fun w5 w9 hg5 nI=>⟨nI.cell (uD.o w5 hg5).1 (fun e=>hdi.2.2.1 (Option.some.inj e)),nI.cell (uD.o w5 hg5).2 (fun e=>by have h1:R=Mc:=Option.some.inj e;have:=D7.o;omega)⟩
     rw[MM];clear hrun MM gK s2 r0'
     go_region_held3 (fun u=>u.cell? ⟨S,2,none⟩=some (.map (some Mc))/\u.cell? ⟨R,0,none⟩=some (.string nm)) ((first|exact uD.o _ (by assumption)|exact Ie.o _ _ (by assumption) (by assumption)|go_keep)) (first|(go_at_call 31;refine C3.o.mono ?_;rintro e w5 ⟨g,c,cs,rfl,q1,q2,q3,q4,q5,hg5⟩;obtain⟨w9,aeZ,Vo,nI⟩:=HUP.o w5 g cs.length c (ag yT.o (ag (nz (ak W7 none)) hg5))))
     have Vp:=D8.o.grow (ag yT.o (ag (nz (ak W7 none)) hg5));have Vq:Nw L S M nb Mc (.slice po L.length pc) f bar (i+1) (km+1) w9:=by
      refine Vp.cand ⟨hdi.2.2.1,hdi.2.2.2.2.1,hdi.2.2.2.2.2⟩ Gp.o (fun x=>?_) (x:=nm) (v:=.slice (some ⟨g,0,none⟩) cs.length c) (cs:=cs) rfl ?_ q4 q5 Vo nI
      ·obtain⟨v,cs',k1,k2,k3⟩:=lg.o x;exact⟨v,cs',k1,k2.fx ((Fx.refl (fun _=>False) W6).gb (ag yT.o (ag (nz (ak W7 none)) hg5)) (fun b e=>by cases e)) (fun _ _ _ h=>h),k3⟩
      ·rcases q3 with⟨e,-⟩|⟨a',cap,e,h1,h2⟩
       ·cases e
       ·injection e with e1 e2 e3
        cases e1
        subst e3;refine Or.inr ⟨g,c,rfl,h1,q2,?_,fun j hj=>by have:=h2 j hj;rw[wB]at this;exact this⟩;have h3:=D7.o;have h4:=jB.o;have h5:=yT.o.size;have h6:=kJ.o.size;have h7:=HR.o;have h8:W7.drew.heap.size=W7.heap.size:=rfl;refine⟨?_,?_,?_,?_⟩<;>omega
     have hgE:=F7 (ag lT.o (ag yT.o (ag (nz (ak W7 none)) hg5))) nI (fun q hq=>by injection hq with hq;have:=hbase.2;omega);have HE:=ae (And.intro Vq hgE);clear Vp Vq hgE Vo nI hg5 q1 q2 q3 q4 q5 aeZ;go_wp2;exact⟨⟨i+1,km+1,by go_num,by omega,by omega,HE.o.1,HE.o.2⟩,by simp[intOf];omega⟩
   ·obtain rfl:i=L.length:=by omega
    have C4:=ae (CN.o no nc N wo HH.o.1 (HN.o.grow bT.o));have D9:=ae hnw;clear hnw hgr;go_wp2_with (go_at_call 30;refine C4.o.mono ?_);rintro e w2 ⟨ng,rfl,hnm⟩;have hg2:=hnm.o.2.2;obtain⟨cur,q1,q2,q3⟩:=hnm.o.2.1;have wC:=hnm.o.1;have uS:=D9.o.grow hg2;have hlen:(N.map (·.n)).length=N.length:=by simp
    have hlt4:S<wo.heap.size/\M<wo.heap.size/\nb<wo.heap.size/\Mc<wo.heap.size:=by
     obtain⟨cur,q1,-⟩:=D9.o.row;obtain⟨D,q2,-⟩:=D9.o.cd;exact⟨(aB D9.o.sb),(aB D9.o.mm),(aB q1),q2.lt⟩
    have CL:Hd (Calls prog 32 #[.pointer (some ⟨S,0,none⟩),.slice (some ⟨ng,0,none⟩) N.length N.length] w2 fun e w'=>(∃v,e=.returned v)/\Hd (MI N L w (.returned (.pointer (some ⟨S,0,none⟩))) w')):=by
     have:=QB w2.heap.size S M ng N.length (.slice po L.length pc) (.slice (some ⟨nb,0,none⟩) L.length L.length) (.map (some Mc)) (.slice none 0 0) (.slice none 0 0) f 0 bar [] (N.map (·.n)) w2 uS.sb (World.ownsRow_nil _ _ _ _) (abU uS.mm) hdi.1 (Nat.le_refl _) (fun t ht=>by rw[ah q1];exact q3 t ht (by rw[hlen]at ht;exact ht)) (by
      rintro(h|h|h)
      ·omega
      ·omega
      ·cases h) (by rw[hlen];exact Nat.le_refl _) (fun x hx=>by
       obtain⟨y,hy,rfl⟩:=List.mem_map.1 hx;have:=(HH.o.2.2.1 y hy).1;unfold maxLen;omega) (by rw[hlen];have:=HH.o.1;simpa using this)
     rw[hlen]at this;refine this.mono ?_;rintro e w3 ⟨bs,bl,rv',rfl,-,k1,k2,k3,k4,k5⟩;refine⟨⟨_,rfl⟩,?_⟩;obtain⟨p1,p2,p3,p4,p5⟩:=HP.o;have k4':Fx (Xb w2.heap.size S M) w2 w3:=k4.mono fun b hb=>by
      rcases hb with h|h|h
      ·exact Or.inl h
      ·exact Or.inr (Or.inl h)
      ·cases h
     have hsz2:=hg2.size;have hs3:=k4.size;have hb1:=hbase.1;have hb2:=hbase.2;have Ea:=ag pq.o hg2;have ae0:=Ea.size;have keep:∀w'',Fx (Xb w2.heap.size S M) w2 w''->w1.grownBy w'' none:=fun w'' hf=>⟨hf.os.trans Ea.os,hf.tape.trans Ea.tape,hf.output.trans Ea.output,Nat.le_trans ae0 hf.size,fun b hb _=>(hf.block b (by omega) (fun h=>by
      rcases h with h|h|h<;>omega)).trans (Ea.block b hb (by simp))⟩
     subst p1;rw[<-p4]at p2;refine⟨w2.heap.size,S,M,nb,Mc,po,pc,P,x0,rv',f,rfl,⟨by omega,by omega,by omega,hs3,hdi.1,?_⟩,⟨p4,p3,p5⟩,?_,fun w'' hf=>?_,ag bJ.o (keep w3 k4')⟩
     ·rintro(h|h|h)<;>omega
     ·exact⟨by rw[p4];exact k1,hf.1,hf.2,k2,World.ownsRow_nil _ _ _ _,k3⟩
     ·have Vr:=k4'.trans hf;refine Nw.ro (km:=km) (f:=f) (bar:=x0.bar) ?_ rfl ⟨fun e=>hdi.2.1 e.symm,fun e=>hdi.2.2.2.1 e.symm,fun e=>hdi.2.2.1 e.symm,fun e=>hdi.2.2.2.2.1 e.symm⟩ (p2.grow (keep w'' Vr)) Vr;rw[p4];exact uS
    clear hg2 q1 q2 q3 wC uS hlen hlt4 hnm;go_wp2_with (go_at_call 32;refine CL.o.mono ?_);rintro e w3 ⟨⟨v,rfl⟩,hpost⟩;go_wp2;go_ret;exact hpost.o
open Go.RowKit Go.Maps
def ae1(N:List Nd)(L:List Re)(w:World)(e:Ending)(w':World):Prop:=w.grownBy w' none/\∃(o:Option Addr) (c:Nat) (C:List Nat) (E:Int),e=.returned (.tuple #[.slice o C.length c,.int .i64 E])/\((¬E=0/\C=[]/\(fU N L=0\/E=fU N L))\/(E=0/\fU N L=0/\IS w' (.slice o C.length c) (C.map fun(k:Nat)=>(k:Int))/\iO N L (C.map fun(k:Nat)=>(k:Int))/\(C.Pairwise fun a b=>cT (aZ L a) (aZ L b)<=0)/\(C.map (aZ L)).Nodup/\C.length<=64/\∀k∈C,k<L.length))
def MO(N:List Nd)(L:List Re)(S:Nat)(w:World)(e:Ending)(w':World):Prop:=w.grownBy w' none/\(e=JG\/e=.returned (.bool false)\/(e=.returned (.bool true)/\∃(ch:List Nat) (B:Nat) (pv nv cm rv im cv:Value) (f:Int) (A D:Nat),Sb w' S pv nv cm rv im cv f A D/\w'.ownsRow B 3 1 cv ch.length (ch.map fun(j:Nat)=>Value.int .i64 (j:Int))/\ch.length<=64/\(∀k∈ch,k<L.length)/\(ch.map (aZ L)).Nodup/\∀C:List Nat,C.Perm ch->iO N L (C.map fun(k:Nat)=>(k:Int))))
theorem ae2{N:List Nd}{L:List Re}{w wi:World}{e:Ending}(hN:N.length<=1040000)(hf:fU N L=0)(hS:∀y∈N,y.n.size<2 ^ 60/\y.r.size<2 ^ 60)(hSS:∀x∈L,∀y∈x.nd,y.n.size<2 ^ 60/\y.r.size<2 ^ 60)(hL:L.length<=64)(hLN:∀x∈L,x.nd.length<=64)(h:MI N L wi e w):∃S,e=.returned (.pointer (some ⟨S,0,none⟩))/\wi.grownBy w none/\Calls prog 15 #[.pointer (some ⟨S,0,none⟩)] w fun e w'=>∀w0:World,w0.heap.size<=wi.heap.size->w0.grownBy w none->MO N L S w0 e w':=by
 obtain⟨B,S,M,nb,Mc,po,pc,P,x0,rv,f,h1,⟨s1,s2,s3,s4,s5,s6⟩,⟨p1,p2,p3⟩,hd,hr,hg⟩:=h;refine⟨S,h1,hg,?_⟩;have V:=aez hN hL p1 p2 p3 hLN (fun x hx y hy=>by have:=(hSS x hx y hy).1;unfold maxLen;omega);refine(abX L.length P (jG L) (fun x k=>aZ L k=x) _ V B S M nb L.length Mc po pc p1 hL s5 s6 (Nat.le_refl _) w s4 hr _ _ _ _ _ _ _ _ w rfl (aeA p2.ok.bar (fun y hy=>by have:=(hS y hy).1;unfold maxLen;omega)) hd (Fx.refl _ w)).mono ?_;intro e' w' hp w0 hw0 hg0;have fr:Fx (Xr S M rv (.slice none 0 0)) w w'->w0.grownBy w' none:=fun hx=>⟨hx.os.trans hg0.os,hx.tape.trans hg0.tape,hx.output.trans hg0.output,Nat.le_trans hg0.size hx.size,fun b hb _=>(hx.block b (Nat.lt_of_lt_of_le hb hg0.size) (fun hh=>by
  rcases hh with h|h|h|h
  ·omega
  ·omega
  ·have:=(qK hd.rr h).1;omega
  ·cases h)).trans (hg0.block b hb (by simp))⟩
 rcases hp with⟨rfl,hx⟩|⟨rfl,hx,row',ch',A',D',rv',cv',f',hd',hi,he⟩|⟨rfl,rv',cv',f',hd',hfd⟩
 ·exact⟨fr hx,Or.inl rfl⟩
 ·refine⟨fr hx,Or.inr (Or.inr ⟨rfl,ch',B,_,_,_,rv',_,cv',f',A',D',hd'.sb,hd'.cc,?_,fun k hk=>?_,hi.1.one,fun C hC=>?_⟩)⟩
  ·have:=hi.1.few;omega
  ·obtain⟨i,hi'⟩:=List.getElem?_of_mem hk;exact(hi.1.nm i k hi').1
  ·exact hi.1.good he hf _ (hC.map _)
 ·exact⟨fr hfd.1,Or.inr (Or.inl rfl)⟩
theorem ae3(no lo oo:Option Addr)(nc lc oc:Nat)(N:List Nd)(L:List Re)(O:List En)(fu:Int)(w:World)(h:NdS w (.slice no N.length nc) N)(h':ReS w (.slice lo L.length lc) L)(ho:EnS w (.slice oo O.length oc) O)(hN:N.length<=1040000)(hL:L.length<=1048576)(hLN:∀x∈L,x.nd.length<=1048576)(hS:∀y∈N,y.n.size<2 ^ 60/\y.r.size<2 ^ 60)(hSS:∀x∈L,∀y∈x.nd,y.n.size<2 ^ 60/\y.r.size<2 ^ 60)(hV:∀x∈L,x.nm.size<2 ^ 60/\x.ve.size<2 ^ 60)(hO:O.length<=1048576)(hOV:∀x∈O,x.ve.size<2 ^ 60)(hfu:fu<9223372036854775808) :
  Calls prog 4 #[.slice no N.length nc,.slice lo L.length lc,.slice oo O.length oc,.int .i64 fu] w (ae1 N L w):=by
 obtain⟨ec,hec⟩:=zN w.heap.size;obtain⟨W1,hW1⟩:=zN (w.alloc (.cells #[.int .i64 0] 26));have hg1:w.grownBy W1 none:=by rw[<-hW1];exact aj (ak w none) _
 have hb1:W1.heap[ec]?=some (.cells #[.int .i64 0] 26 (0,0)):=by rw[<-hW1,<-hec];exact heap_alloc_new w _
 have Ec:Hd (∀w',W1.grownBy w' none->w'.cell? ⟨ec,0,none⟩=some (.int .i64 0)/\w'.frozen? ⟨ec,0,none⟩=false):=fun w' hg=>by
  have hb:=(hg.block ec (aB hb1) (by simp)).trans hb1;exact⟨by rw[ah hb];rfl,Lib.frozen_of_heap hb 0⟩
 have HST:Hd (∀w' v,W1.grownBy w' none->w.grownBy (w'.setCell ⟨ec,0,none⟩ v) none):=fun w' v hg=>F7 (ag hg1 hg) (aW (ak w' (some ec)) _ _) (fun q hq=>by injection hq with hq;omega)
 have CF:=ae (U5 _ _ N L W1 (h.grow hg1) (h'.grow hg1) (by omega) hL hS hV hLN hSS);have yS:Hd (fU N L=0->(dV L L.length).1=0/\dB N=0):=fun h0=>by
  unfold fU at h0;split at h0
  ·rename_i h1;exact⟨h1,h0⟩
  ·exact absurd h0 (by decide)
 have HS2:Hd (fU N L=0->L.length<=50/\∀x∈L,x.nd.length<=20):=fun h0=>⟨(AA L (yS.o h0).1).1,fun x hx=>((AA L (yS.o h0).1).2 x hx).1⟩
 have CN:Hd (fU N L=0->∀w',W1.grownBy w' none->Calls prog 14 #[.slice no N.length nc,.slice lo L.length lc,.slice oo O.length oc,.int .i64 fu] w' fun e w''=>∃S,e=.returned (.pointer (some ⟨S,0,none⟩))/\Hd (w'.grownBy w'' none/\Calls prog 15 #[.pointer (some ⟨S,0,none⟩)] w'' (MO N L S w'))):=fun h0 w' hg=>by
  obtain⟨k1,k2⟩:=yS.o h0;obtain⟨q1,q2⟩:=AA L k1;have hgw:=ag hg1 hg;refine(aeU no lo oo nc lc oc N L O fu w' (h.grow hgw) (h'.grow hgw) (ho.grow hgw) (fun x hx=>(q2 x hx).2.1) (fun y hy=>by
   have:=Gy k2 y hy;unfold iF at this;rw[Bool.and_eq_true]at this;exact this.2) (fun x hx=>(q2 x hx).2.2) (by omega) (by omega) (fun x hx=>by have:=(q2 x hx).1;omega) hS hSS (fun x hx=>⟨(hV x hx).2,(hV x hx).1⟩) hO hOV hfu).mono ?_
  intro e w'' hp;obtain⟨S,e1,e2,e3⟩:=ae2 hN h0 hS hSS (by omega) (fun x hx=>by have:=(q2 x hx).1;omega) hp;exact⟨S,e1,e2,e3.mono fun e w3 hq=>hq w' (Nat.le_refl _) e2⟩
 have CS:Hd (fU N L=0->∀wb w' S e,W1.grownBy w' none->MO N L S wb e w'->e=.returned (.bool true)->Calls prog 16 #[.pointer (some ⟨S,0,none⟩),.slice lo L.length lc] w' fun e w''=>∃(o:Option Addr) (c:Nat) (C:List Nat),e=.returned (.slice o C.length c)/\Hd (w'.grownBy w'' none/\∀w3,w''.grownBy w3 (some ec)->IS w3 (.slice o C.length c) (C.map fun(k:Nat)=>(k:Int))/\iO N L (C.map fun(k:Nat)=>(k:Int))/\(C.Pairwise fun a b=>cT (aZ L a) (aZ L b)<=0)/\(C.map (aZ L)).Nodup/\C.length<=64/\∀k∈C,k<L.length)):=fun h0 wb w' S e hg hp he=>by
  have q1:=(HS2.o h0).1
  rcases hp with⟨-,rfl|rfl|⟨-,ch,B,pv,nv,cm,rv,im,cv,f,A,D,k1,k2,k3,k4,k5,k6⟩⟩
  ·cases he
  ·cases he
  refine(abk S pv nv cm rv im cv f A D B lo lc L ch w' k1 k2 (h'.grow (ag hg1 hg)) (by omega) (by omega) k4).mono ?_;rintro e w'' ⟨C,o,c,e1,e2,e3,e4,e5,e6⟩;refine⟨o,c,C,e1,e5,fun w3 hg3=>⟨?_,k6 C e2,e3,(e2.map (aZ L)).nodup_iff.2 k5,by rw[e2.length_eq];exact k3,fun k hk=>k4 k (e2.subset hk)⟩⟩
  rcases e4 with e4|⟨a,cap,x1,x2,x3⟩
  ·exact Or.inl e4
  ·refine Or.inr ⟨a,cap,x1,x2,fun j hj=>hg3.cell (x3 j hj) (fun e=>?_)⟩;injection x1 with x1 _ _
   have h1:=e6 a x1;have h2:(a.add j).block=a.block:=by unfold Addr.add;split<;>simp
   have h3:=Option.some.inj e;have h4:=(aB hb1);have h5:=hg.size;omega
 have HW1:=ae hW1;obtain⟨F,hF⟩:=zN (fU N L);have HF:=ae hF;have CI:=ae (fun w'=>catch_idle ⟨ec,0,none⟩ w');have CP:=ae (fun w' (hg:W1.grownBy w' none)=>catch_panicking ⟨ec,0,none⟩ 0 w' (Ec.o w' hg).1 (Ec.o w' hg).2);have hmf:∀(fn:Fn) (first cap:Array Value) (w:World),(Instr.makeFunc fn first cap).run prog w=.ok (.func fn first cap) w:=fun _ _ _ _=>rfl
 rw[hF]at CF CN CS;clear h h' ho hS hSS hV hOV hLN hb1 hg1 hF
 go_enter_defers func4,ntmps4
 go_wp2_with (go_at_call 12;refine CF.o.mono ?_);rintro e w2 ⟨rfl,hg2⟩;obtain⟨d0,d1⟩:=Ec.o w2 hg2;have HG2:=ae hg2;clear hg2
 by_cases hz:F=0
 ·subst hz;have C1:=ae (CN.o (by trivial) w2 HG2.o);go_wp2_with (go_at_call 14;refine C1.o.mono ?_);rintro e w3 ⟨S,rfl,hn⟩;have dJ:=ae (ag HG2.o hn.o.1);have C2:=ae hn.o.2;clear hn d0 d1;go_wp2_with (go_at_call 15;refine C2.o.mono ?_);rintro e w4 hf;have zS:=ae hf;have gB:=ae (ag HG2.o hf.1);obtain⟨d0,d1⟩:=Ec.o w4 gB.o
  rcases hf.2 with rfl|rfl|⟨rfl,-⟩
  ·clear hf;refine leaves_cons (f:=13) (args:=#[.pointer (some ⟨ec,0,none⟩)]) (by simp) (by simp[go_sem]) ?_;refine(CP.o w4 gB.o).mono ?_;rintro e u' w'' ⟨rfl,rfl,rfl⟩;have hc:(w4.setCell ⟨ec,0,none⟩ (.int .i64 10)).cell? ⟨ec,0,none⟩=some (.int .i64 10):=by simp[go_sem,d0]
   simp[Leaves,settle,results,Tryz.results4,go_sem,hc];exact⟨HST.o w4 _ gB.o,none,0,[],10,rfl,Or.inl ⟨by decide,rfl,Or.inl HF.o⟩⟩
  ·clear hf;go_wp2;refine leaves_cons (f:=13) (args:=#[.pointer (some ⟨ec,0,none⟩)]) (by simp) (by simp[go_sem]) ?_;refine(CI.o _).mono ?_;rintro e u' w'' ⟨rfl,rfl,rfl⟩;have hc:(w4.setCell ⟨ec,0,none⟩ (.int .i64 8)).cell? ⟨ec,0,none⟩=some (.int .i64 8):=by simp[go_sem,d0]
   simp[Leaves,settle,results,Tryz.results4,go_sem,hc];exact⟨HST.o w4 _ gB.o,none,0,[],8,rfl,Or.inl ⟨by decide,rfl,Or.inl HF.o⟩⟩
  ·have C3:=ae (CS.o (by trivial) w2 w4 S _ gB.o hf rfl);clear hf;go_wp2_with (go_at_call 16;refine C3.o.mono ?_);rintro e w5 ⟨o,c,C,rfl,hs⟩;obtain⟨g0,g1⟩:=Ec.o w5 (ag gB.o hs.o.1);go_wp2;refine leaves_cons (f:=13) (args:=#[.pointer (some ⟨ec,0,none⟩)]) (by simp) (by simp[go_sem]) ?_;refine(CI.o _).mono ?_;rintro e u' w'' ⟨rfl,rfl,rfl⟩;have hc:(w5.setCell ⟨ec,0,none⟩ (.int .i64 0)).cell? ⟨ec,0,none⟩=some (.int .i64 0):=by simp[go_sem,g0]
   simp[Leaves,settle,results,Tryz.results4,go_sem,hc];exact⟨HST.o w5 _ (ag gB.o hs.o.1),o,c,C,0,rfl,Or.inr ⟨rfl,HF.o,hs.o.2 _ (aW (ak w5 (some ec)) _ _)⟩⟩
 ·have hb:(F != 0)=true:=by simp[hz]
  have hc:(w2.setCell ⟨ec,0,none⟩ (.int .i64 F)).cell? ⟨ec,0,none⟩=some (.int .i64 F):=by simp[go_sem,d0]
  go_wp2;simp[bodyPostD,Leaves,results,Tryz.results4,go_sem,hc];exact⟨HST.o w2 _ HG2.o,none,0,[],F,rfl,Or.inl ⟨hz,rfl,Or.inr HF.o.symm⟩⟩
end Go.Proofs.YteciokcdpadmpaaGreatDoor
