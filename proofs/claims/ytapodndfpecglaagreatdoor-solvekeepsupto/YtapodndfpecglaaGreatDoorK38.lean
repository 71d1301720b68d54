import Derived.Test.YtapodndfpecglaaGreatDoorK20
import Derived.Test.YtapodndfpecglaaGreatDoorK32
import Derived.Test.YtapodndfpecglaaGreatDoorK36
import Derived.Test.YtapodndfpecglaaGreatDoorK37
set_option linter.all false
set_option maxRecDepth 100000
set_option maxHeartbeats 0
open Go.Proofs.Tryz
namespace Go.Proofs.YtapodndfpecglaaGreatDoor
open Go.RowKit Go.Maps
noncomputable def vT(N:List Nd)(L:List Re)(O:List En)(fu:Int):Fd:=lC (pR L O) (xX N L) (eG L) (L.length+1) (di [] (N.map (·.n))) [] (max fu 0).toNat
def aeR(N:List Nd)(L:List Re)(O:List En)(fu:Int)(w:World)(e:Ending)(w':World):Prop:=w.grownBy w' none/\∃(o:Option Addr) (c:Nat) (C:List Nat) (E:Int),e=.returned (.tuple #[.slice o C.length c,.int .i64 E])/\((¬jK N L=0/\E=jK N L/\C=[])\/(jK N L=0/\vT N L O fu=.out/\E=10/\C=[])\/(jK N L=0/\(∃f,vT N L O fu=.no f)/\E=8/\C=[])\/(jK N L=0/\E=0/\(∃ch,vT N L O fu=.yes ch/\C.Perm ch)/\IS w' (.slice o C.length c) (C.map fun(k:Nat)=>(k:Int))/\(C.Pairwise fun a b=>cT (aQ L a) (aQ L b)<=0)/\(C.map (aQ L)).Nodup/\C.length<=64/\∀k∈C,k<L.length))
def KQ(N:List Nd)(L:List Re)(O:List En)(fu:Int)(S:Nat)(w:World)(e:Ending)(w':World):Prop:=w.grownBy w' none/\((vT N L O fu=.out/\e=Bi)\/(∃f,vT N L O fu=.no f/\e=.returned (.bool false))\/(∃ch:List Nat,vT N L O fu=.yes ch/\e=.returned (.bool true)/\∃(B:Nat) (pv nv cm rv im cv:Value) (f:Int) (A D:Nat),Sb w' S pv nv cm rv im cv f A D/\w'.ownsRow B 3 1 cv ch.length (ch.map fun(j:Nat)=>Value.int .i64 (j:Int))/\ch.length<=64/\(∀k∈ch,k<L.length)/\(ch.map (aQ L)).Nodup))
theorem aeS{N:List Nd}{L:List Re}{O:List En}{fu:Int}{w wi:World}{e:Ending}(hN:N.length<=1040000)(hf:jK N L=0)(hS:∀y∈N,y.n.size<2 ^ 60/\y.r.size<2 ^ 60)(hSS:∀x∈L,∀y∈x.nd,y.n.size<2 ^ 60/\y.r.size<2 ^ 60)(hL:L.length<=64)(hLN:∀x∈L,x.nd.length<=64)(h:J9 N L O fu wi e w):∃S,e=.returned (.pointer (some ⟨S,0,none⟩))/\wi.grownBy w none/\Calls prog 21 #[.pointer (some ⟨S,0,none⟩)] w fun e w'=>∀w0:World,w0.heap.size<=wi.heap.size->w0.grownBy w none->KQ N L O fu S w0 e w':=by
 obtain⟨B,S,M,nb,Mc,po,pc,P,x0,rv,h1,⟨s1,s2,s3,s4,s5,s6⟩,⟨p1,p2,p3⟩,hd,hr,hg⟩:=h;refine⟨S,h1,hg,?_⟩;have V:=aez (O:=O) hN hL p1 p2 p3 hLN (fun x hx y hy=>by have:=(hSS x hx y hy).1;unfold maxLen;omega);refine(aaQ L.length P (eG L) (pR L O) (xX N L) _ V B S M nb L.length Mc po pc p1 hL s5 s6 (Nat.le_refl _) w s4 hr (L.length+1) _ _ _ _ _ _ _ w rfl (aeA p2.ok.bar (fun y hy=>by have:=(hS y hy).1;unfold maxLen;omega)) hd (Fx.refl _ w)).mono ?_;intro e' w' hp w0 hw0 hg0;have fr:Fx (Xr S M rv (.slice none 0 0)) w w'->w0.grownBy w' none:=fun hx=>⟨hx.os.trans hg0.os,hx.tape.trans hg0.tape,hx.output.trans hg0.output,Nat.le_trans hg0.size hx.size,fun b hb _=>(hx.block b (Nat.lt_of_lt_of_le hb hg0.size) (fun hh=>by
  rcases hh with h|h|h|h
  ·omega
  ·omega
  ·have:=(pM hd.rr h).1;omega
  ·cases h)).trans (hg0.block b hb (by simp))⟩
 rcases hp with⟨hr',rfl,hx⟩|⟨ch',hr',rfl,hx,row',A',D',rv',cv',f',hd',hi,he⟩|⟨f',hr',rfl,rv',cv',hd',hfd⟩
 ·exact⟨fr hx,Or.inl ⟨hr',rfl⟩⟩
 ·refine⟨fr hx,Or.inr (Or.inr ⟨ch',hr',rfl,B,_,_,_,rv',_,cv',f',A',D',hd'.sb,hd'.cc,?_,fun k hk=>?_,hi.1.one⟩)⟩
  ·have:=hi.1.few;omega
  ·obtain⟨i,hi'⟩:=List.getElem?_of_mem hk;exact(hi.1.nm i k hi').1
 ·exact⟨fr hfd.1,Or.inr (Or.inl ⟨f',hr',rfl⟩)⟩
theorem aeT(no lo oo:Option Addr)(nc lc oc:Nat)(N:List Nd)(L:List Re)(O:List En)(fu:Int)(w:World)(h:NdS w (.slice no N.length nc) N)(h':ReS w (.slice lo L.length lc) L)(ho:EnS w (.slice oo O.length oc) O)(hN:N.length<=1040000)(hL:L.length<=1048576)(hLN:∀x∈L,x.nd.length<=1048576)(hS:∀y∈N,y.n.size<2 ^ 60/\y.r.size<2 ^ 60)(hSS:∀x∈L,∀y∈x.nd,y.n.size<2 ^ 60/\y.r.size<2 ^ 60)(hV:∀x∈L,x.nm.size<2 ^ 60/\x.ve.size<2 ^ 60)(hO:O.length<=1048576)(hOV:∀x∈O,x.ve.size<2 ^ 60)(hfu:fu<9223372036854775808) :
  Calls prog 6 #[.slice no N.length nc,.slice lo L.length lc,.slice oo O.length oc,.int .i64 fu] w (aeR N L O fu w):=by
 obtain⟨ec,hec⟩:=zN w.heap.size;obtain⟨W1,hW1⟩:=zN (w.alloc (.cells #[.int .i64 0] 28));have hg1:w.grownBy W1 none:=by rw[<-hW1];exact au (ak w none) _
 have hb1:W1.heap[ec]?=some (.cells #[.int .i64 0] 28 (0,0)):=by rw[<-hW1,<-hec];exact heap_alloc_new w _
 have Df:Hd (∀w',W1.grownBy w' none->w'.cell? ⟨ec,0,none⟩=some (.int .i64 0)/\w'.frozen? ⟨ec,0,none⟩=false):=fun w' hg=>by
  have hb:=(hg.block ec (aA hb1) (by simp)).trans hb1;exact⟨by rw[ag hb];rfl,Lib.frozen_of_heap hb 0⟩
 have HST:Hd (∀w' v,W1.grownBy w' none->w.grownBy (w'.setCell ⟨ec,0,none⟩ v) none):=fun w' v hg=>ED (ah hg1 hg) (bF (ak w' (some ec)) _ _) (fun q hq=>by injection hq with hq;omega)
 have CF:=ae (ad6 _ _ N L W1 (h.grow hg1) (h'.grow hg1) (by omega) hL hS hV hLN hSS);have KR:Hd (jK N L=0->(dV L L.length).1=0/\dm N=0):=fun h0=>by
  unfold jK at h0;split at h0
  ·rename_i h1;exact⟨h1,h0⟩
  ·exact absurd h0 (by decide)
 have HS2:Hd (jK N L=0->L.length<=50/\∀x∈L,x.nd.length<=20):=fun h0=>⟨(Fe L (KR.o h0).1).1,fun x hx=>((Fe L (KR.o h0).1).2 x hx).1⟩
 have CN:Hd (jK N L=0->∀w',W1.grownBy w' none->Calls prog 20 #[.slice no N.length nc,.slice lo L.length lc,.slice oo O.length oc,.int .i64 fu] w' fun e w''=>∃S,e=.returned (.pointer (some ⟨S,0,none⟩))/\Hd (w'.grownBy w'' none/\Calls prog 21 #[.pointer (some ⟨S,0,none⟩)] w'' (KQ N L O fu S w'))):=fun h0 w' hg=>by
  obtain⟨k1,k2⟩:=KR.o h0;obtain⟨q1,q2⟩:=Fe L k1;have hgw:=ah hg1 hg;refine(ad7 no lo oo nc lc oc N L O fu w' (h.grow hgw) (h'.grow hgw) (ho.grow hgw) (fun x hx=>(q2 x hx).2.1) (fun y hy=>by
   have:=JU k2 y hy;unfold iC at this;rw[Bool.and_eq_true]at this;exact this.2) (fun x hx=>(q2 x hx).2.2) (by omega) (by omega) (fun x hx=>by have:=(q2 x hx).1;omega) hS hSS (fun x hx=>⟨(hV x hx).2,(hV x hx).1⟩) hO hOV hfu).mono ?_
  intro e w'' hp;obtain⟨S,e1,e2,e3⟩:=aeS hN h0 hS hSS (by omega) (fun x hx=>by have:=(q2 x hx).1;omega) hp;exact⟨S,e1,e2,e3.mono fun e w3 hq=>hq w' (Nat.le_refl _) e2⟩
 have CS:Hd (jK N L=0->∀wb w' S e,W1.grownBy w' none->KQ N L O fu S wb e w'->e=.returned (.bool true)->Calls prog 22 #[.pointer (some ⟨S,0,none⟩),.slice lo L.length lc] w' fun e w''=>∃(o:Option Addr) (c:Nat) (C:List Nat),e=.returned (.slice o C.length c)/\Hd (w'.grownBy w'' none/\∀w3,w''.grownBy w3 (some ec)->(∃ch,vT N L O fu=.yes ch/\C.Perm ch)/\IS w3 (.slice o C.length c) (C.map fun(k:Nat)=>(k:Int))/\(C.Pairwise fun a b=>cT (aQ L a) (aQ L b)<=0)/\(C.map (aQ L)).Nodup/\C.length<=64/\∀k∈C,k<L.length)):=fun h0 wb w' S e hg hp he=>by
  have q1:=(HS2.o h0).1
  rcases hp with⟨-,⟨-,rfl⟩|⟨-,-,rfl⟩|⟨ch,hrs,-,B,pv,nv,cm,rv,im,cv,f,A,D,k1,k2,k3,k4,k5⟩⟩
  ·cases he
  ·cases he
  refine(aaq S pv nv cm rv im cv f A D B lo lc L ch w' k1 k2 (h'.grow (ah hg1 hg)) (by omega) (by omega) k4).mono ?_;rintro e w'' ⟨C,o,c,e1,e2,e3,e4,e5,e6⟩;refine⟨o,c,C,e1,e5,fun w3 hg3=>⟨⟨ch,hrs,e2⟩,?_,e3,(e2.map (aQ L)).nodup_iff.2 k5,by rw[e2.length_eq];exact k3,fun k hk=>k4 k (e2.subset hk)⟩⟩
  rcases e4 with e4|⟨a,cap,x1,x2,x3⟩
  ·exact Or.inl e4
  ·refine Or.inr ⟨a,cap,x1,x2,fun j hj=>hg3.cell (x3 j hj) (fun e=>?_)⟩;injection x1 with x1 _ _
   have h1:=e6 a x1;have h2:(a.add j).block=a.block:=by unfold Addr.add;split<;>simp
   have h3:=Option.some.inj e;have h4:=(aA hb1);have h5:=hg.size;omega
 have HW1:=ae hW1;obtain⟨F,hF⟩:=zN (jK N L);have HF:=ae hF;have CI:=ae (fun w'=>catch_idle ⟨ec,0,none⟩ w');have CP:=ae (fun w' (hg:W1.grownBy w' none)=>catch_panicking ⟨ec,0,none⟩ 0 w' (Df.o w' hg).1 (Df.o w' hg).2);have hmf:∀(fn:Fn) (first cap:Array Value) (w:World),(Instr.makeFunc fn first cap).run prog w=.ok (.func fn first cap) w:=fun _ _ _ _=>rfl
 rw[hF]at CF CN CS;clear h h' ho hS hSS hV hOV hLN hb1 hg1 hF
 go_enter_defers func6,ntmps6
 go_wp2_with (go_at_call 18;refine CF.o.mono ?_);rintro e w2 ⟨rfl,hg2⟩;obtain⟨d0,d1⟩:=Df.o w2 hg2;have HG2:=ae hg2;clear hg2
 by_cases hz:F=0
 ·subst hz;have C1:=ae (CN.o (by trivial) w2 HG2.o);go_wp2_with (go_at_call 20;refine C1.o.mono ?_);rintro e w3 ⟨S,rfl,hn⟩;have dJ:=ae (ah HG2.o hn.o.1);have C2:=ae hn.o.2;clear hn d0 d1;go_wp2_with (go_at_call 21;refine C2.o.mono ?_);rintro e w4 hf;have yV:=ae hf;have gm:=ae (ah HG2.o hf.1);obtain⟨d0,d1⟩:=Df.o w4 gm.o
  rcases hf.2 with⟨hrs,rfl⟩|⟨ff,hrs,rfl⟩|⟨ch,hrs,rfl,-⟩
  ·have az:=ae hrs;clear hf hrs;refine leaves_cons (f:=19) (args:=#[.pointer (some ⟨ec,0,none⟩)]) (by simp) (by simp[go_sem]) ?_;refine(CP.o w4 gm.o).mono ?_;rintro e u' w'' ⟨rfl,rfl,rfl⟩;have hc:(w4.setCell ⟨ec,0,none⟩ (.int .i64 10)).cell? ⟨ec,0,none⟩=some (.int .i64 10):=by simp[go_sem,d0]
   simp[Leaves,settle,results,Tryz.results6,go_sem,hc];exact⟨HST.o w4 _ gm.o,none,0,[],10,rfl,Or.inr (Or.inl ⟨HF.o,az.o,rfl,rfl⟩)⟩
  ·have az:=ae hrs;clear hf hrs;go_wp2;refine leaves_cons (f:=19) (args:=#[.pointer (some ⟨ec,0,none⟩)]) (by simp) (by simp[go_sem]) ?_;refine(CI.o _).mono ?_;rintro e u' w'' ⟨rfl,rfl,rfl⟩;have hc:(w4.setCell ⟨ec,0,none⟩ (.int .i64 8)).cell? ⟨ec,0,none⟩=some (.int .i64 8):=by simp[go_sem,d0]
   simp[Leaves,settle,results,Tryz.results6,go_sem,hc];exact⟨HST.o w4 _ gm.o,none,0,[],8,rfl,Or.inr (Or.inr (Or.inl ⟨HF.o,⟨ff,az.o⟩,rfl,rfl⟩))⟩
  ·have C3:=ae (CS.o (by trivial) w2 w4 S _ gm.o hf rfl);clear hf hrs;go_wp2_with (go_at_call 22;refine C3.o.mono ?_);rintro e w5 ⟨o,c,C,rfl,hs⟩;obtain⟨g0,g1⟩:=Df.o w5 (ah gm.o hs.o.1);go_wp2;refine leaves_cons (f:=19) (args:=#[.pointer (some ⟨ec,0,none⟩)]) (by simp) (by simp[go_sem]) ?_;refine(CI.o _).mono ?_;rintro e u' w'' ⟨rfl,rfl,rfl⟩;have hc:(w5.setCell ⟨ec,0,none⟩ (.int .i64 0)).cell? ⟨ec,0,none⟩=some (.int .i64 0):=by simp[go_sem,g0]
   simp[Leaves,settle,results,Tryz.results6,go_sem,hc];exact⟨HST.o w5 _ (ah gm.o hs.o.1),o,c,C,0,rfl,Or.inr (Or.inr (Or.inr ⟨HF.o,rfl,hs.o.2 _ (bF (ak w5 (some ec)) _ _)⟩))⟩
 ·have hb:(F != 0)=true:=by simp[hz]
  have hc:(w2.setCell ⟨ec,0,none⟩ (.int .i64 F)).cell? ⟨ec,0,none⟩=some (.int .i64 F):=by simp[go_sem,d0]
  go_wp2;simp[bodyPostD,Leaves,results,Tryz.results6,go_sem,hc];exact⟨HST.o w2 _ HG2.o,none,0,[],F,rfl,Or.inl ⟨fun h=>hz (HF.o.symm.trans h),HF.o.symm,rfl⟩⟩
open Go.RowKit Go.Maps
theorem aeU{N:List Nd}{L:List Re}{O:List En}{C:List Int}{fu:Int}(h:jW N L C)(hk:∀k,dS C k=true->iM O L (aQ L k)=(k:Int))(hf:(C.length:Int)<=fu):∃ch,vT N L O fu=.yes ch/\ch.Perm (C.map Int.toNat) :=
 Uu h hk (L.length+1) _ [] _ (by simp) (Ui N L) (fun k hk=>(by cases hk)) (by simp;omega)
theorem aeV(x:Int)(D:List Nat)(hx:∃k∈D,(k:Int)=x):D.any (fun k=>decide ((k:Int)=x))=true:=by
 obtain⟨k,h1,h2⟩:=hx;exact List.any_eq_true.2 ⟨k,h1,by simp[h2]⟩
theorem aeW(v v' vo vc:Value)(N:List Nd)(L:List Re)(O:List En)(C:List Int)(fu:Int)(w:World)(h:NdS w v N)(h':ReS w v' L)(ho:EnS w vo O)(hc:IS w vc C)(hN:N.length<=1040000)(hL:L.length<=1048576)(hLN:∀x∈L,x.nd.length<=1048576)(hS:∀y∈N,y.n.size<2 ^ 60/\y.r.size<2 ^ 60)(hSS:∀x∈L,∀y∈x.nd,y.n.size<2 ^ 60/\y.r.size<2 ^ 60)(hV:∀x∈L,x.nm.size<2 ^ 60/\x.ve.size<2 ^ 60)(hO:O.length<=1048576)(hOV:∀x∈O,x.ve.size<2 ^ 60)(hON:∀x∈O,x.nd.length<=1048576)(hC:C.length<=1048576)(hfu:fu<9223372036854775808) :
  Calls prog 3 #[v,v',vo,vc,.int .i64 fu] w fun e w'=>e=.returned (.bool true)/\w.grownBy w' none:=by
 have CN:=ae (fun w' (hg:w.grownBy w' none)=>Yr v N w' (h.grow hg) (by omega));have CR:Hd (∀w',w.grownBy w' none->Calls prog 8 #[v'] w' fun e w''=>∃o c,e=.returned (.slice o L.length c)/\ReS w'' (.slice o L.length c) L/\w'.grownBy w'' none):=fun w' hg=>(Yk v' L w' (h'.grow hg) hL hLN).mono fun e w'' ⟨z,h1,h2,h3⟩=>by
  obtain⟨o,c,rfl⟩:=Eg h2;exact⟨o,c,h1,h2,h3⟩
 have CE:=ae (fun w' (hg:w.grownBy w' none)=>aaH vo O w' (ho.grow hg) hO hON);have CD:=ae (aeP v v' vc N L C w h h' hc (by omega) hL hC hS hV hLN hSS);have CM:=ae YP;obtain⟨on,cn,rfl⟩:=rY h;obtain⟨ol,cl,rfl⟩:=Eg h';obtain⟨oe,ce,rfl⟩:=Oz ho;obtain⟨oc,cc,rfl⟩:=H7 hc;have CK:=ae (fun w' (hg:w.grownBy w' none) (hin:∀z∈C,0<=z/\z<(L.length:Int))=>aeL ol oe oc cl ce cc L O C w' (h'.grow hg) (ho.grow hg) (hc.grow hg) hin hL hO hC (fun x hx=>by have:=(hV x hx).2;omega) (fun x hx=>by have:=hOV x hx;omega));have HIC:=ae (fun w' (hg:w.grownBy w' none)=>hc.grow hg);have CS:Hd (jW N L C->(∀k,dS C k=true->iM O L (aQ L k)=(k:Int))->(C.length:Int)<=fu->∀o1 c1 o2 c2 o3 c3 w',NdS w' (.slice o1 N.length c1) N->ReS w' (.slice o2 L.length c2) L->EnS w' (.slice o3 O.length c3) O->Calls prog 6 #[.slice o1 N.length c1,.slice o2 L.length c2,.slice o3 O.length c3,.int .i64 fu] w' fun e w''=>∃(o:Option Addr) (c:Nat) (D:List Nat),e=.returned (.tuple #[.slice o C.length c,.int .i64 0])/\Hd (w'.grownBy w'' none/\D.length=C.length/\(∀(i:Nat) (hi:i<C.length),∃k∈D,(k:Int)=C[i])/\IS w'' (.slice o C.length c) (D.map fun(k:Nat)=>(k:Int)))):=fun hgp hk hf o1 c1 o2 c2 o3 c3 w' h1 h2 h3=>(aeT o1 o2 o3 c1 c2 c3 N L O fu w' h1 h2 h3 hN hL hLN hS hSS hV hO hOV hfu).mono fun e w'' ⟨k1,o,c,D,E,k2,k3⟩=>by
  obtain⟨ch,r1,r2⟩:=aeU hgp hk hf
  rcases k3 with⟨x,-⟩|⟨-,x,-⟩|⟨-,⟨f,x⟩,-⟩|⟨-,rfl,⟨ch',x1,x2⟩,x3,-⟩
  ·exact absurd hgp.f x
  ·rw[r1]at x;cases x
  ·rw[r1]at x;cases x
  ·rw[r1]at x1
   cases x1
   have hp:=x2.trans r2;have hl:D.length=C.length:=by rw[hp.length_eq,List.length_map]
   rw[hl]at k2 x3;refine⟨o,c,D,k2,k1,hl,fun i hi=>⟨(C[i]).toNat,hp.symm.subset (List.mem_map.2 ⟨_,List.getElem_mem hi,rfl⟩),?_⟩,x3⟩;have:=(Ac hgp _ (List.getElem_mem hi)).1;omega
 clear h h' ho hc hLN hS hSS hV hOV hON;go_enter func3,ntmps3;go_wp2_with (go_at_call 4;refine CD.o.mono ?_);rintro e w1 ⟨⟨b,rfl,hb⟩,hg1⟩;have HG:=ae hg1;have HB:=ae hb;clear hg1 hb
 cases b with
 | false =>
  go_wp2;go_ret;exact⟨rfl,HG.o⟩
 | true =>
 have UB:=ae (HB.o.1 rfl);have C1:=ae (CK.o w1 HG.o (Ac UB.o));go_wp2_with (go_at_call 5;refine C1.o.mono ?_);rintro e w2 ⟨b,rfl,hg2,hb⟩;replace HG:=ae (ah HG.o hg2);have HK:=ae hb;clear hg2 hb
 cases b with
 | false =>
  go_wp2;go_ret;exact⟨rfl,HG.o⟩
 | true =>
 by_cases hle:fu<(C.length:Int)
 ·go_wp2;go_ret;exact⟨rfl,HG.o⟩
 have C2:=ae (CS.o UB.o (HK.o rfl) (by omega));go_wp2_with (go_at_call 7;refine(CN.o _ HG.o).mono ?_);rintro e w3 ⟨o1,c1,rfl,hn1,hg1⟩;replace HG:=ae (ah HG.o hg1);have jw:=ae hn1;clear hn1 hg1;go_wp2_with (go_at_call 8;refine(CR.o _ HG.o).mono ?_);rintro e w4 ⟨o2,c2,rfl,hr2,hg2⟩;replace HG:=ae (ah HG.o hg2);replace jw:=ae (jw.o.grow hg2);have HR2:=ae hr2;clear hr2 hg2;go_wp2_with (go_at_call 9;refine(CE.o _ HG.o).mono ?_);rintro e w5 ⟨o3,c3,rfl,he3,hg3⟩;replace HG:=ae (ah HG.o hg3);have C3:=ae (C2.o o1 c1 o2 c2 o3 c3 w5 (jw.o.grow hg3) (HR2.o.grow hg3) he3);clear he3 hg3 jw HR2;go_wp2_with (go_at_call 6;refine C3.o.mono ?_);rintro e w6 ⟨o,c,D,rfl,hs⟩;replace HG:=ae (ah HG.o hs.o.1);have KT:=ae hs.o.2;clear hs hle;go_wp2_with (go_at_call 10;refine(CM.o _ _).mono ?_;rintro e w7 ⟨rfl,rfl⟩)
 go_loopw [15] (fun vi wr=>∃i:Nat,vi=.int .i64 i/\i<=C.length/\w7.grownBy wr none) (fun vi _=>C.length-(intOf vi).toNat)
 case atStart=>exact⟨0,rfl,Nat.zero_le _,ak _ _⟩
 case round =>
  obtain⟨i,rfl,hi,hg⟩:=hrel;obtain⟨wo,hwo⟩:∃wo,wo=wr:=⟨_,rfl⟩;subst hwo;have uq:=ae hg
  by_cases hlt:i<C.length
  ·have iJ:=ae (KT.o.2.1 i hlt);obtain⟨x,hx⟩:=zN (C[i]);rw[hx]at iJ;have HX:=ae hx;have qZ:=ae (aeV x D iJ.o);have gK:=ae hlt;clear hg hx;go_wp2;go_loopw [16,17] (fun vb vj wr=>∃j:Nat,vj=.int .i64 j/\j<=C.length/\vb=.bool ((D.take j).any (fun k=>decide ((k:Int)=x)))/\w7.grownBy wr none) (fun _ vj _=>C.length-(intOf vj).toNat)
   case atStart=>exact⟨0,rfl,Nat.zero_le _,rfl,uq.o⟩
   case round =>
    obtain⟨j,rfl,hj,rfl,hg⟩:=hrel;obtain⟨wp,hwp⟩:∃wp,wp=wr:=⟨_,rfl⟩;subst hwp;have KU:=ae hg;have KW:=KT.o.1
    by_cases hjl:j<C.length
    ·obtain⟨a1,ho1,hcp1,iU⟩:=qE (HIC.o wp (ah HG.o hg)) gK.o;have f1:=iU i gK.o;rw[HX.o]at f1;obtain⟨a2,ho2,hcp2,ik⟩:=qE (C:=D.map fun(k:Nat)=>(k:Int)) (o:=o) (c:=c) (w:=wp) (by have:=KT.o.2.2.grow hg;rw[List.length_map,KW];exact this) (i:=j) (by rw[List.length_map];omega);have f2:=ik j (by rw[List.length_map];omega);rw[List.getElem_map]at f2;rw[List.length_map]at hcp2;have HST:=ae (Kv (fun k:Nat=>decide ((k:Int)=x)) D j (by omega));obtain⟨d,hd⟩:=zN (D[j]'(by omega));rw[hd]at f2;have hst:(D.take (j+1)).any (fun k=>decide ((k:Int)=x))=((D.take j).any (fun k=>decide ((k:Int)=x)) || ((d:Int) == x)):=by
      have:=HST.o;rw[hd]at this;rw[this];rfl
     have vM:=ae hst;obtain⟨p,hp⟩:=zN ((D.take j).any (fun k=>decide ((k:Int)=x)));rw[hp]at vM;rw[hp];have hic:i<cc:=by omega
     have hjc:j<c:=by omega
     cases ho1
     cases ho2
     clear hg iU ik hcp1 hcp2 hst hp hd KW HST;have hii:=gK.o
     cases p with
     | true =>
      go_wp2;go_quiet (fail);go_wp2;exact⟨⟨j+1,by go_num,by omega,by rw[vM.o];rfl,aF KU.o _⟩,by simp[intOf];omega⟩
     | false =>
      obtain⟨q,hq⟩:=zN (((d:Int) == x));rw[hq]at vM;go_wp2;go_quiet (fail);go_wp2;exact⟨⟨j+1,by go_num,by omega,by rw[vM.o];rfl,aF KU.o _⟩,by simp[intOf];omega⟩
    ·have hje:j=D.length:=by omega
     have HB1:Hd ((D.take j).any (fun k=>decide ((k:Int)=x))=true):=by
      show _=_;rw[hje,List.take_length];exact qZ.o
     rw[HB1.o];clear hg KW hje;go_wp2;exact⟨⟨i+1,by go_num,by have:=gK.o;omega,KU.o⟩,by have:=gK.o;simp[intOf];omega⟩
  ·clear hg;go_wp2;go_ret;exact⟨rfl,ah HG.o uq.o⟩
end Go.Proofs.YtapodndfpecglaaGreatDoor
