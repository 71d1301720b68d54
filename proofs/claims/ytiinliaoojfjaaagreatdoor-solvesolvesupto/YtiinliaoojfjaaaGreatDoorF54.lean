import Derived.Test.YtiinliaoojfjaaaGreatDoorF53
import Derived.Test.YtiinliaoojfjaaaGreatDoorF51
import Derived.Test.YtiinliaoojfjaaaGreatDoorF28
import Derived.Test.YtiinliaoojfjaaaGreatDoorF26
set_option linter.all false
set_option maxRecDepth 100000
set_option maxHeartbeats 0
open Go.Proofs.Tryz
namespace Go.Proofs.YtiinliaoojfjaaaGreatDoor
open Go.RowKit Go.Maps
def uU:Obj:=.cells #[.string ⟨#[97]⟩,.string ⟨#[42]⟩] 36
def xm:Obj:=.cells #[.string ⟨#[98]⟩,.string ⟨#[49,46,48,46,48]⟩,.slice none 0 0,.string ⟨#[]⟩,.string ⟨#[97]⟩,.string ⟨#[49,46,48,46,48]⟩,.slice none 0 0,.string ⟨#[]⟩] 38
theorem ajb(w:World):Calls prog 11 #[.slice (some ⟨w.heap.size,0,none⟩) 1 1,.slice (some ⟨w.heap.size+1,0,none⟩) 2 2,.slice none 0 0,.int .i64 9] ((w.alloc uU).alloc xm) fun e w'=>(∃v,e=.returned v)/\w.grownBy w' none:=by
 have g1:w.grownBy (w.alloc uU) none:=ak (ai w none) _;have g2:w.grownBy ((w.alloc uU).alloc xm) none:=ak g1 _;have b1:((w.alloc uU).alloc xm).heap[w.heap.size]?=some uU:=((ak (ai (w.alloc uU) none) xm).block w.heap.size (by simp) (by simp)).trans (heap_alloc_new w _);have b2:((w.alloc uU).alloc xm).heap[w.heap.size+1]?=some xm:=by
  have:=heap_alloc_new (w.alloc uU) xm;rw[World.size_alloc]at this;exact this
 unfold uU xm at *;refine(Am (some ⟨w.heap.size,0,none⟩) (some ⟨w.heap.size+1,0,none⟩) none 1 2 0 [⟨⟨#[97]⟩,⟨#[42]⟩⟩] [⟨⟨#[98]⟩,⟨#[49,46,48,46,48]⟩,[],⟨#[]⟩⟩,⟨⟨#[97]⟩,⟨#[49,46,48,46,48]⟩,[],⟨#[]⟩⟩] [] 9 _ (Or.inr ⟨_,1,rfl,Nat.le_refl _,fun i hi=>?_⟩) (Or.inr ⟨_,2,rfl,Nat.le_refl _,fun i hi=>?_⟩) (Or.inl ⟨rfl,rfl⟩) (by decide) (by decide) (by simp) (by simp;decide) (by simp) (by simp;decide) (by decide) (by simp) (by decide)).mono ?_
 ·have:i=0:=by simp at hi;omega
  subst this;exact⟨by rw[Nat.zero_mul,uo,ah b1];rfl,by rw[Nat.zero_mul,uo];show World.cell? _ ⟨w.heap.size,1,none⟩=_;rw[ah b1];rfl⟩
 ·rcases i with _|_|i
  ·refine⟨?_,?_,⟨.slice none 0 0,?_,Or.inl ⟨rfl,rfl⟩⟩,?_⟩<;>rw[Nat.zero_mul,uo]<;>simp only[ah b2]<;>rfl
  ·refine⟨?_,?_,⟨.slice none 0 0,?_,Or.inl ⟨rfl,rfl⟩⟩,?_⟩<;>rw[uo]<;>simp only[ah b2]<;>rfl
  ·simp at hi;omega
 ·rintro e w' ⟨hg,o,c,C,E,rfl,-⟩;exact⟨⟨_,rfl⟩,ag g2 hg⟩
open Go.RowKit Go.Maps
theorem ajc(v v' vo:Value)(N:List Nd)(L:List Re)(O:List En)(fu:Int)(w:World)(h:NdS w v N)(h':ReS w v' L)(ho:EnS w vo O)(hN:N.length<=1040000)(hL:L.length<=1048576)(hLN:∀x∈L,x.nd.length<=1048576)(hS:∀y∈N,y.n.size<2 ^ 60/\y.r.size<2 ^ 60)(hSS:∀x∈L,∀y∈x.nd,y.n.size<2 ^ 60/\y.r.size<2 ^ 60)(hV:∀x∈L,x.nm.size<2 ^ 60/\x.ve.size<2 ^ 60)(hO:O.length<=1048576)(hOV:∀x∈O,x.ve.size<2 ^ 60)(hON:∀x∈O,x.nd.length<=1048576)(hfu:fu<9223372036854775808) :
  Calls prog 3 #[v,v',vo,.int .i64 fu] w fun e w'=>e=.returned (.bool true)/\w.grownBy w' none:=by
 have CN:=ae (Eu v N w h (by omega));have CR:Hd (∀w',w.grownBy w' none->Calls prog 9 #[v'] w' fun e w''=>∃o c,e=.returned (.slice o L.length c)/\ReS w'' (.slice o L.length c) L/\w'.grownBy w'' none):=fun w' hg=>(zu v' L w' (h'.grow hg) hL hLN).mono fun e w'' ⟨z,h1,h2,h3⟩=>by
  obtain⟨o,c,rfl⟩:=qj h2;exact⟨o,c,h1,h2,h3⟩
 have CE:=ae (fun w' (hg:w.grownBy w' none)=>IC vo O w' (ho.grow hg) hO hON);have CM:=ae EU;have CL:=ae ajb;obtain⟨on,cn,rfl⟩:=mP h;obtain⟨ol,cl,rfl⟩:=qj h';obtain⟨oe,ce,rfl⟩:=zt ho;have CS:=ae (fun o1 c1 o2 c2 o3 c3 w' h1 h2 h3=>Am o1 o2 o3 c1 c2 c3 N L O fu w' h1 h2 h3 hN hL hLN hS hSS hV hO hOV hfu);have CT:=ae (fun w' (hg:w.grownBy w' none)=>Gw on ol oe cn cl ce N L O fu w' (h.grow hg) (h'.grow hg) (ho.grow hg) hN hL hLN hS hSS hV hO hOV hfu);have CA:=ae (fun w' u (hg:w.grownBy w' none) (hu:NdS w' u N)=>Vf u (.slice on N.length cn) N w' hu (h.grow hg) (by omega));have CB:=ae (fun w' u (hg:w.grownBy w' none) (hu:ReS w' u L)=>aeA u (.slice ol L.length cl) L w' hu (h'.grow hg) hL hLN);have CC:=ae (fun w' u (hg:w.grownBy w' none) (hu:EnS w' u O)=>aeI u (.slice oe O.length ce) O w' hu (ho.grow hg) hO hON)
 have CI:=ae (fun(D:List Nat) u u' w' (h1:IS w' u (D.map fun(k:Nat)=>(k:Int))) (h2:IS w' u' (D.map fun(k:Nat)=>(k:Int))) (hD:D.length<=64)=>Ns u u' _ w' h1 h2 (by rw[List.length_map];omega));clear h h' ho hLN hS hSS hV hOV hON;go_enter func3,ntmps3;go_wp2_with (go_at_call 8;refine CN.o.mono ?_);rintro e w3 ⟨o1,c1,rfl,hn1,hg1⟩;have HG:=ae hg1;have dw:=ae hn1;clear hn1 hg1;go_wp2_with (go_at_call 9;refine(CR.o _ HG.o).mono ?_);rintro e w4 ⟨o2,c2,rfl,hr2,hg2⟩;replace HG:=ae (ag HG.o hg2);replace dw:=ae (dw.o.grow hg2);have HR2:=ae hr2;clear hr2 hg2;go_wp2_with (go_at_call 10;refine(CE.o _ HG.o).mono ?_);rintro e w5 ⟨o3,c3,rfl,he3,hg3⟩;replace HG:=ae (ag HG.o hg3);replace dw:=ae (dw.o.grow hg3);replace HR2:=ae (HR2.o.grow hg3);have yV:=ae he3;have C3:=ae (CS.o o1 c1 o2 c2 o3 c3 w5 dw.o HR2.o he3)
 clear he3 hg3;go_wp2_with (go_at_call 11;refine C3.o.mono ?_);rintro e w6 ⟨dP,o6,c6,D,E,rfl,hown6,iJ⟩;have mr:=ae iJ;have sO:Hd (D.length<=64):=by
  rcases iJ with⟨-,-,rfl⟩|⟨-,-,-,rfl⟩|⟨-,-,-,rfl⟩|⟨-,-,-,-,-,hd,-⟩
  ·exact Nat.zero_le _
  ·exact Nat.zero_le _
  ·exact Nat.zero_le _
  ·exact hd
 have kM:=ae dP;have dZ:=ae hown6;have C4:=ae (CL.o w6);unfold uU xm at C4;clear dP iJ hown6;go_wp2_with (first|(go_at_call 11;refine C4.o.mono ?_));rintro e w7 ⟨⟨vl,rfl⟩,iw⟩;replace kM:=ae (ag kM.o iw);replace dZ:=ae (dV dZ.o iw);have C5:=ae (CT.o w7 (ag HG.o kM.o));clear iw;go_wp2_with (go_at_call 12;refine C5.o.mono ?_);rintro e w8 ⟨lK,o8,c8,D',E',rfl,tJ,iJ⟩;obtain⟨hDD,hEE⟩:=wV mr.o iJ;subst hDD hEE;have jS:Hd (∀q,(Value.slice o8 D.length c8).ownBlock=some q->(Value.slice o6 D.length c6).ownBlock=some q->False):=fun q h1 h2=>by
  have h3:=(tJ.lt q h1).1;have h4:=(dZ.o.lt q h2).2;omega
 replace kM:=ae (ag kM.o lK);replace dZ:=ae (dV dZ.o lK);have nH:=ae tJ;obtain⟨B7,Zp⟩:=zN w7.heap.size;rw[Zp]at nH;obtain⟨B5,Cj⟩:=zN w5.heap.size;have OY:=ae Cj;rw[Cj]at dZ;have hdl:=sO.o;have C6:=ae (CA.o w8 _ (ag HG.o kM.o) (dw.o.grow kM.o));clear lK iJ tJ Zp Cj;go_wp2_with (first|(go_at_call 13;refine C6.o.mono ?_));rintro e w9 ⟨rfl,ji⟩;replace kM:=ae (ag kM.o ji);replace dZ:=ae (dV dZ.o ji);replace nH:=ae (dV nH.o ji);have C7:=ae (CB.o w9 _ (ag HG.o kM.o) (HR2.o.grow kM.o));clear ji;go_wp2_with (first|(go_at_call 14;refine C7.o.mono ?_));rintro e w10 ⟨rfl,mi⟩;replace kM:=ae (ag kM.o mi);replace dZ:=ae (dV dZ.o mi);replace nH:=ae (dV nH.o mi);have C8:=ae (CC.o w10 _ (ag HG.o kM.o) (yV.o.grow kM.o))
 clear mi;go_wp2_with (go_at_call 15;refine C8.o.mono ?_);rintro e w11 ⟨rfl,iE⟩;replace kM:=ae (ag kM.o iE);replace dZ:=ae (dV dZ.o iE);replace nH:=ae (dV nH.o iE);have C9:=ae (CI.o D _ _ w11 (wX dZ.o) (wX nH.o) hdl);clear iE;go_wp2_with (go_at_call 16;refine C9.o.mono ?_);rintro e w12 ⟨rfl,lJ⟩;replace kM:=ae (ag kM.o lJ);replace dZ:=ae (dV dZ.o lJ);replace nH:=ae (dV nH.o lJ);clear lJ;go_wp2;go_loopw [20] (fun vi wr=>∃(i:Nat) (xs:List Value),vi=.int .i64 i/\i<=D.length/\wr.ownsRow B5 3 1 (.slice o6 D.length c6) D.length xs/\w5.grownBy wr none/\wr.ownsRow B7 3 1 (.slice o8 D.length c8) D.length (nI D)) (fun vi _=>D.length-(intOf vi).toNat)
 case atStart=>exact⟨0,_,rfl,Nat.zero_le _,dZ.o,kM.o,nH.o⟩
 case round =>
  obtain⟨i,xs,rfl,hi,hown,hg,tJ⟩:=hrel;have dH:=ae hg;have HOI:=ae hown;have HOJ:=ae tJ;obtain⟨wo,hwo⟩:∃wo,wo=wr:=⟨_,rfl⟩;subst hwo
  by_cases hlt:i<D.length
  ·obtain⟨g,cg,eg,hcap,lG⟩:=yg hown hlt;injection eg with eg1 _ eg2
   subst eg1 eg2;have hxl:xs.length=D.length:=by have:=hown.1;omega
   have hcell:wo.cell? ⟨g,i,none⟩=some xs[i]:=by rw[lG,List.getElem?_eq_getElem (by omega)]
   obtain⟨u,hu⟩:=zN (xs[i]);rw[hu]at hcell;have hfz:=NR hown i;have HS2:=ae (FH hown i (.int .i64 (-7)) (by omega));have HG2:=ae (TA hg (show w5.heap.size<=g by rw[OY.o];exact(hown.lt g rfl).1) i (.int .i64 (-7)));have HJ2:Hd ((wo.setCell ⟨g,i,none⟩ (.int .i64 (-7))).ownsRow B7 3 1 (.slice o8 D.length c8) D.length (nI D)):=tJ.kept (bI (ai wo (some g)) i _) (Or.inr fun e=>jS.o g e rfl);have hic:i<c6:=by omega
   clear hg hown tJ lG hxl hu hcap;go_wp2;exact⟨⟨i+1,_,by go_num,by omega,HS2.o,HG2.o,HJ2.o⟩,by simp[intOf];omega⟩
  ·have C10:=ae (CS.o o1 c1 o2 c2 o3 c3 wo (dw.o.grow hg) (HR2.o.grow hg) (yV.o.grow hg));clear hg hown tJ;go_wp2_with (first|(go_at_call 11;refine C10.o.mono ?_));rintro e w13 ⟨tK,o13,c13,D',E',rfl,Zq,iJ⟩;obtain⟨hDD,hEE⟩:=wV mr.o iJ;subst hDD hEE;have Gn:=ae (CI.o D _ _ w13 (wX Zq) (wX (dV HOJ.o tK)) hdl);have pW:=ae (ag HG.o (ag dH.o tK));have hEb:(E == E)=true:=by simp
   clear tK Zq iJ;go_wp2_with (go_at_call 16;refine Gn.o.mono ?_);rintro e w14 ⟨rfl,D5⟩;replace pW:=ae (ag pW.o D5);clear D5;go_wp2_with (go_at_call 17;refine(CM.o _ _).mono ?_;rintro e w15 ⟨rfl,rfl⟩);go_ret;exact⟨rfl,pW.o⟩
end Go.Proofs.YtiinliaoojfjaaaGreatDoor
