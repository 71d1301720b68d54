import Derived.Test.YtiinliaoojfjaaaGreatDoorF47
import Derived.Test.YtiinliaoojfjaaaGreatDoorF53
import Derived.Test.YtiinliaoojfjaaaGreatDoorF51
import Derived.Test.YtiinliaoojfjaaaGreatDoorF28
import Derived.Test.YtiinliaoojfjaaaGreatDoorF21
set_option linter.all false
set_option maxRecDepth 100000
set_option maxHeartbeats 0
open Go.Proofs.Tryz
namespace Go.Proofs.YtiinliaoojfjaaaGreatDoor
open Go.RowKit Go.Maps
theorem ajf(N:List Nd)(L:List Re):¬fE N L=10:=by
 unfold fE;split
 ·rcases IW N with h|h|h<;>rw[h]<;>decide
 ·decide
theorem ajg{N:List Nd}{L:List Re}{O:List En}{fu:Int}{D:List Nat}(h:qC N L O fu D 10)(h0:0<=fu):fu<(jM L (aU [] (L.map (·.nm))):Nat):=by
 rcases h with⟨-,h2,-⟩|⟨-,h2,-,-⟩|⟨-,-,h3,-⟩|⟨-,h2,-⟩
 ·exact absurd h2.symm (ajf N L)
 ·have:=(YD (N:=N) (L:=L) (O:=O) (L.length+1) (aU [] (N.map (·.n))) [] (max fu 0).toNat (aU [] (L.map (·.nm))) (by simp) (Dz N L) (Bj _ _ List.nodup_nil) (fun x hx _=>by
   obtain⟨k,hk⟩:=List.exists_mem_of_ne_nil _ hx;obtain⟨h3,h4⟩:=yB hk;rw[mX L k h3]at h4;exact(qp _ _).2 (Or.inr (List.mem_map.2 ⟨L[k],List.getElem_mem _,h4⟩)))).1
  apply Classical.byContradiction;intro hn;exact this (by omega) h2
 ·cases h3
 ·cases h2
theorem ajh{N:List Nd}{L:List Re}{O:List En}{fu:Int}{D:List Nat}{E:Int}(h:qC N L O fu D E)(hE:¬E=10)(h0:0<=fu):qC N L O (fu+100) D E:=by
 have up:¬jB N L O fu=.dry->jB N L O (fu+100)=(jB N L O fu).up 100:=fun hd=>by
  unfold jB at hd ⊢;rw[show(max (fu+100) 0).toNat=(max fu 0).toNat+100 by omega];exact Yz 100 _ _ _ _ hd
 rcases h with h|⟨-,-,h3,-⟩|⟨h1,⟨f,h2⟩,h3⟩|⟨h1,h2,⟨ch,h3,h4⟩,h5⟩
 ·exact Or.inl h
 ·exact absurd h3 hE
 ·refine Or.inr (Or.inr (Or.inl ⟨h1,⟨f+100,?_⟩,h3⟩));rw[up (by rw[h2];intro e;cases e),h2];rfl
 ·refine Or.inr (Or.inr (Or.inr ⟨h1,h2,⟨ch,?_,h4⟩,h5⟩));rw[up (by rw[h3];intro e;cases e),h3];rfl
theorem aji(v v' vo:Value)(N:List Nd)(L:List Re)(O:List En)(fu:Int)(w:World)(h:NdS w v N)(h':ReS w v' L)(ho:EnS w vo O)(hN:N.length<=1040000)(hL:L.length<=1048576)(hLN:∀x∈L,x.nd.length<=1048576)(hS:∀y∈N,y.n.size<2 ^ 60/\y.r.size<2 ^ 60)(hSS:∀x∈L,∀y∈x.nd,y.n.size<2 ^ 60/\y.r.size<2 ^ 60)(hV:∀x∈L,x.nm.size<2 ^ 60/\x.ve.size<2 ^ 60)(hO:O.length<=1048576)(hOV:∀x∈O,x.ve.size<2 ^ 60)(hON:∀x∈O,x.nd.length<=1048576) :
  Calls prog 5 #[v,v',vo,.int .i64 fu] w fun e w'=>e=.returned (.bool true)/\w.grownBy w' none:=by
 have CN:=ae (fun w' (hg:w.grownBy w' none)=>Eu v N w' (h.grow hg) (by omega));have CR:Hd (∀w',w.grownBy w' none->Calls prog 9 #[v'] w' fun e w''=>∃o c,e=.returned (.slice o L.length c)/\ReS w'' (.slice o L.length c) L/\w'.grownBy w'' none):=fun w' hg=>(zu v' L w' (h'.grow hg) hL hLN).mono fun e w'' ⟨z,h1,h2,h3⟩=>by
  obtain⟨o,c,rfl⟩:=qj h2;exact⟨o,c,h1,h2,h3⟩
 have CE:=ae (fun w' (hg:w.grownBy w' none)=>IC vo O w' (ho.grow hg) hO hON);have CM:=ae EU;obtain⟨on,cn,rfl⟩:=mP h;obtain⟨ol,cl,rfl⟩:=qj h';obtain⟨oe,ce,rfl⟩:=zt ho;have C0:=ae (ais ol cl L w h' hL);have CS:=ae (fun f (hf:f<9223372036854775808) o1 c1 o2 c2 o3 c3 w' h1 h2 h3=>Am o1 o2 o3 c1 c2 c3 N L O f w' h1 h2 h3 hN hL hLN hS hSS hV hO hOV hf);have CT:=ae (fun(hf:fu<9223372036854775808) w' (hg:w.grownBy w' none)=>Gw on ol oe cn cl ce N L O fu w' (h.grow hg) (h'.grow hg) (ho.grow hg) hN hL hLN hS hSS hV hO hOV hf);have CI:=ae (fun(D:List Nat) u u' w' (h1:IS w' u (D.map fun(k:Nat)=>(k:Int))) (h2:IS w' u' (D.map fun(k:Nat)=>(k:Int))) (hD:D.length<=64)=>Ns u u' _ w' h1 h2 (by rw[List.length_map];omega));clear h h' ho hLN hS hSS hV hOV hON;go_enter func5,ntmps5;go_wp2_with (go_at_call 19;refine C0.o.mono ?_)
 rintro e w1 ⟨z,rfl,hg1,hz⟩;have HG:=ae hg1;have HZ:=ae hz;clear hg1 hz
 by_cases h0:fu<0
 ·go_wp2;go_ret;exact⟨rfl,HG.o⟩
 by_cases h61:fu > 2305843009213693952
 ·go_wp2;go_ret;exact⟨rfl,HG.o⟩
 go_wp2_with (go_at_call 8;refine(CN.o _ HG.o).mono ?_);rintro e w3 ⟨o1,c1,rfl,hn1,hg1⟩;replace HG:=ae (ag HG.o hg1);have dw:=ae hn1;clear hn1 hg1;go_wp2_with (go_at_call 9;refine(CR.o _ HG.o).mono ?_);rintro e w4 ⟨o2,c2,rfl,hr2,hg2⟩;replace HG:=ae (ag HG.o hg2);replace dw:=ae (dw.o.grow hg2);have HR2:=ae hr2;clear hr2 hg2;go_wp2_with (go_at_call 10;refine(CE.o _ HG.o).mono ?_);rintro e w5 ⟨o3,c3,rfl,he3,hg3⟩;replace HG:=ae (ag HG.o hg3);have C3:=ae (CS.o fu (by omega) o1 c1 o2 c2 o3 c3 w5 (dw.o.grow hg3) (HR2.o.grow hg3) he3);clear he3 hg3 dw HR2;go_wp2_with (go_at_call 11;refine C3.o.mono ?_);rintro e w6 ⟨dP,o6,c6,D,E,rfl,hown6,iJ⟩;replace HG:=ae (ag HG.o dP);have mr:=ae iJ;have dZ:=ae hown6;have sO:Hd (D.length<=64):=by
  rcases iJ with⟨-,-,rfl⟩|⟨-,-,-,rfl⟩|⟨-,-,-,rfl⟩|⟨-,-,-,-,-,hd,-⟩
  ·exact Nat.zero_le _
  ·exact Nat.zero_le _
  ·exact Nat.zero_le _
  ·exact hd
 have ajj:Hd (z<1099511627776->z<=fu->¬E=10):=fun h1 h2 h3=>by
  rw[h3]at iJ;have:=ajg iJ (by omega);rw[<-HZ.o h1]at this;omega
 clear dP hown6 iJ;go_upto_region 5 with fail
 go_cut [48] from 37 (fun v48 wx=>v48=.bool false/\wx=w6)
 case first =>
  by_cases hz:z<1099511627776
  ·have hzb:decide (z<1099511627776)=true:=decide_eq_true hz
   by_cases hf:z<=fu
   ·have hfb:decide (z<=fu)=true:=decide_eq_true hf;have hE:(E == 10)=false:=by simpa using ajj.o hz hf
    go_wp2_with (go_at_call 17;refine(CM.o _ _).mono ?_;rintro e w7 ⟨rfl,rfl⟩);go_meet;exact⟨rfl,rfl⟩
   ·have hfb:decide (z<=fu)=false:=decide_eq_false hf;go_wp2;go_meet;exact⟨rfl,rfl⟩
  ·have hzb:decide (z<1099511627776)=false:=decide_eq_false hz;go_wp2;go_meet;exact⟨rfl,rfl⟩
 case rest =>
  obtain⟨rfl,rfl⟩:=hcut;have C4:=ae (CT.o (by omega) _ HG.o)
  by_cases hE:E=10
  ·subst hE;go_wp2_with (first|(go_at_call 17;refine(CM.o _ _).mono ?_;rintro e w7 ⟨rfl,rfl⟩)|(go_at_call 12;refine C4.o.mono ?_));rintro e w8 ⟨lK,o8,c8,D',E',rfl,-,iJ⟩;replace HG:=ae (ag HG.o lK);have hEE:=(wV mr.o iJ).2;subst hEE;clear lK iJ;go_wp2;go_ret;exact⟨rfl,HG.o⟩
  ·have hEb:(E == 10)=false:=by simpa using hE
   have P5:=ae (ajh mr.o hE (by omega));clear hE C4;go_wp2_with (first|(go_at_call 17;refine(CM.o _ _).mono ?_;rintro e w7 ⟨rfl,rfl⟩)|(go_at_call 8;refine(CN.o _ HG.o).mono ?_));rintro e w8 ⟨p1,q1,rfl,hn1,hg1⟩;replace HG:=ae (ag HG.o hg1);replace dZ:=ae (dV dZ.o hg1);have dw:=ae hn1;clear hn1 hg1;go_wp2_with (go_at_call 9;refine(CR.o _ HG.o).mono ?_);rintro e w9 ⟨p2,q2,rfl,hr2,hg2⟩;replace HG:=ae (ag HG.o hg2);replace dZ:=ae (dV dZ.o hg2);replace dw:=ae (dw.o.grow hg2);have HR2:=ae hr2;clear hr2 hg2;go_wp2_with (go_at_call 10;refine(CE.o _ HG.o).mono ?_);rintro e w10 ⟨p3,q3,rfl,he3,hg3⟩;replace HG:=ae (ag HG.o hg3);replace dZ:=ae (dV dZ.o hg3);have C5:=ae (CS.o (fu+100) (by omega) p1 q1 p2 q2 p3 q3 w10 (dw.o.grow hg3) (HR2.o.grow hg3) he3);clear he3 hg3 dw HR2
   go_wp2_with (go_at_call 11;refine C5.o.mono ?_);rintro e w11 ⟨iE,o11,c11,D1,E1,rfl,Zr,Zt⟩;obtain⟨hDD,hEE⟩:=wV P5.o Zt;subst hDD hEE;replace HG:=ae (ag HG.o iE);replace dZ:=ae (dV dZ.o iE);have ajk:=ae Zr;have C6:=ae (CT.o (by omega) w11 HG.o);clear iE Zr Zt;go_wp2_with (go_at_call 12;refine C6.o.mono ?_);rintro e w12 ⟨lJ,o12,c12,D2,E2,rfl,-,Zu⟩;obtain⟨hDD,hEE⟩:=wV mr.o Zu;subst hDD hEE;replace HG:=ae (ag HG.o lJ);have C7:=ae (CI.o D _ _ w12 (wX (dV dZ.o lJ)) (wX (dV ajk.o lJ)) sO.o);have hEq:(E == E)=true:=by simp
   have hDq:((D.length:Int) == (D.length:Int))=true:=by simp
   clear lJ Zu;go_wp2_with (go_at_call 16;refine C7.o.mono ?_);rintro e w13 ⟨rfl,tK⟩;replace HG:=ae (ag HG.o tK);clear tK;go_wp2_with (go_at_call 17;refine(CM.o _ _).mono ?_;rintro e w7 ⟨rfl,rfl⟩);go_ret;exact⟨rfl,HG.o⟩
end Go.Proofs.YtiinliaoojfjaaaGreatDoor
