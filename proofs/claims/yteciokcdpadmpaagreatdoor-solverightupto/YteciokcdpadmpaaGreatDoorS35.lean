import Derived.Test.YteciokcdpadmpaaGreatDoorS34
import Derived.Test.YteciokcdpadmpaaGreatDoorS33
set_option linter.all false
set_option maxRecDepth 100000
set_option maxHeartbeats 0
open Go.Proofs.Tryz
namespace Go.Proofs.YteciokcdpadmpaaGreatDoor
open Go.RowKit Go.Maps
theorem ae4(v v' vo:Value)(N:List Nd)(L:List Re)(O:List En)(fu:Int)(w:World)(h:NdS w v N)(h':ReS w v' L)(ho:EnS w vo O)(hN:N.length<=1040000)(hL:L.length<=1048576)(hLN:∀x∈L,x.nd.length<=1048576)(hS:∀y∈N,y.n.size<2 ^ 60/\y.r.size<2 ^ 60)(hSS:∀x∈L,∀y∈x.nd,y.n.size<2 ^ 60/\y.r.size<2 ^ 60)(hV:∀x∈L,x.nm.size<2 ^ 60/\x.ve.size<2 ^ 60)(hO:O.length<=1048576)(hOV:∀x∈O,x.ve.size<2 ^ 60)(hON:∀x∈O,x.nd.length<=1048576)(hfu:fu<9223372036854775808) :
  Calls prog 3 #[v,v',vo,.int .i64 fu] w fun e w'=>e=.returned (.bool true)/\w.grownBy w' none:=by
 have CN:=ae (fun w' (hg:w.grownBy w' none)=>YI v N w' (h.grow hg) (by omega));have CR:Hd (∀w',w.grownBy w' none->Calls prog 6 #[v'] w' fun e w''=>∃o c,e=.returned (.slice o L.length c)/\ReS w'' (.slice o L.length c) L/\w'.grownBy w'' none):=fun w' hg=>(aau v' L w' (h'.grow hg) hL hLN).mono fun e w'' ⟨z,h1,h2,h3⟩=>by
  obtain⟨o,c,rfl⟩:=BZ h2;exact⟨o,c,h1,h2,h3⟩
 have CE:=ae (fun w' (hg:w.grownBy w' none)=>aaw vo O w' (ho.grow hg) hO hON);have CS:Hd (∀o1 c1 o2 c2 o3 c3 w',NdS w' (.slice o1 N.length c1) N->ReS w' (.slice o2 L.length c2) L->EnS w' (.slice o3 O.length c3) O->Calls prog 4 #[.slice o1 N.length c1,.slice o2 L.length c2,.slice o3 O.length c3,.int .i64 fu] w' fun e w''=>∃(o:Option Addr) (c:Nat) (C:List Nat) (E:Int),e=.returned (.tuple #[.slice o C.length c,.int .i64 E])/\Hd (w'.grownBy w'' none/\((¬E=0/\C=[]/\(fU N L=0\/E=fU N L))\/(E=0/\fU N L=0/\IS w'' (.slice o C.length c) (C.map fun(k:Nat)=>(k:Int))/\iO N L (C.map fun(k:Nat)=>(k:Int))/\(C.Pairwise fun a b=>cT (aZ L a) (aZ L b)<=0)/\(C.map (aZ L)).Nodup/\C.length<=64/\∀k∈C,k<L.length)))):=fun o1 c1 o2 c2 o3 c3 w' h1 h2 h3=>(ae3 o1 o2 o3 c1 c2 c3 N L O fu w' h1 h2 h3 hN hL hLN hS hSS hV hO hOV hfu).mono fun e w'' ⟨k1,o,c,C,E,k2,k3⟩=>⟨o,c,C,E,k2,k1,k3⟩
 have CK:=ae (fun w' (hg:w.grownBy w' none)=>UU v' L w' (h'.grow hg) hL hV hLN hSS);have CM:=ae aas;have CD:=ae (fun(C:List Int) d w' (hg:w.grownBy w' none) (hi:IS w' d C) (hC:C.length<=64)=>aeO v v' d N L C w' (h.grow hg) (h'.grow hg) hi (by omega) hL (by omega) hS hV hLN hSS);have CG:=ae (fun(C:List Int) a b d w' (h1:NdS w' a N) (h2:ReS w' b L) (h3:IS w' d C) (hC:C.length<=64)=>aeM a b d N L C w' h1 h2 h3 (by omega) hL (by omega) hS hV hLN hSS);have pI:Hd (fU N L=if(dV L L.length).1=0 then dB N else 7):=rfl;have HRE:=ae (fun w' (hg:w.grownBy w' none)=>h'.grow hg);obtain⟨on,cn,rfl⟩:=uh h;obtain⟨ol,cl,rfl⟩:=BZ h';obtain⟨oe,ce,rfl⟩:=QQ ho;obtain⟨F,hF⟩:=zN ((dV L L.length).1);obtain⟨K,hK⟩:∃K:Int,((dV L L.length).2:Int)=K:=⟨_,rfl⟩;rw[hF]at CK pI;rw[hK]at CK;clear h h' ho hLN hS hSS hV hO hOV hON hF hK
 go_enter func3,ntmps3;have HG:=ae (ak w none);go_wp2_with (go_at_call 5;refine(CN.o _ HG.o).mono ?_);rintro e w1 ⟨o1,c1,rfl,hn1,hg1⟩;replace HG:=ae hg1;have jQ:=ae hn1;clear hn1 hg1;go_wp2_with (go_at_call 6;refine(CR.o _ HG.o).mono ?_);rintro e w2 ⟨o2,c2,rfl,hr2,hg2⟩;replace HG:=ae (ag HG.o hg2);replace jQ:=ae (jQ.o.grow hg2);have HR2:=ae hr2;clear hr2 hg2;go_wp2_with (go_at_call 7;refine(CE.o _ HG.o).mono ?_);rintro e w3 ⟨o3,c3,rfl,he3,hg3⟩;replace HG:=ae (ag HG.o hg3);have C1:=ae (CS.o o1 c1 o2 c2 o3 c3 w3 (jQ.o.grow hg3) (HR2.o.grow hg3) he3);clear he3 hg3 jQ HR2;go_wp2_with (go_at_call 4;refine C1.o.mono ?_);rintro e w4 ⟨o,c,C,E,rfl,hs⟩;have HS4:=ae hs.o.2;replace HG:=ae (ag HG.o hs.o.1);clear hs;go_wp2_with (go_at_call 8;refine(CK.o _ HG.o).mono ?_)
 rintro e w5 ⟨rfl,hg5⟩;have fC:=ae hg5;replace HG:=ae (ag HG.o hg5);clear hg5
 rcases HS4.o with⟨h0,rfl,hor⟩|⟨rfl,hf0,his,Ha,Vu,hnd,hcl,hlt⟩
 ·have hb:(E != 0)=true:=by simp[h0]
  clear h0
  by_cases hz:F=0
  ·subst hz;clear hor;go_wp2_with (go_at_call 9;refine(CM.o _ _).mono ?_;rintro e w6 ⟨rfl,rfl⟩);go_ret;exact⟨rfl,HG.o⟩
  ·have hE7:E=7:=by
    have h7:=pI.o;rw[if_neg hz]at h7
    rcases hor with h|h
    ·rw[h]at h7;exact absurd h7 (by decide)
    ·rw[h,h7]
   subst hE7;have hFz:(F == 0)=false:=by simp[hz]
   clear hor hz;go_wp2_with (go_at_call 9;refine(CM.o _ _).mono ?_;rintro e w6 ⟨rfl,rfl⟩);go_ret;exact⟨rfl,HG.o⟩
 ·obtain rfl:F=0:=by
   apply Classical.byContradiction;intro hz;have h7:=pI.o;rw[if_neg hz,hf0]at h7;exact absurd h7 (by decide)
  have hlen:(C.map fun(k:Nat)=>(k:Int)).length=C.length:=by simp
  have HIS:=ae (his.grow fC.o);have Vw:=ae Ha;have ae5:Hd (∀j,j+1<C.length->∃k1 k2:Nat,k1<L.length/\k2<L.length/\(∀(w':World) (a:Addr),(∀i (hi:i<C.length),World.cell? w' (a.add i)=some (.int .i64 (C[i]:Int)))->World.cell? w' (a.add j)=some (.int .i64 (k1:Int))/\World.cell? w' (a.add (j+1))=some (.int .i64 (k2:Int)))/\∀(h1:k1<L.length) (h2:k2<L.length),Op.bytesLess L[k1].nm.toList L[k2].nm.toList=true):=fun j hj=>by
   refine⟨C[j],C[j+1],hlt _ (List.getElem_mem _),hlt _ (List.getElem_mem _),fun w' a ha=>⟨ha j (by omega),ha (j+1) hj⟩,fun h1 h2=>?_⟩;have q1:=List.pairwise_iff_getElem.1 Vu j (j+1) (by omega) hj (by omega);have q2:=List.pairwise_iff_getElem.1 hnd j (j+1) (by simp;omega) (by simp;omega) (by omega);simp only[List.getElem_map]at q2;rw[qp L _ h1,qp L _ h2]at q1 q2;exact aa9 (by have:=uA.anti L[C[j]].nm L[C[j+1]].nm;omega) q2
  have C2:=ae (CD.o (C.map fun(k:Nat)=>(k:Int)) (.slice o C.length c) w5 HG.o HIS.o (by rw[hlen];exact hcl));have Ae:=ae hcl;clear his Ha Vu hnd hlt hf0;go_wp2_with (first|(go_at_call 9;refine(CM.o _ _).mono ?_;rintro e w6 ⟨rfl,rfl⟩)|(go_at_call 10;refine C2.o.mono ?_));rintro e w6 ⟨⟨b,rfl,hb⟩,dG⟩;obtain rfl:b=true:=hb.2 Vw.o;replace HG:=ae (ag HG.o dG);replace HIS:=ae (HIS.o.grow dG);clear hb dG;go_wp2_with (go_at_call 5;refine(CN.o _ HG.o).mono ?_);rintro e w7 ⟨o7,c7,rfl,Vx,gK⟩;replace HG:=ae (ag HG.o gK);replace HIS:=ae (HIS.o.grow gK);have Vy:=ae Vx;clear Vx gK;go_wp2_with (first|(go_at_call 6;refine(CR.o _ HG.o).mono ?_));rintro e w8 ⟨o8,c8,rfl,Vz,He⟩;replace HG:=ae (ag HG.o He);replace HIS:=ae (HIS.o.grow He);have C3:=ae (CG.o (C.map fun(k:Nat)=>(k:Int)) _ _ (.slice o C.length c) w8 (Vy.o.grow He) Vz HIS.o (by rw[hlen];exact Ae.o))
  clear Vz He Vy;go_wp2_with (go_at_call 11;refine C3.o.mono ?_);rintro e w9 ⟨⟨b,rfl,hb⟩,nI⟩;obtain rfl:b=true:=hb.2 Vw.o;replace HG:=ae (ag HG.o nI);replace HIS:=ae (HIS.o.grow nI);clear hb nI hlen;go_wp2;go_loopw [15] (fun vi wr=>∃j:Nat,vi=.int .i64 ((j:Int)+1)/\j<=C.length/\w9.grownBy wr none) (fun vi _=>C.length+1-(intOf vi).toNat)
  case atStart=>exact⟨0,rfl,Nat.zero_le _,ak _ _⟩
  case round =>
   obtain⟨j,rfl,hj,hg⟩:=hrel;obtain⟨wo,hwo⟩:∃wo,wo=wr:=⟨_,rfl⟩;subst hwo;have VC:=ae hg
   by_cases hlt:j+1<C.length
   ·obtain⟨k1,k2,q1,q2,q3,q4⟩:=ae5.o j hlt;obtain⟨a,ha,hcc,hat⟩:=uj (C:=C.map fun(k:Nat)=>(k:Int)) (o:=o) (c:=c) (w:=wo) (by have:=HIS.o.grow hg;rw[show(C.map fun(k:Nat)=>(k:Int)).length=C.length by simp];exact this) (i:=0) (by simp;omega);subst ha;obtain⟨e1,e2⟩:=q3 wo a (fun i hi=>by have:=hat i (by simpa using hi);rwa [List.getElem_map]at this);obtain⟨al,hal,afo,hre⟩:=rG (HRE.o wo (ag HG.o hg)) q1;subst hal;obtain⟨n1,-⟩:=hre k1 q1;obtain⟨n2,-⟩:=hre k2 q2;have hls:=q4 q1 q2;obtain⟨s1,hs1⟩:=zN (L[k1].nm);obtain⟨s2,hs2⟩:=zN (L[k2].nm);rw[hs1]at n1 hls;rw[hs2]at n2 hls;rw[List.length_map]at hcc;have hj1:j<c:=by omega
    have hj2:j+1<c:=by omega
    have i1:(j:Int)+1<(C.length:Int):=by omega
    have i2:((j:Int)+1).toNat=j+1:=by omega
    have i3:(0:Int)<=(j:Int)+1:=by omega
    have i4:(j:Int)<(C.length:Int):=by omega
    have i5:IntKind.i64.wrap (j:Int)=(j:Int):=by rw[IntKind.wrap_i64];have:=Ae.o;omega
    have i6:(k1:Int)<(L.length:Int):=by omega
    have i7:(k2:Int)<(L.length:Int):=by omega
    have e3:wo.cell? ⟨a.block,a.off+(j+1),none⟩=some (.int .i64 (k2:Int)):=by
     have hh:a.add (j+1)=⟨a.block,a.off+(j+1),none⟩:=by unfold Addr.add;rw[if_neg (by omega)]
     rw[<-hh];exact e2
    have h64:=Ae.o;clear hat hre hs1 hs2 q3 q4 hg;go_wp2;go_quiet (fail);go_wp2;exact⟨⟨j+1,by go_num,by omega,aG VC.o _⟩,by simp[intOf];omega⟩
   ·have i1:¬(j:Int)+1<(C.length:Int):=by omega
    have h64:=Ae.o;clear hg;go_wp2;go_ret;exact⟨rfl,ag HG.o VC.o⟩
end Go.Proofs.YteciokcdpadmpaaGreatDoor
