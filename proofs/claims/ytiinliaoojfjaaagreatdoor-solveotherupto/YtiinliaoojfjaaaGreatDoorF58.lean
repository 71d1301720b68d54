import Derived.Test.YtiinliaoojfjaaaGreatDoorF48
import Derived.Test.YtiinliaoojfjaaaGreatDoorF52
import Derived.Test.YtiinliaoojfjaaaGreatDoorF53
import Derived.Test.YtiinliaoojfjaaaGreatDoorF51
import Derived.Test.YtiinliaoojfjaaaGreatDoorF28
import Derived.Test.YtiinliaoojfjaaaGreatDoorF21
set_option linter.all false
set_option maxRecDepth 100000
set_option maxHeartbeats 0
open Go.Proofs.Tryz
namespace Go.Proofs.YtiinliaoojfjaaaGreatDoor
open Go.RowKit Go.Maps
theorem ZE{N:List Nd}{n:ByteArray}(h:jC N n=false):∀y∈N,¬y.n=n:=fun y hy e=>by
 unfold jC at h;rw[List.any_eq_false]at h;exact h y hy (by simpa using e)
def uV(N:List Nd)(L:List Re)(n:ByteArray)(i:Nat):Bool:=jC N n || (L.take i).any fun x=>jC x.nd n
theorem ajq(N:List Nd)(L:List Re)(n:ByteArray)(i:Nat)(hi:i<L.length):uV N L n (i+1)=(uV N L n i || jC L[i].nd n):=by
 unfold uV;rw[DC _ L i hi,Bool.or_assoc]
theorem ZF{N:List Nd}{L:List Re}{n:ByteArray}(h:uV N L n L.length=false):(∀y∈N,¬y.n=n)/\∀x∈L,∀y∈x.nd,¬y.n=n:=by
 unfold uV at h;rw[Bool.or_eq_false_iff,List.take_length,List.any_eq_false]at h;exact⟨ZE h.1,fun x hx=>ZE (by have:=h.2 x hx;simpa using this)⟩
theorem ajr(v v' vo sv:Value)(N:List Nd)(L:List Re)(O:List En)(fu:Int)(R:Re)(w:World)(h:NdS w v N)(h':ReS w v' L)(ho:EnS w vo O)(hR:NdS w sv R.nd)(hN:N.length<=1040000)(hL:L.length+1<=1048576)(hLN:∀x∈L++[R],x.nd.length<=1048576)(hS:∀y∈N,y.n.size<2 ^ 60/\y.r.size<2 ^ 60)(hSS:∀x∈L++[R],∀y∈x.nd,y.n.size<2 ^ 60/\y.r.size<2 ^ 60)(hV:∀x∈L++[R],x.nm.size<2 ^ 60/\x.ve.size<2 ^ 60)(hO:O.length<=1048576)(hOV:∀x∈O,x.ve.size<2 ^ 60)(hON:∀x∈O,x.nd.length<=1048576)(hfu:fu<9223372036854775808) :
  Calls prog 6 #[v,v',vo,.int .i64 fu,.agg #[.string R.nm,.string R.ve,sv,.string R.da]] w fun e w'=>e=.returned (.bool true)/\w.grownBy w' none:=by
 have hin:∀x∈L,x∈L++[R]:=fun x hx=>List.mem_append.2 (Or.inl hx)
 have lT:(L++[R]).length=L.length+1:=by simp
 have CN:=ae (fun w' (hg:w.grownBy w' none)=>Eu v N w' (h.grow hg) (by omega));have CR:Hd (∀w',w.grownBy w' none->Calls prog 9 #[v'] w' fun e w''=>∃o c,e=.returned (.slice o L.length c)/\ReS w'' (.slice o L.length c) L/\w'.grownBy w'' none):=fun w' hg=>(zu v' L w' (h'.grow hg) (by omega) (fun x hx=>hLN x (hin x hx))).mono fun e w'' ⟨z,h1,h2,h3⟩=>by
  obtain⟨o,c,rfl⟩:=qj h2;exact⟨o,c,h1,h2,h3⟩
 have CRM:Hd (∀u w',ReS w' u (L++[R])->Calls prog 9 #[u] w' fun e w''=>∃o c,e=.returned (.slice o (L++[R]).length c)/\ReS w'' (.slice o (L++[R]).length c) (L++[R])/\w'.grownBy w'' none):=fun u w' hu=>(zu u (L++[R]) w' hu (by omega) hLN).mono fun e w'' ⟨z,h1,h2,h3⟩=>by
  obtain⟨o,c,rfl⟩:=qj h2;exact⟨o,c,h1,h2,h3⟩
 have CE:=ae (fun w' (hg:w.grownBy w' none)=>IC vo O w' (ho.grow hg) hO hON);have CM:=ae EU;have CK:=ae (fun u w' (hu:ReS w' u (L++[R]))=>OV u (L++[R]) w' hu (by omega) hV hLN hSS);obtain⟨on,cn,rfl⟩:=mP h;obtain⟨ol,cl,rfl⟩:=qj h';obtain⟨oe,ce,rfl⟩:=zt ho;obtain⟨os,cs,rfl⟩:=mP hR;have CQ:=ae (fun u (M:List Nd) w' (hu:NdS w' u M) (hM:M.length<=1048576)=>ai2 u M R.nm w' hu hM);have CS:=ae (fun o1 c1 o2 c2 o3 c3 w' h1 h2 h3=>Am o1 o2 o3 c1 c2 c3 N L O fu w' h1 h2 h3 hN (by omega) (fun x hx=>hLN x (hin x hx)) hS (fun x hx=>hSS x (hin x hx)) (fun x hx=>hV x (hin x hx)) hO hOV hfu);have CSM:=ae (fun o1 c1 o2 c2 o3 c3 w' h1 h2 h3=>Am o1 o2 o3 c1 c2 c3 N (L++[R]) O fu w' h1 h2 h3 hN (by omega) hLN hS hSS hV hO hOV hfu);have CT:=ae (fun w' (hg:w.grownBy w' none)=>Gw on ol oe cn cl ce N L O fu w' (h.grow hg) (h'.grow hg) (ho.grow hg) hN (by omega) (fun x hx=>hLN x (hin x hx)) hS (fun x hx=>hSS x (hin x hx)) (fun x hx=>hV x (hin x hx)) hO hOV hfu)
 have CI:=ae (fun(D:List Nat) u u' w' (h1:IS w' u (D.map fun(k:Nat)=>(k:Int))) (h2:IS w' u' (D.map fun(k:Nat)=>(k:Int))) (hD:D.length<=64)=>Ns u u' _ w' h1 h2 (by rw[List.length_map];omega));have HN:=ae (fun w' (hg:w.grownBy w' none)=>h.grow hg);have gq:=ae (fun w' (hg:w.grownBy w' none) i (hi:i<L.length)=>lq (h'.grow hg) hi);have bW:=ae (fun i (hi:i<L.length)=>hLN L[i] (hin _ (List.getElem_mem hi)));obtain⟨X0,hX0⟩:=zN w.heap.size;obtain⟨W1,hW1⟩:=zN (w.alloc (.cells #[.string R.nm,.string R.ve,.slice os R.nd.length cs,.string R.da] 51));have g1:w.grownBy W1 none:=by rw[<-hW1];exact ak (ai w none) _
 have kX:Hd (W1.heap[X0]?=some (.cells #[.string R.nm,.string R.ve,.slice os R.nd.length cs,.string R.da] 51 (0,0))):=by rw[<-hW1,<-hX0];exact heap_alloc_new w _
 have bg:=ae g1;obtain⟨vs,hvl,hvn,hsl⟩:=ai3 (h'.grow g1);have lm:=ae hsl;have wY:Hd (∀w',W1.grownBy w' none->∀o c B,w'.ownsRow B 51 4 (.slice o (L.length+1) c) (L.length+1) (jd L vs++kR R (.slice os R.nd.length cs))->ReS w' (.slice o (L++[R]).length c) (L++[R])):=fun w' hg o c B hown=>by
  rw[lT];refine Zf (vs:=vs++[.slice os R.nd.length cs]) (base:=B) (t:=51) (by simp[hvl]) ?_ fun i hi=>?_
  ·rw[lT,KG _ _ _ _ hvl.symm];exact hown
  ·by_cases hi':i<L.length
   ·rw[List.getElem_append_left (by omega),List.getElem_append_left hi'];exact(hvn i hi').grow hg
   ·have:i=L.length:=by rw[lT]at hi;omega
    subst this;rw[List.getElem_append_right (by omega),List.getElem_append_right (by omega)];simp only[hvl,Nat.sub_self,List.getElem_cons_zero];exact hR.grow (ag g1 hg)
 obtain⟨i0,hi0,hii⟩:=Option.map_eq_some_iff.1 Ze;simp only[Prod.mk.injEq]at hii;obtain⟨hz0,hz1,hzb⟩:=hii;obtain⟨B,hB⟩:=zN (W1.heap.size);have HB:=ae hB;obtain⟨x0,x1,x2,x3⟩:=uM kX.o;clear h h' ho hR hLN hS hSS hV hOV hON hin hvn hsl g1 hB;go_enter func6,ntmps6;go_upto_region 3 with(first|(at_builtin;refine IL (base:=B) rfl _ _ 23 rfl i0 (.agg #[.string ⟨#[]⟩,.string ⟨#[]⟩,.slice none 0 0,.string ⟨#[]⟩]) 72 underlying23 hi0 hz0 hz1 hzb rfl (by decide) rfl ol L.length cl (jd L vs) rfl lm.o (by unfold maxLen;omega) (by omega) (by rw[HB.o];exact Nat.le_refl _) ?_;intro o2 c2 w2 hown2 hg2))
 have y0:=hg2.cell x0 (by simp);have y1:=hg2.cell x1 (by simp);have y2:=hg2.cell x2 (by simp);have y3:=hg2.cell x3 (by simp);have hs2:=hg2.size;rw[HB.o]at hs2;have HG2:=ae hg2;clear hg2 x0 x1 x2 x3 hW1;go_wp2_with (first|(at_builtin;refine wpList_append_lies _ rfl _ _ 23 rfl B 51 i0 _ 4 72 underlying23 hi0 hz0 hz1 hzb rfl (by decide) _ _ _ rfl (hown2.alloc _) _ 1 1 (kR R (.slice os R.nd.length cs)) rfl rfl (World.news_of_block (heap_alloc_new _ _)) (Hm R _ rfl) (by decide) (by unfold maxLen;omega) (by omega) (by simp;omega) _ rfl ?_;intro g3 cap3 w3 hown3 hgrow3 iI hlt3));have tK:W1.grownBy w3 none:=sK (ak HG2.o _) hgrow3 (fun q hq=>by rw[HB.o];exact(hown2.lt q hq).1);have hres:=wY.o w3 tK (some ⟨g3,0,none⟩) cap3 B hown3;have bD:=ae (ag bg.o tK);have uk:=ae ((tK.block X0 (aC kX.o) (by simp)).trans kX.o)
 have C3:=ae (CK.o _ w3 hres);have jO:=ae hres;rw[lT]at C3;obtain⟨F,hF⟩:=zN ((bQ (L++[R]) (L.length+1)).1);obtain⟨P,hP⟩:=zN ((bQ (L++[R]) (L.length+1)).2);rw[hF,hP]at C3;have HF:=ae hF;clear hown2 hown3 hgrow3 iI hlt3 tK hres y0 y1 y2 y3 hF hP hvl;go_wp2_with (first|(go_at_call 20;refine C3.o.mono ?_));rintro e w4 ⟨rfl,hg4⟩;have eX:=ae hg4;have x0:=(uM ((hg4.block X0 (aC uk.o) (by simp)).trans uk.o)).1;have C5:=ae (CQ.o _ N w4 (HN.o w4 (ag bD.o hg4)) (by omega));have ZG:Hd (jC N R.nm=uV N L R.nm 0):=by
  show _=_;simp[uV]
 obtain⟨b0,hb0⟩:=zN (jC N R.nm);rw[hb0]at C5 ZG;clear hg4 hb0;go_wp2_with (go_at_call 21;refine C5.o.mono ?_);rintro e w5 ⟨rfl,hg5⟩;replace eX:=ae (ag eX.o hg5);clear hg5 x0;go_wp2;have HAS:=ae (fun i (hi:i<L.length)=>ajq N L R.nm i hi);go_loopw [14,15] (fun vb vi wr=>∃i:Nat,vi=.int .i64 i/\i<=L.length/\vb=.bool (uV N L R.nm i)/\w3.grownBy wr none) (fun _ vi _=>L.length-(intOf vi).toNat)
 case atStart=>exact⟨0,rfl,Nat.zero_le _,by rw[ZG.o],eX.o⟩
 case round =>
  obtain⟨i,rfl,hi,rfl,hg⟩:=hrel;have HG:=ae hg;obtain⟨wo,hwo⟩:∃wo,wo=wr:=⟨_,rfl⟩;subst hwo
  by_cases hlt:i<L.length
  ·have x0:=(uM ((hg.block X0 (aC uk.o) (by simp)).trans uk.o)).1;obtain⟨a2,ho2,hcp2,gu⟩:=gq.o wo (ag bD.o hg) i hlt;obtain⟨-,-,⟨sv,q2,q2'⟩,-⟩:=gu i hlt;have hml:=bW.o i hlt;have hst:=HAS.o i hlt;obtain⟨y,hy⟩:=zN (L[i]);rw[hy]at q2' hml hst;obtain⟨so,sc,rfl⟩:=Jp q2';have C6:=ae (CQ.o _ y.nd wo.drew (q2'.grow (yD wo)) hml);obtain⟨b,hb⟩:=zN (uV N L R.nm i);obtain⟨q,hq⟩:=zN (jC y.nd R.nm);rw[hb,hq]at hst;rw[hq]at C6;rw[hb];have HST:=ae hst;have hic:i<cl:=by omega
   subst ho2;clear hg gu hcp2 q2' hml hst hy hb hq;go_wp2
   go_region_held3 (fun u=>u.cell? ⟨(a2.add (i*4)).block,(a2.add (i*4)).off+2,none⟩=some (.slice so y.nd.length sc)/\u.cell? ⟨X0,0,none⟩=some (.string R.nm)) ((first|exact XR (by assumption) (by assumption)|go_keep)) (first|(go_at_call 21;refine C6.o.mono ?_;rintro e w6 ⟨rfl,dP⟩))
   have jq:=ae (ag HG.o (dF dP));clear dP x0 q2
   cases b with
   | true =>
    go_wp2;exact⟨⟨i+1,by go_num,by omega,by rw[HST.o];rfl,jq.o⟩,by simp[intOf];omega⟩
   | false =>
    go_wp2;exact⟨⟨i+1,by go_num,by omega,by rw[HST.o];rfl,jq.o⟩,by simp[intOf];omega⟩
  ·have hie:i=L.length:=by omega
   subst hie;obtain⟨b,hb⟩:=zN (uV N L R.nm L.length);rw[hb];have lV:=ae hb;have dH:=ae (ag bD.o hg);have HR3:=ae (jO.o.grow hg);clear hg hb;go_wp2_with (go_at_call 8;refine(CN.o _ dH.o).mono ?_);rintro e w7 ⟨p1,q1,rfl,hn1,hg1⟩;replace dH:=ae (ag dH.o hg1);replace HR3:=ae (HR3.o.grow hg1);have dw:=ae hn1;clear hn1 hg1;go_wp2_with (go_at_call 9;refine(CR.o _ dH.o).mono ?_);rintro e w8 ⟨p2,q2,rfl,hr2,hg2⟩;replace dH:=ae (ag dH.o hg2);replace HR3:=ae (HR3.o.grow hg2);replace dw:=ae (dw.o.grow hg2);have HR2:=ae hr2;clear hr2 hg2;go_wp2_with (go_at_call 10;refine(CE.o _ dH.o).mono ?_);rintro e w9 ⟨p3,q3,rfl,he3,hg3⟩;replace dH:=ae (ag dH.o hg3);replace HR3:=ae (HR3.o.grow hg3);have C7:=ae (CS.o p1 q1 p2 q2 p3 q3 w9 (dw.o.grow hg3) (HR2.o.grow hg3) he3)
   clear he3 hg3 dw HR2;go_wp2_with (go_at_call 11;refine C7.o.mono ?_);rintro e w10 ⟨mi,o10,c10,D,E,rfl,ZH,Qk⟩;replace dH:=ae (ag dH.o mi);replace HR3:=ae (HR3.o.grow mi);have mr:=ae Qk;have tN:=ae ZH;have sO:Hd (D.length<=64):=by
    rcases Qk with⟨-,-,rfl⟩|⟨-,-,-,rfl⟩|⟨-,-,-,rfl⟩|⟨-,-,-,-,-,hd,-⟩
    ·exact Nat.zero_le _
    ·exact Nat.zero_le _
    ·exact Nat.zero_le _
    ·exact hd
   clear mi ZH Qk;go_wp2_with (first|(go_at_call 8;refine(CN.o _ dH.o).mono ?_));rintro e w11 ⟨r1,s1,rfl,hn1,hg1⟩;replace dH:=ae (ag dH.o hg1);replace tN:=ae (dV tN.o hg1);have C8:=ae (CRM.o _ w11 (HR3.o.grow hg1));rw[lT]at C8;have dw:=ae hn1;clear hn1 hg1;go_wp2_with (go_at_call 9;refine C8.o.mono ?_);rintro e w12 ⟨r2,s2,rfl,hr2,hg2⟩;replace dH:=ae (ag dH.o hg2);replace tN:=ae (dV tN.o hg2);replace dw:=ae (dw.o.grow hg2);have HR2:=ae hr2;clear hr2 hg2;go_wp2_with (go_at_call 10;refine(CE.o _ dH.o).mono ?_);rintro e w13 ⟨r3,s3,rfl,he3,hg3⟩;replace dH:=ae (ag dH.o hg3);replace tN:=ae (dV tN.o hg3);have C9:=ae (CSM.o r1 s1 r2 s2 r3 s3 w13 (dw.o.grow hg3) (by rw[lT];exact HR2.o.grow hg3) he3);rw[lT]at C9;clear he3 hg3 dw HR2;go_wp2_with (go_at_call 11;refine C9.o.mono ?_)
   rintro e w14 ⟨D5,o14,c14,D',E',rfl,ZI,ZJ⟩;replace dH:=ae (ag dH.o D5);replace tN:=ae (dV tN.o D5);have ajs:=ae ZJ;have Ql:=ae ZI;have C10:=ae (CT.o w14 dH.o);clear D5 ZI ZJ;go_wp2_with (go_at_call 12;refine C10.o.mono ?_);rintro e w15 ⟨JS,o15,c15,D'',E'',rfl,-,ZK⟩;replace dH:=ae (ag dH.o JS);have hEE:=(wV mr.o ZK).2;subst hEE;replace tN:=ae (dV tN.o JS);replace Ql:=ae (dV Ql.o JS);have hne:(E != E)=false:=by simp
   clear JS ZK
   by_cases hF0:F=0
   ·have hFb:(F != 0)=false:=by simp[hF0]
    cases b with
    | true =>
     clear hF0;go_wp2_with (go_at_call 17;refine(CM.o _ _).mono ?_;rintro e w7 ⟨rfl,rfl⟩);go_ret;exact⟨rfl,dH.o⟩
    | false =>
     have hq:(bQ (L++[R]) (L++[R]).length).1=0:=by rw[lT,HF.o,hF0]
     obtain⟨hDD,hE2⟩:=wV (aiy hq (ZF lV.o).1 (ZF lV.o).2 mr.o) ajs.o;subst hDD hE2;have Gn:=ae (CI.o D _ _ w15 (wX tN.o) (wX Ql.o) sO.o);have hEq:(E == E)=true:=by simp
     clear hF0 hq;go_wp2_with (first|(go_at_call 17;refine(CM.o _ _).mono ?_;rintro e w7 ⟨rfl,rfl⟩)|(go_at_call 16;refine Gn.o.mono ?_));rintro e w16 ⟨rfl,ZL⟩;replace dH:=ae (ag dH.o ZL);clear ZL;go_wp2;go_ret;exact⟨rfl,dH.o⟩
   ·have hFb:(F != 0)=true:=by simp[hF0]
    clear hF0;go_wp2_with (go_at_call 17;refine(CM.o _ _).mono ?_;rintro e w7 ⟨rfl,rfl⟩);go_ret;exact⟨rfl,dH.o⟩
end Go.Proofs.YtiinliaoojfjaaaGreatDoor
