import Derived.Test.YtiinliaoojfjaaaGreatDoorF49
import Derived.Test.YtiinliaoojfjaaaGreatDoorF52
import Derived.Test.YtiinliaoojfjaaaGreatDoorF53
import Derived.Test.YtiinliaoojfjaaaGreatDoorF51
set_option linter.all false
set_option maxRecDepth 100000
set_option maxHeartbeats 0
open Go.Proofs.Tryz
namespace Go.Proofs.YtiinliaoojfjaaaGreatDoor
open Go.RowKit Go.Maps
def JO(x:Re):Re:=⟨x.nm,x.ve,[],x.da⟩
theorem ajl{w w':World}{p:Addr}{x y z:Value}{r:Option Nat}(hg:w.grownBy w' r)(hn:some p.block≠r)(h:w.cell? p=some x/\w.cell? ⟨p.block,p.off+1,none⟩=some y/\w.cell? ⟨p.block,p.off+3,none⟩=some z):w'.cell? p=some x/\w'.cell? ⟨p.block,p.off+1,none⟩=some y/\w'.cell? ⟨p.block,p.off+3,none⟩=some z :=
 ⟨hg.cell h.1 hn,hg.cell h.2.1 hn,hg.cell h.2.2 hn⟩
def yK(L:List Re)(i:Nat):List Value:=jd ((L.take i).map JO) (List.replicate i (.slice none 0 0))
theorem st_next(L:List Re)(i:Nat)(hi:i<L.length):yK L (i+1)=yK L i++kR (JO L[i]) (.slice none 0 0):=by
 unfold yK;rw[List.take_succ_eq_append_getElem hi,List.map_append,List.replicate_succ'];exact KG _ _ _ _ (by simp;omega)
theorem ajm(v':Value)(L:List Re)(name text:ByteArray)(w:World)(h':ReS w v' L)(hL:L.length<=1048576)(hV:∀x∈L,x.nm.size<2 ^ 60/\x.ve.size<2 ^ 60)(hn:name.size<2 ^ 60)(ht:text.size<2 ^ 60) :
  Calls prog 7 #[v',.string name,.string text] w fun e w'=>e=.returned (.bool true)/\w.grownBy w' none:=by
 obtain⟨M,hM⟩:=zN (L.map JO);have Qc:M.length=L.length:=by rw[<-hM,List.length_map]
 have Gx:∀x∈M,x.nd=[]:=fun x hx=>by
  rw[<-hM]at hx;obtain⟨y,-,rfl⟩:=List.mem_map.1 hx;rfl
 have JP:∀x∈M,x.nm.size<2 ^ 60/\x.ve.size<2 ^ 60:=fun x hx=>by
  rw[<-hM]at hx;obtain⟨y,hy,rfl⟩:=List.mem_map.1 hx;exact hV y hy
 have lT:∀x∈M,x.nd.length<=1048576:=fun x hx=>by rw[Gx x hx];simp
 have Qd:∀x∈M,∀y∈x.nd,y.n.size<2 ^ 60/\y.r.size<2 ^ 60:=fun x hx y hy=>by rw[Gx x hx]at hy;cases hy
 have Qe:∀y∈[(⟨name,text⟩:Nd)],y.n.size<2 ^ 60/\y.r.size<2 ^ 60:=fun y hy=>by rw[List.mem_singleton.1 hy];exact⟨hn,ht⟩
 have CN:=ae (fun u w' (hu:NdS w' u [⟨name,text⟩])=>Eu u [⟨name,text⟩] w' hu (by simp));have CR:Hd (∀u w',ReS w' u M->Calls prog 9 #[u] w' fun e w''=>∃o c,e=.returned (.slice o M.length c)/\ReS w'' (.slice o M.length c) M/\w'.grownBy w'' none):=fun u w' hu=>(zu u M w' hu (by omega) lT).mono fun e w'' ⟨z,h1,h2,h3⟩=>by
  obtain⟨o,c,rfl⟩:=qj h2;exact⟨o,c,h1,h2,h3⟩
 have CM:=ae EU;have CS:=ae (fun o1 c1 o2 c2 w' h1 h2=>Am o1 o2 none c1 c2 0 [⟨name,text⟩] M [] 3000 w' h1 h2 (Or.inl ⟨rfl,rfl⟩) (by simp) (by omega) lT Qe Qd JP (by decide) (fun x hx=>(by cases hx)) (by omega));have CT:=ae (fun o1 c1 o2 c2 w' h1 h2=>Gw o1 o2 none c1 c2 0 [⟨name,text⟩] M [] 3000 w' h1 h2 (Or.inl ⟨rfl,rfl⟩) (by simp) (by omega) lT Qe Qd JP (by decide) (fun x hx=>(by cases hx)) (by omega));have CRR:=ae (fun w'=>Ou text w' ht);obtain⟨ol,cl,rfl⟩:=qj h';have gq:=ae (fun w' (hg:w.grownBy w' none) i (hi:i<L.length)=>lq (h'.grow hg) hi);have gp:Hd (∀{a:Addr} {v:Value},w.cell? a=some v->a.block<w.heap.size):=fun h=>qP h
 have HST:=ae (fun i (hi:i<L.length)=>st_next L i hi);have HRW:Hd (∀w' B vm,w'.ownsRow B 51 4 vm L.length (yK L L.length)->ReS w' vm M):=fun w' B vm hown=>by
  unfold yK at hown;rw[List.take_length,hM]at hown;rw[<-Qc]at hown;refine Zf (vs:=List.replicate M.length (.slice none 0 0)) (by simp) hown fun i hi=>?_
  rw[List.getElem_replicate,Gx _ (List.getElem_mem hi)];exact Or.inl ⟨rfl,rfl⟩
 obtain⟨i0,hi0,hii⟩:=Option.map_eq_some_iff.1 Ze;simp only[Prod.mk.injEq]at hii;obtain⟨hz0,hz1,hzb⟩:=hii;have HMN:=ae Gx;have Ap:=ae Qc;have HMV:=ae JP;clear h' hV Gx JP lT Qd Qe Qc hM;go_enter func7,ntmps7;go_wp2;go_loopw [7,8] (fun vm vi wr=>∃i:Nat,vi=.int .i64 i/\i<=L.length/\wr.ownsRow w.heap.size 51 4 vm i (yK L i)/\Below w.heap.size w wr) (fun _ vi _=>L.length-(intOf vi).toNat)
 case atStart=>exact⟨0,rfl,Nat.zero_le _,World.ownsRow_nil _ _ _ _,Below.refl _ _⟩
 case round =>
  obtain⟨i,rfl,hi,hown,hb⟩:=hrel;have hzz:=hb.size
  by_cases hlt:i<L.length
  ·obtain⟨a,ho,hcp,hat⟩:=gq.o wr (gz hb) i hlt;obtain⟨e0,e1,-,e3⟩:=hat i hlt;obtain⟨a',ho',-,hat'⟩:=gq.o w (ai _ _) i hlt;obtain rfl:a=a':=Option.some.inj (ho.symm.trans ho');have jS:Hd (some (a.add (i*4)).block≠u7.ownBlock):=fun e=>by
    have h1:=(hown.lt _ e.symm).1;have h2:=gp.o (hat' i hlt).1;omega
   have hst:=HST.o i hlt;obtain⟨s,hs⟩:=zN (L[i]);rw[hs]at hst e0 e1 e3;have HS2:=ae hst;have hic:i<cl:=by omega
   subst ho;clear hat hat' ho' hcp hst hs;go_wp2
   go_region_held3 (fun u=>u.cell? (a.add (i*4))=some (.string s.nm)/\u.cell? ⟨(a.add (i*4)).block,(a.add (i*4)).off+1,none⟩=some (.string s.ve)/\u.cell? ⟨(a.add (i*4)).block,(a.add (i*4)).off+3,none⟩=some (.string s.da)) ((first|exact ajl (by assumption) (by first|exact jS.o|simp) (by assumption)|go_keep)) (first|(refine step_append_lies _ (by rfl) _ _ _ (by rfl) w.heap.size 51 i0 _ 4 72 underlying23 hi0 hz0 hz1 hzb (by rfl) (by decide) u7 i (yK L i) (by rfl) (hown.drew.alloc _) _ 1 1 (kR (JO s) (.slice none 0 0)) (by rfl) (by rfl) (World.news_of_block (heap_alloc_new _ _)) (Hm _ _ rfl) (by omega) (by unfold maxLen;omega) (by omega) (by simp;omega) _ rfl ?_;intro g cap1 w3 hown3 hgrow hat hlt3))
   have hb2:Below w.heap.size w wr.drew:=hbelow hb hzz (yD wr);have HB3:=ae ((hb2.alloc hzz _).grown hgrow (by simp;omega) (fun q hq=>(hown.lt q hq).1));have jl:Hd (w3.ownsRow w.heap.size 51 4 (.slice (some ⟨g,0,none⟩) (i+1) cap1) (i+1) (yK L (i+1))):=by show World.ownsRow _ _ _ _ _ _ _;rw[HS2.o];exact hown3
   clear hown3 hgrow hat hb2 hown hb hlt3 e0 e1 e3;go_wp2;go_roundw
   case rel=>exact⟨i+1,by go_num,by omega,jl.o,HB3.o⟩
   case measure=>simp[intOf];omega
  ·have hie:i=L.length:=by omega
   subst hie;have jO:=ae (HRW.o wr _ _ hown);have HG:=ae (gz hb);obtain⟨om,cm,hvm⟩:=mY hown;subst hvm;obtain⟨wo,hwo⟩:∃wo,wo=wr:=⟨_,rfl⟩;subst hwo;obtain⟨W,hW⟩:=zN (wo.alloc (.cells #[.string name,.string text] 56));have gW:wo.grownBy W none:=by rw[<-hW];exact ak (ai wo none) _
   have hbW:W.heap[wo.heap.size]?=some (.cells #[.string name,.string text] 56 (0,0)):=by rw[<-hW];exact heap_alloc_new wo _
   have JQ:NdS W (.slice (some ⟨wo.heap.size,0,none⟩) 1 1) [⟨name,text⟩]:=Or.inr ⟨_,1,rfl,Nat.le_refl _,fun i hi=>by
    have:i=0:=by simp at hi;omega
    subst this;exact⟨by rw[Nat.zero_mul,uo,ah hbW];rfl,by rw[Nat.zero_mul,uo];show World.cell? _ ⟨wo.heap.size,1,none⟩=_;rw[ah hbW];rfl⟩⟩
   replace jO:=ae (jO.o.grow gW);replace HG:=ae (ag HG.o gW);obtain⟨B,hB⟩:=zN (wo.heap.size);rw[hB]at JQ;have jW:=ae JQ;have C1:=ae (CN.o _ W JQ);clear hown hb gW hbW JQ hzz;go_wp2_with (go_at_call 8;refine C1.o.mono ?_);rintro e w3 ⟨o1,c1,rfl,hn1,hg1⟩;replace HG:=ae (ag HG.o hg1);replace jO:=ae (jO.o.grow hg1);replace jW:=ae (jW.o.grow hg1);have dw:=ae hn1;have C2:=ae (CR.o _ w3 jO.o);clear hn1 hg1 hW hB;go_wp2_with (go_at_call 9;refine C2.o.mono ?_);rintro e w4 ⟨o2,c2,rfl,hr2,hg2⟩;replace HG:=ae (ag HG.o hg2);replace jO:=ae (jO.o.grow hg2);replace jW:=ae (jW.o.grow hg2);have C3:=ae (CS.o o1 c1 o2 c2 w4 (dw.o.grow hg2) hr2);clear hr2 hg2 dw;go_wp2_with (go_at_call 11;refine C3.o.mono ?_);rintro e w5 ⟨hg5,o5,c5,D,E,rfl,hown5,iJ⟩;replace HG:=ae (ag HG.o hg5)
   replace jO:=ae (jO.o.grow hg5);replace jW:=ae (jW.o.grow hg5);have mr:=ae iJ;have jY:=ae hown5;have C4:=ae (CT.o (some ⟨B,0,none⟩) 1 om cm w5 jW.o (by rw[Ap.o];exact jO.o));rw[Ap.o]at C4;clear hg5 hown5 iJ;go_wp2_with (go_at_call 12;refine C4.o.mono ?_);rintro e w6 ⟨dP,o6,c6,D',E',rfl,-,Zv⟩;have hEE:=(wV mr.o Zv).2;subst hEE;replace HG:=ae (ag HG.o dP);replace jO:=ae (jO.o.grow dP);replace jY:=ae (dV jY.o dP);have hne:(E != E)=false:=by simp
   clear dP Zv C1 C2 C3 C4
   by_cases hE:E=0\/E=8
   ·have ajn:=ae (fun b (hb:BestP name text M M.length b)=>aiC HMN.o mr.o hE hb);have hok:=aiB mr.o hE;go_upto_region 11 with(first|(go_at_call 17;refine(CM.o _ _).mono ?_;rintro e w7 ⟨rfl,rfl⟩))
    go_cut [78] from 73 (fun v78 wx=>v78=.bool false/\wx=w7)
    case first =>
     rcases hE with rfl|rfl
     ·go_wp2;go_meet;exact⟨rfl,rfl⟩
     ·go_wp2;go_meet;exact⟨rfl,rfl⟩
    case rest =>
     obtain⟨rfl,rfl⟩:=hcut;have Pg:Hd (∀(A:List (List Tq)) s,A.map (·.map cO)=(fJ text.data.toList).2.2->wR A (cutV (aK s))=dE text s):=fun A s hA=>by
      show _=_;unfold dE;rw[Xm,hA]
     have gJ:=ae (of_decide_eq_true hok);clear hE hok;go_wp2_with (go_at_call 22;refine(CRR.o _).mono ?_);rintro e w8 ⟨os,ns,cs,A,rfl,lK,hok⟩;obtain⟨k1,k2,k3,k4⟩:=hok gJ.o;have lL:Hd (SsAt w8 (.slice os ns cs) A/\A.length<=201/\∀L∈A,L.length<=1000/\∀x∈L,jL x):=⟨Xl k1,k3,k4⟩;have HAQ:=ae (fun s=>Pg.o A s k2);replace HG:=ae (ag HG.o lK);replace jO:=ae (jO.o.grow lK);replace jY:=ae (dV jY.o lK);have CQ:Hd (∀s w',w8.grownBy w' none->Calls prog 24 #[.slice os ns cs,eY (aK s)] w' fun e w''=>e=.returned (.bool (dE text s))/\w'.grownBy w'' none):=fun s w' hg=>(Xn (.slice os ns cs) A _ _ _ _ _ w' (lL.o.1.grow hg) lL.o.2.1 lL.o.2.2 (by have:=sF s;show(aK s).pre.toArray.size<=_;simp;omega)).mono fun e w'' ⟨he,hg⟩=>⟨by rw[he,<-HAQ.o s];simp[cutV],hg⟩
     have CV:Hd (∀x∈M,∀w',Calls prog 23 #[.string x.ve] w' fun e w''=>(∃(E k:Int),e=.returned (.tuple #[eY (aK x.ve),.int .i64 E,.int .i64 k]))/\w'.grownBy w'' none):=fun x hx w'=>(MC x.ve w' (by have:=(HMV.o x hx).2;omega)).mono fun e w'' ⟨h1,h2⟩=>⟨⟨_,_,h1⟩,h2⟩
     have CC:Hd (∀(s t:ByteArray) (w':World),Calls prog 25 #[eY (aK s),eY (aK t)] w' fun e w''=>e=.returned (.int .i64 (aB (cutV (aK s)) (cutV (aK t))))/\w'.grownBy w'' none):=fun s t w'=>by
      have p1:=sF s;have p2:=sF t;refine(yQ _ _ _ _ _ _ _ _ _ _ w' (by show(aK s).pre.toArray.size<=_;simp;omega) (by show(aK t).pre.toArray.size<=_;simp;omega)).mono ?_;rintro e w'' ⟨rfl,h⟩;refine⟨?_,⟨h.os,h.tape,h.output,h.size,fun k hk _=>h.block k hk⟩⟩;simp[cutV]
     clear lK hok k1 k2 k3 k4;go_wp2;have HAK:Hd (∀i (hi:i<M.length),pM name text M i=(decide (M[i].nm=name) && dE text M[i].ve)):=fun i hi=>by
      show _=_;unfold pM;rw[mX M i hi,wM M i hi]
     have nK:Hd (∀i (hi:i<M.length),fF M i=cutV (aK M[i].ve)):=fun i hi=>by
      show _=_;unfold fF;rw[wM M i hi]
     go_loopw [17,18] (fun vb vi wr=>∃(i:Nat) (b:Int),vi=.int .i64 i/\vb=.int .i64 b/\i<=L.length/\BestP name text M i b/\w8.grownBy wr none) (fun _ vi _=>L.length-(intOf vi).toNat)
     case atStart=>exact⟨0,-1,rfl,rfl,Nat.zero_le _,Or.inl ⟨rfl,fun k hk=>absurd hk (by omega)⟩,ai _ _⟩
     case round =>
      obtain⟨i,b,rfl,rfl,hi,JR,hg⟩:=hrel;have Aq:=ae JR;have dH:=ae hg;obtain⟨wp,hwp⟩:∃wp,wp=wr:=⟨_,rfl⟩;subst hwp
      by_cases hlt:i<L.length
      ·have hiM:i<M.length:=by rw[Ap.o];exact hlt
       obtain⟨a,ho,hcp,hat⟩:=lq (o:=om) (c:=cm) (L:=M) (w:=wp) (by rw[Ap.o];exact jO.o.grow hg) hiM;obtain⟨e0,e1,-,-⟩:=hat i hiM;have hak:=HAK.o i hiM;have hvk:=nK.o i hiM;have hcv:=CV.o M[i] (List.getElem_mem hiM);have hcq:=CQ.o M[i].ve;have hcc:=CC.o M[i].ve;obtain⟨nm,hnm⟩:=zN (M[i].nm);obtain⟨s,hs⟩:=zN (M[i].ve);rw[hnm,hs]at hak;rw[hs]at hvk hcv hcq hcc e1;rw[hnm]at e0;rw[Ap.o]at hcp;have HAT:=ae (fun w' (hg:w8.grownBy w' none) j (hj:j<M.length)=>lq (o:=om) (c:=cm) (L:=M) (w:=w') (by rw[Ap.o];exact jO.o.grow hg) (i:=j) hj);unfold eY at hcv hcq hcc;obtain⟨x1,hx1⟩:=zN ((aK s).major);obtain⟨x2,hx2⟩:=zN ((aK s).minor);obtain⟨x3,hx3⟩:=zN ((aK s).patch);obtain⟨x4,hx4⟩:∃x:ByteArray,⟨(aK s).pre.toArray⟩=x:=⟨_,rfl⟩;obtain⟨x5,hx5⟩:∃x:ByteArray,⟨(aK s).build.toArray⟩=x:=⟨_,rfl⟩;rw[hx1,hx2,hx3,hx4,hx5]at hcv hcq hcc
       obtain⟨q,hq⟩:=zN (dE text s);rw[hq]at hcq hak;have C1:=ae hcv;have C2:=ae hcq;have C3:=ae hcc;have Qg:=ae hak;have ajo:=ae hvk;have hic:i<cm:=by omega
       have jI:=ae e0;have HIM:=ae hiM;subst ho;clear JR hg hat hak hvk hcv hcq hcc hnm hs hx1 hx2 hx3 hx4 hx5 hq hcp hiM e0;go_wp2_with (go_at_call 23;refine(C1.o _).mono ?_);rintro e w9 ⟨⟨E9,k9,rfl⟩,ji⟩;obtain⟨X,hX⟩:=zN (w9.heap.size);obtain⟨W9,Qh⟩:=zN (w9.alloc (.cells #[.int .i64 x1,.int .i64 x2,.int .i64 x3,.string x4,.string x5] 61));have gW:w9.grownBy W9 none:=by rw[<-Qh];exact ak (ai w9 none) _
       have Qi:VR X x1 x2 x3 x4 x5 W9:=by
        unfold VR;rw[<-Qh,<-hX];exact heap_alloc_new w9 _
       have Zw:=ae Qi;obtain⟨d0,d1,d2,d3,d4⟩:=Qi.cells;have Zx:=ae (ag dH.o (ag ji gW));have HE9:=ae ((ag ji gW).cell jI.o (by simp));have C4:=ae (C2.o W9 Zx.o);clear ji gW Qi e1;go_wp2_with (go_at_call 24;refine C4.o.mono ?_);rintro e w10 ⟨rfl,mi⟩;have yJ:=ae (ag Zx.o mi);have e0:=mi.cell HE9.o (by simp);have Zy:Hd (VR X x1 x2 x3 x4 x5 w10):=(mi.block X (aC Zw.o) (by simp)).trans Zw.o;clear mi d0 d1 d2 d3 d4 hX Qh
       by_cases hnn:nm=name
       ·have t1:=uA hnn;have t2:(nm.toList != name.toList)=false:=by simp[bne,t1]
        cases q with
        | false =>
         have jy:=ae (Aq.o.skip (by rw[Qg.o,Bool.and_false]));clear hnn;go_wp2;exact⟨⟨i+1,b,by go_num,rfl,by omega,jy.o,yJ.o⟩,by simp[intOf];omega⟩
        | true =>
         have HAD:Hd (pM name text M i=true):=by
          show _=_;rw[Qg.o,decide_eq_true hnn];rfl
         clear hnn
         by_cases hb0:b<0
         ·have jy:Hd (BestP name text M (i+1) (i:Int)):=by
           have hb1:b=-1:=by
            rcases Aq.o with⟨h,-⟩|⟨q,h,-⟩<;>omega
           have:=Aq.o;rw[hb1]at this;exact this.first HAD.o
          have hbn:¬b ≥ 0:=by omega
          clear hb0;go_wp2;exact⟨⟨i+1,(i:Int),by go_num,rfl,by omega,jy.o,yJ.o⟩,by simp[intOf];omega⟩
         ·obtain⟨p,hp,hpi⟩:∃p:Nat,b=(p:Int)/\p<i:=by
           rcases Aq.o with⟨h,-⟩|⟨q,h1,h2,-⟩
           ·omega
           ·exact⟨q,h1,h2⟩
          subst hp;have Gy:p<M.length:=by have:=HIM.o;omega
          obtain⟨a',ho',-,hat'⟩:=HAT.o w10 yJ.o p Gy;obtain rfl:a=a':=Option.some.inj ho';obtain⟨-,f1,-,-⟩:=hat' p Gy;have hvp:=nK.o p Gy;have hcv:=CV.o M[p] (List.getElem_mem Gy);have hcc:=C3.o M[p].ve;obtain⟨t,ht⟩:=zN (M[p].ve);rw[ht]at f1 hvp hcv hcc;unfold eY at hcv;obtain⟨y1,hy1⟩:=zN ((aK t).major);obtain⟨y2,hy2⟩:=zN ((aK t).minor);obtain⟨y3,hy3⟩:=zN ((aK t).patch);obtain⟨y4,hy4⟩:∃x:ByteArray,⟨(aK t).pre.toArray⟩=x:=⟨_,rfl⟩;obtain⟨y5,Zz⟩:∃x:ByteArray,⟨(aK t).build.toArray⟩=x:=⟨_,rfl⟩;rw[hy1,hy2,hy3,hy4,Zz]at hcv hcc;obtain⟨z,hz⟩:=zN (aB (cutV (aK s)) (cutV (aK t)));rw[hz]at hcc;have HZ:Hd (aB (fF M i) (fF M p)=z):=by
           show _=_;rw[ajo.o,hvp];exact hz
          have C5:=ae hcv;have C6:=ae hcc;have hpc:p<cm:=by omega
          have hpI:((p:Int) ≥ 0):=by omega
          clear hat' ho' ht hvp hcv hcc hy1 hy2 hy3 hy4 Zz hz hb0 Gy;go_wp2_with (go_at_call 23;refine(C5.o _).mono ?_);rintro e w11 ⟨⟨E11,k11,rfl⟩,iE⟩;obtain⟨Y,hY⟩:=zN w11.heap.size;obtain⟨W11,Qj⟩:=zN (w11.alloc (.cells #[.int .i64 y1,.int .i64 y2,.int .i64 y3,.string y4,.string y5] 61));have gW:w11.grownBy W11 none:=by rw[<-Qj];exact ak (ai w11 none) _
          have ZA:VR Y y1 y2 y3 y4 y5 W11:=by
           unfold VR;rw[<-Qj,<-hY];exact heap_alloc_new w11 _
          obtain⟨d0,d1,d2,d3,d4⟩:=ZA.cells;have ZB:VR X x1 x2 x3 x4 x5 W11:=((ag iE gW).block X (aC Zy.o) (by simp)).trans Zy.o;obtain⟨g0,g1,g2,g3,g4⟩:=ZB.cells;have ajp:=ae (ag yJ.o (ag iE gW));clear iE gW ZA ZB f1 e0;go_wp2_with (go_at_call 25;refine(C6.o _).mono ?_);rintro e w12 ⟨rfl,lJ⟩;have ZC:=ae (ag ajp.o lJ);clear lJ d0 d1 d2 d3 d4 g0 g1 g2 g3 g4 hY Qj
          by_cases hz0:z<=0
          ·have jy:=ae (Aq.o.keep (by rw[HZ.o];exact hz0));go_wp2;exact⟨⟨i+1,(p:Int),by go_num,rfl,by omega,jy.o,ZC.o⟩,by simp[intOf];omega⟩
          ·have jy:=ae (Aq.o.next HAD.o (by rw[HZ.o];exact hz0));go_wp2;exact⟨⟨i+1,(i:Int),by go_num,rfl,by omega,jy.o,ZC.o⟩,by simp[intOf];omega⟩
       ·have t1:=pz hnn;have t2:(nm.toList != name.toList)=true:=by simp[bne,t1]
        have jy:=ae (Aq.o.skip (by rw[Qg.o,decide_eq_false hnn,Bool.false_and]));clear hnn;go_wp2;exact⟨⟨i+1,b,by go_num,rfl,by omega,jy.o,yJ.o⟩,by simp[intOf];omega⟩
      ·have hie:i=L.length:=by omega
       subst hie;have hfin:=ajn.o b (by rw[Ap.o];exact JR);have pW:=ae (ag HG.o hg);have sS:=ae (dV jY.o hg);clear JR hg
       rcases hfin with⟨rfl,rfl⟩|⟨q,rfl,rfl,rfl⟩
       ·go_wp2;go_ret;exact⟨rfl,pW.o⟩
       ·obtain⟨oo,cc',eo,lG⟩:=F6 sS.o;injection eo with eo1 _ eo2
        subst eo1 eo2;obtain⟨g,hg0,hcap,hck⟩:=lG 0 (by simp);subst hg0;simp only[List.getElem_cons_zero,List.length_singleton]at hck hcap;have hqq:((q:Int) == (q:Int))=true:=by simp
        have uy:¬(q:Int)<0:=by omega
        have h0c:0<c5:=by omega
        clear lG;go_wp2;go_ret;exact⟨rfl,pW.o⟩
   ·have hE0:(E != 0)=true:=by simpa using fun e=>hE (Or.inl e)
    have hE8:(E != 8)=true:=by simpa using fun e=>hE (Or.inr e)
    have hD:D=[]:=by
     rcases mr.o with⟨-,-,h⟩|⟨-,-,-,h⟩|⟨-,-,-,h⟩|⟨-,h,-⟩
     ·exact h
     ·exact h
     ·exact h
     ·exact absurd (Or.inl h) hE
    subst hD;clear hE;go_wp2_with (go_at_call 17;refine(CM.o _ _).mono ?_;rintro e w7 ⟨rfl,rfl⟩);go_ret;exact⟨rfl,HG.o⟩
end Go.Proofs.YtiinliaoojfjaaaGreatDoor
