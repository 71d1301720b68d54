import Derived.Test.YtapodndfpecglaaGreatDoorK31
import Derived.Deep.CutRange
set_option linter.all false
set_option maxRecDepth 100000
set_option maxHeartbeats 0
open Go.Proofs.Tryz
namespace Go.Proofs.YtapodndfpecglaaGreatDoor
open Go.RowKit Go.Maps
def iI(L:List Re)(C:List Int)(n:ByteArray):Int:=match C.find? (fun c=>decide (aQ L c.toNat=n)) with|some c=>c|none=>-1
theorem aee(L:List Re)(C:List Int)(n:ByteArray)(i:Nat)(hi:i<C.length)(h:aQ L (C[i]).toNat=n)(h0:(C.take i).any (fun c=>decide (aQ L c.toNat=n))=false):iI L C n=C[i]:=by
 have:C.find? (fun c=>decide (aQ L c.toNat=n))=some C[i]:=by
  rw[List.find?_eq_some_iff_getElem];refine⟨by simpa using h,i,hi,rfl,fun j hj=>?_⟩;rw[List.any_eq_false]at h0;have:=h0 C[j] (List.mem_take_iff_getElem.2 ⟨j,by omega,rfl⟩);simpa using this
 unfold iI;rw[this]
theorem TJ(L:List Re)(C:List Int)(n:ByteArray)(h0:C.any (fun c=>decide (aQ L c.toNat=n))=false):iI L C n=-1:=by
 have:C.find? (fun c=>decide (aQ L c.toNat=n))=none:=by
  rw[List.find?_eq_none];rw[List.any_eq_false]at h0;exact h0
 unfold iI;rw[this]
theorem Fp(L:List Re)(C:List Int)(n:ByteArray):(∃c∈C,iI L C n=c/\aQ L c.toNat=n)\/(iI L C n=-1/\∀c∈C,¬aQ L c.toNat=n):=by
 unfold iI
 cases hf:C.find? (fun c=>decide (aQ L c.toNat=n)) with
 | none =>
  right;refine⟨rfl,fun c hc e=>?_⟩;have:=List.find?_eq_none.1 hf c hc;exact this (by simpa using e)
 | some c =>
  left;refine⟨c,List.mem_of_find?_eq_some hf,rfl,?_⟩;have:=List.find?_some hf;simpa using this
theorem Kv{α:Type}(p:α->Bool)(C:List α)(i:Nat)(hi:i<C.length):(C.take (i+1)).any p=((C.take i).any p || p C[i]):=by
 rw[List.take_succ_eq_append_getElem hi,List.any_append];simp
theorem TK(o oc:Option Addr)(c cc:Nat)(L:List Re)(C:List Int)(n:ByteArray)(w:World)(h:ReS w (.slice o L.length c) L)(hc:IS w (.slice oc C.length cc) C)(hL:L.length<=1048576)(hC:C.length<=1048576)(hin:∀z∈C,0<=z/\z<(L.length:Int)) :
  Calls prog 14 #[.slice o L.length c,.slice oc C.length cc,.string n] w fun e w'=>e=.returned (.int .i64 (iI L C n))/\w.grownBy w' none:=by
 have HE:=ae (fun w' (hg:w.grownBy w' none) i (hi:i<L.length)=>sG (h.grow hg) hi);have HI:=ae (fun w' (hg:w.grownBy w' none) i (hi:i<C.length)=>qE (hc.grow hg) hi);have iJ:=ae hin;have HH:=ae (aee L C n);have HM:=ae (TJ L C n);obtain⟨R,hR⟩:=zN (iI L C n);rw[hR]at HH HM ⊢;clear h hc hin hR;go_enter func14,ntmps14;go_wp2;go_loopw [7] (fun vi wr=>∃i:Nat,vi=.int .i64 i/\i<=C.length/\(C.take i).any (fun c=>decide (aQ L c.toNat=n))=false/\w.grownBy wr none) (fun vi _=>C.length-(intOf vi).toNat)
 case atStart=>exact⟨0,rfl,Nat.zero_le _,rfl,ak _ _⟩
 case round =>
  obtain⟨i,rfl,hi,hno,hg⟩:=hrel;have HG:=ae hg;have aU:=ae hno
  by_cases hlt:i<C.length
  ·obtain⟨a1,ho1,hcp1,iU⟩:=HI.o wr hg i hlt;have f0:=iU i hlt;obtain⟨hz1,hz2⟩:=iJ.o _ (List.getElem_mem hlt);obtain⟨k,hk⟩:∃k:Nat,C[i]=(k:Int):=⟨(C[i]).toNat,by omega⟩;have hkl:k<L.length:=by omega
   obtain⟨a2,ho2,hcp2,ik⟩:=HE.o wr hg k hkl;obtain⟨e0,-⟩:=ik k hkl;have hhi:=HH.o i hlt;have HST:Hd ((C.take (i+1)).any (fun c=>decide (aQ L c.toNat=n))=((C.take i).any (fun c=>decide (aQ L c.toNat=n)) || decide (aQ L (C[i]).toNat=n))):=Kv _ C i hlt;rw[hk]at f0 hhi HST;have e1:((k:Int)).toNat=k:=by omega
   rw[e1,qF L k hkl]at hhi HST;obtain⟨x,hx⟩:=zN (L[k].nm);rw[hx]at hhi HST e0;have hic:i<cc:=by omega
   have hkc:k<c:=by omega
   have C9:=ae hhi;subst ho1 ho2;clear iU ik hg hno hcp1 hcp2 hz1 hz2 hk hx hhi e1
   by_cases hn:x=n
   ·have hnn:(x.toList == n.toList)=true:=by rw[hn];simp
    have oM:=ae (C9.o hn aU.o);clear hn;go_wp2;refine bodyPost_ret (results_tmp (t:=6) rfl _ _ _) rfl ⟨?_,HG.o⟩;rw[oM.o];rfl
   ·have hnn:=uY hn;have fO:Hd ((C.take (i+1)).any (fun c=>decide (aQ L c.toNat=n))=false):=by
     show _=_;rw[HST.o,aU.o,decide_eq_false hn];rfl
    clear hn;go_wp2;go_roundw
    case rel=>exact⟨i+1,by go_num,by omega,fO.o,HG.o⟩
    case measure=>simp[intOf];omega
  ·have hil:i=C.length:=by omega
   have oM:Hd (R=-1):=by
    rw[hil,List.take_length]at hno;exact HM.o hno
   clear hno hg hil hi;go_wp2;refine bodyPost_ret (results_tmp (t:=6) rfl _ _ _) rfl ⟨?_,HG.o⟩;rw[oM.o];rfl
theorem aef(r v:ByteArray)(w:World)(hr:r.size<2 ^ 60)(hv:v.size<2 ^ 60)(ho:okR r=true) :
  Calls prog 27 #[.string r,.string v] w fun e w'=>e=.returned (.bool (gu r v))/\w.grownBy w' none:=by
 have h0:=of_decide_eq_true ho;have CR:=ae (fun w=>Si r w hr);have CV:=ae (fun w=>IP v w (by omega));have hp:=zl v;have CQ:Hd (∀(sv:Value) (A:List (List Tq)) (w:World),SsAt w sv A->A.length<=201->(∀L∈A,L.length<=1000/\∀x∈L,jH x)->Calls prog 48 #[sv,jr (aZ v)] w fun e w'=>e=.returned (.bool (vJ A (cutV (aZ v))))/\w.grownBy w' none):=fun sv A w h1 h2 h3=>(adi sv A _ _ _ _ _ w h1 h2 h3 (by show(aZ v).pre.toArray.size<=_;simp;omega)).mono fun e w' ⟨he,hg⟩=>⟨by rw[he];simp[cutV],hg⟩
 have HAD:Hd (∀A:List (List Tq),A.map (·.map bU)=(fF r.data.toList).2.2->vJ A (cutV (aZ v))=gu r v):=fun A hA=>by
  show _=_;unfold gu;rw[adh,hA]
 have HR0:=ae h0;unfold jr at CV CQ;obtain⟨v1,hv1⟩:=zN ((aZ v).major);obtain⟨v2,hv2⟩:=zN ((aZ v).minor);obtain⟨v3,hv3⟩:=zN ((aZ v).patch);obtain⟨v4,hv4⟩:∃x:ByteArray,⟨(aZ v).pre.toArray⟩=x:=⟨_,rfl⟩;obtain⟨v5,hv5⟩:∃x:ByteArray,⟨(aZ v).build.toArray⟩=x:=⟨_,rfl⟩;rw[hv1,hv2,hv3,hv4,hv5]at CV CQ;obtain⟨R,hR⟩:=zN (gu r v);rw[hR]at HAD ⊢;clear hv1 hv2 hv3 hv4 hv5 hp h0 ho hr hv hR;go_enter func27,ntmps27;go_wp2_with (go_at_call 47;refine(CR.o _).mono ?_);rintro e w1 ⟨o,n,c,A,rfl,hg,hok⟩;obtain⟨h1,h2,h3,h4⟩:=hok HR0.o;have mW:Hd (SsAt w1 (.slice o n c) A/\A.length<=201/\∀L∈A,L.length<=1000/\∀x∈L,jH x):=⟨adf h1,h3,h4⟩;have HQ:=ae (HAD.o A h2);have HG:=ae hg;clear hok h1 h2 h3 h4 hg;go_wp2_with (go_at_call 46;refine(CV.o _).mono ?_);rintro e w2 ⟨rfl,hg2⟩;have CQ2:Hd (Calls prog 48 #[.slice o n c,.agg #[.int .i64 v1,.int .i64 v2,.int .i64 v3,.string v4,.string v5]] w2 fun e w'=>e=.returned (.bool R)/\w2.grownBy w' none):=by
  have:=CQ.o (.slice o n c) A w2 (mW.o.1.grow hg2) mW.o.2.1 mW.o.2.2;rw[HQ.o]at this;exact this
 replace HG:=ae (ah HG.o hg2);clear hg2;go_wp2_with (go_at_call 48;refine CQ2.o.mono ?_;rintro e w3 ⟨rfl,hg3⟩);go_ret;exact⟨rfl,ah HG.o hg3⟩
def vO(N:List Nd)(n:ByteArray):Bool:=N.any fun y=>decide (y.n=n)
theorem TL(v:Value)(N:List Nd)(n:ByteArray)(w:World)(h:NdS w v N)(hN:N.length<=1048576) :
  Calls prog 28 #[v,.string n] w fun e w'=>e=.returned (.bool (vO N n))/\w.grownBy w' none:=by
 obtain⟨o,c,rfl⟩:∃o c,v=.slice o N.length c:=by
  rcases h with⟨rfl,rfl⟩|⟨_,_,rfl,-⟩
  ·exact⟨_,_,rfl⟩
  ·exact⟨_,_,rfl⟩
 have HE:=ae (fun w' (hg:w.grownBy w' none) i (hi:i<N.length)=>Fa (h.grow hg) hi);have HH:Hd (∀i (hi:i<N.length),N[i].n=n->vO N n=true):=fun i hi he=>by
  show vO N n=true;unfold vO;rw[List.any_eq_true];exact⟨N[i],List.getElem_mem _,by simpa using he⟩
 have HA:Hd (vO N n=N.any fun y=>decide (y.n=n)):=rfl;obtain⟨R,hR⟩:=zN (vO N n);rw[hR]at HH HA ⊢;clear h hR;go_enter func28,ntmps28;go_wp2;go_loopw [5] (fun vi wr=>∃i:Nat,vi=.int .i64 i/\i<=N.length/\(N.take i).any (fun y=>decide (y.n=n))=false/\w.grownBy wr none) (fun vi _=>N.length-(intOf vi).toNat)
 case atStart=>exact⟨0,rfl,Nat.zero_le _,rfl,ak _ _⟩
 case round =>
  obtain⟨i,rfl,hi,hno,hg⟩:=hrel;have HG:=ae hg;have aU:=ae hno
  by_cases hlt:i<N.length
  ·obtain⟨a1,ho1,hcp1,iU⟩:=HE.o wr hg i hlt;obtain⟨e0,-⟩:=iU i hlt;have C9:=HH.o i hlt;have HST:Hd ((N.take (i+1)).any (fun y=>decide (y.n=n))=((N.take i).any (fun y=>decide (y.n=n)) || decide (N[i].n=n))):=Kv _ N i hlt;obtain⟨x,hx⟩:=zN (N[i].n);rw[hx]at C9 HST e0;have HHJ:=ae C9;have hic:i<c:=by omega
   subst ho1;clear iU hg hno hcp1 hx C9
   by_cases hn:x=n
   ·have hnn:(x.toList == n.toList)=true:=by rw[hn];simp
    have oM:=ae (HHJ.o hn);clear hn;go_wp2;refine bodyPost_ret (results_tmp (t:=4) rfl _ _ _) rfl ⟨?_,HG.o⟩;rw[oM.o];rfl
   ·have hnn:=uY hn;have fO:Hd ((N.take (i+1)).any (fun y=>decide (y.n=n))=false):=by
     show _=_;rw[HST.o,aU.o,decide_eq_false hn];rfl
    clear hn;go_wp2;go_roundw
    case rel=>exact⟨i+1,by go_num,by omega,fO.o,HG.o⟩
    case measure=>simp[intOf];omega
  ·have hil:i=N.length:=by omega
   have oM:Hd (R=false):=by
    rw[hil,List.take_length]at hno;exact HA.o.trans hno
   clear hno hg hil hi;go_wp2;refine bodyPost_ret (results_tmp (t:=4) rfl _ _ _) rfl ⟨?_,HG.o⟩;rw[oM.o];rfl
open Go.RowKit Go.Maps
def vP(L:List Re)(C:List Int)(y:Nd):Bool:=decide (0<=iI L C y.n) && gu y.r (gV L (iI L C y.n).toNat)
def kC(N:List Nd)(L:List Re)(C:List Int):Bool:=N.all (vP L C)
theorem aeg(N:List Nd)(L:List Re)(C:List Int)(i:Nat)(hi:i<N.length)(h:vP L C N[i]=false):kC N L C=false:=by
 unfold kC;rw[List.all_eq_false];exact⟨N[i],List.getElem_mem _,by rw[h];simp⟩
theorem aeh(N:List Nd)(L:List Re)(C:List Int)(i:Nat)(hi:i<N.length)(h:vP L C N[i]=true)(h0:kC (N.take i) L C=true):kC (N.take (i+1)) L C=true:=by
 unfold kC at *;rw[List.take_succ_eq_append_getElem hi,List.all_append,h0];simp[h]
theorem TM(v:Value)(o oc:Option Addr)(c cc:Nat)(N:List Nd)(L:List Re)(C:List Int)(w:World)(hn:NdS w v N)(h:ReS w (.slice o L.length c) L)(hc:IS w (.slice oc C.length cc) C)(hN:N.length<=1048576)(hL:L.length<=1048576)(hC:C.length<=1048576)(hin:∀z∈C,0<=z/\z<(L.length:Int))(hr:∀y∈N,okR y.r=true)(hS:∀y∈N,y.r.size<2 ^ 60)(hV:∀x∈L,x.ve.size<2 ^ 60) :
  Calls prog 13 #[v,.slice o L.length c,.slice oc C.length cc] w fun e w'=>e=.returned (.bool (kC N L C))/\w.grownBy w' none:=by
 obtain⟨on,cn,rfl⟩:∃o c,v=.slice o N.length c:=by
  rcases hn with⟨rfl,rfl⟩|⟨_,_,rfl,-⟩
  ·exact⟨_,_,rfl⟩
  ·exact⟨_,_,rfl⟩
 have wQ:=ae (fun w' (hg:w.grownBy w' none) i (hi:i<N.length)=>Fa (hn.grow hg) hi);have kD:=ae (fun w' (hg:w.grownBy w' none) i (hi:i<L.length)=>sG (h.grow hg) hi);have CC:=ae (fun n w' (hg:w.grownBy w' none)=>TK o oc c cc L C n w' (h.grow hg) (hc.grow hg) hL hC hin);have CA:=ae (fun y (hy:y∈N) x (hx:x∈L) w=>aef y.r x.ve w (hS y hy) (hV x hx) (hr y hy));have HCH:Hd (∀n,iI L C n=-1\/(0<=iI L C n/\iI L C n<(L.length:Int))):=fun n=>by
  rcases Fp L C n with⟨z,hz,he,-⟩|⟨he,-⟩
  ·right;rw[he];exact hin z hz
  ·left;exact he
 have TP:=ae (aeg N L C);have HST:=ae (aeh N L C);have HMY:Hd (∀y,vP L C y=(decide (0<=iI L C y.n) && gu y.r (gV L (iI L C y.n).toNat))):=fun y=>rfl
 obtain⟨R,hR⟩:=zN (kC N L C);have HR:=ae hR;rw[hR]at TP ⊢;clear hn h hc hin hr hS hV hR;go_enter func13,ntmps13;go_wp2;go_loopw [7] (fun vi wr=>∃i:Nat,vi=.int .i64 i/\i<=N.length/\kC (N.take i) L C=true/\w.grownBy wr none) (fun vi _=>N.length-(intOf vi).toNat)
 case atStart=>exact⟨0,rfl,Nat.zero_le _,rfl,ak _ _⟩
 case round =>
  obtain⟨i,rfl,hi,hm,hg⟩:=hrel;have HG:=ae hg;have HM:=ae hm
  by_cases hlt:i<N.length
  ·obtain⟨a1,ho1,hcp1,iU⟩:=wQ.o wr hg i hlt;obtain⟨e0,e1⟩:=iU i hlt;have Kw:=TP.o i hlt;have hst:=HST.o i hlt;have hca:=CA.o N[i] (List.getElem_mem hlt);obtain⟨y,hy⟩:=zN (N[i]);rw[hy]at e0 e1 Kw hst hca;have TQ:=ae Kw;have vM:=ae (fun(h:vP L C y=true)=>hst h HM.o);have CA2:=ae hca;have C1:=CC.o y.n wr hg;have hch:=HCH.o y.n;have lq:=ae (HMY.o y);obtain⟨z,hz⟩:=zN (iI L C y.n);rw[hz]at C1 hch lq;have C1':=ae C1;have hic:i<cn:=by omega
   have AA:=ae e1;subst ho1;clear iU hg hm hcp1 hy Kw hst hca C1 hz e1;go_wp2_with (go_at_call 14;refine C1'.o.mono ?_);rintro e w2 ⟨rfl,hg2⟩;have HG2:=ae (ah HG.o hg2);have f1:=hg2.cell AA.o (by simp);clear hg2 e0
   by_cases hz0:z<0
   ·have mX:=ae (TQ.o (by rw[lq.o,decide_eq_false (by omega)];rfl));clear hch;go_wp2;refine bodyPost_ret (results_tmp (t:=6) rfl _ _ _) rfl ⟨?_,HG2.o⟩;rw[mX.o];rfl
   ·obtain⟨k,rfl⟩:∃k:Nat,z=(k:Int):=⟨z.toNat,by omega⟩;have hkl:k<L.length:=by omega
    obtain⟨a2,ho2,hcp2,ik⟩:=kD.o w2 HG2.o k hkl;obtain⟨-,g1,-⟩:=ik k hkl;have hca:=CA2.o L[k] (List.getElem_mem hkl);have um:Hd (gV L ((k:Int)).toNat=L[k].ve):=by
     have e1:((k:Int)).toNat=k:=by omega
     show _=_;rw[e1];exact Rt L k hkl
    obtain⟨x,hx⟩:=zN (L[k]);rw[hx]at g1 hca um;have Ky:Hd (vP L C y=gu y.r x.ve):=by
     show _=_;rw[lq.o,decide_eq_true (by omega),um.o];rfl
    obtain⟨q,hq⟩:=zN (gu y.r x.ve);rw[hq]at hca Ky;have CA3:=ae hca;have hkc:k<c:=by omega
    have afc:(k:Int)<(L.length:Int):=by omega
    have hnz:¬((k:Int)<0):=by omega
    subst ho2;clear ik hcp2 hx hq hca hch hz0;go_upto_region 7 with fail
    go_region_with (first|(go_at_call 27;refine(CA3.o _).mono ?_;rintro e w3 ⟨rfl,hg3⟩))
    all_goals (
     have dJ:=ae (ah HG2.o (ah (show w2.grownBy w2.drew none from⟨rfl,rfl,rfl,Nat.le_refl _,fun _ _ _=>rfl⟩) hg3));clear hg3 f1 g1
     cases q with
     | true =>
      have HN:=ae (vM.o Ky.o);go_wp2;go_roundw
      case rel=>exact⟨i+1,by go_num,by omega,HN.o,dJ.o⟩
      case measure=>simp[intOf];omega
     | false =>
      have mX:=ae (TQ.o Ky.o);go_wp2;refine bodyPost_ret (results_tmp (t:=6) rfl _ _ _) rfl ⟨?_,dJ.o⟩;rw[mX.o];rfl)
  ·have hil:i=N.length:=by omega
   have rU:Hd (R=true):=by
    rw[hil,List.take_length]at hm;exact HR.o.symm.trans hm
   clear hm hg hil hi;go_wp2;refine bodyPost_ret (results_tmp (t:=6) rfl _ _ _) rfl ⟨?_,HG.o⟩;rw[rU.o];rfl
open Go.RowKit Go.Maps
def nC(L:List Re)(C:List Int)(i:Nat):ByteArray:=match C[i]? with|some c=>aQ L c.toNat|none=>⟨#[]⟩
theorem uo(L:List Re)(C:List Int)(i:Nat)(h:i<C.length):nC L C i=aQ L (C[i]).toNat:=by simp[nC,List.getElem?_eq_getElem h]
def Fq(L:List Re)(k:Nat):List Nd:=match L[k]? with|some x=>x.nd|none=>[]
theorem zY(L:List Re)(k:Nat)(h:k<L.length):Fq L k=L[k].nd:=by simp[Fq,List.getElem?_eq_getElem h]
def vS(L:List Re)(C:List Int)(i:Nat):List Nd:=match C[i]? with|some c=>Fq L c.toNat|none=>[]
theorem zZ(L:List Re)(C:List Int)(i:Nat)(h:i<C.length):vS L C i=Fq L (C[i]).toNat:=by simp[vS,List.getElem?_eq_getElem h]
def aI(N:List Nd)(L:List Re)(C:List Int)(i:Nat):Bool:=vO N (nC L C i)
def qI(L:List Re)(C:List Int)(k i:Nat):Bool:=vO (vS L C k) (nC L C i)
def bA(b:List Bool)(i:Nat):Bool:=b.getD i false
theorem xQ(b:List Bool)(i:Nat)(h:i<b.length):bA b i=b[i]:=by simp[bA,List.getElem?_eq_getElem h]
theorem Aa(b:List Bool)(i j:Nat)(v:Bool)(hi:i<b.length):bA (b.set i v) j=if j=i then v else bA b j:=by
 unfold bA
 by_cases h:j=i
 ·subst h;simp[hi]
 ·rw[if_neg h];have:¬i=j:=fun e=>h e.symm
  simp[List.getElem?_set_ne this]
def vK(N:List Nd)(L:List Re)(C:List Int)(b:List Bool)(i k:Nat):Bool:=bA b i || aI N L C i || (List.range k).any fun j=>bA b j && qI L C j i
theorem aei(N:List Nd)(L:List Re)(C:List Int)(b:List Bool)(i:Nat):vK N L C b i 0=(bA b i || aI N L C i):=by simp[vK]
theorem aej(N:List Nd)(L:List Re)(C:List Int)(b:List Bool)(i k:Nat)(hi:i<b.length):vK N L C b i (k+1)=(vK N L C b i k || (bA (b.set i (vK N L C b i k)) k && qI L C k i)):=by
 have h1:vK N L C b i (k+1)=(vK N L C b i k || (bA b k && qI L C k i)):=by
  unfold vK;rw[List.range_succ,List.any_append];simp[Bool.or_assoc]
 rw[h1,Aa b i k _ hi]
 by_cases h:k=i
 ·subst h;rw[if_pos rfl]
  cases hv:vK N L C b k k with
  | true=>rfl
  | false =>
   have:bA b k=false:=by
    unfold vK at hv
    cases hb:bA b k with
    | false=>rfl
    | true=>rw[hb]at hv;simp at hv
   rw[this]
   try simp
 ·rw[if_neg h]
def rn(N:List Nd)(L:List Re)(C:List Int)(b:List Bool):Nat->List Bool
 | 0=>b
 | i+1=>(rn N L C b i).set i (vK N L C (rn N L C b i) i C.length)
def wD(N:List Nd)(L:List Re)(C:List Int):Nat->List Bool
 | 0=>List.replicate C.length false
 | r+1=>rn N L C (wD N L C r) C.length
section
variable {N:List Nd} {L:List Re} {C:List Int}
theorem xR(b:List Bool):∀i,(rn N L C b i).length=b.length
 | 0=>rfl
 | i+1=>by rw[rn,List.length_set];exact xR b i
theorem xU:∀r,(wD N L C r).length=C.length
 | 0=>by simp[wD]
 | r+1=>by rw[wD,xR];exact xU r
theorem Kz(b:List Bool)(hl:b.length=C.length)(j:Nat):∀i,i<=C.length->bA (rn N L C b i) j=true->∀t,i+t<=C.length->bA (rn N L C b (i+t)) j=true:=by
 intro i _ h t
 induction t with
 | zero=>intro _;exact h
 | succ t ih =>
  intro ht;have h1:=ih (by omega);rw[<-Nat.add_assoc,rn,Aa _ _ _ _ (by rw[xR,hl];omega)];split
  ·rename_i he;unfold vK;rw[he]at h1;rw[h1];simp
  ·exact h1
def Fv(N:List Nd)(L:List Re)(C:List Int)(b:List Bool):Prop:=∀i (hi:i<C.length),bA b i=true->Wt N L C (C[i]).toNat
theorem Fz(i:Nat)(hi:i<C.length):dS C (C[i]).toNat=true:=by
 unfold dS;rw[List.any_eq_true];exact⟨C[i],List.getElem_mem _,by simp⟩
theorem aek(hin:∀z∈C,0<=z/\z<(L.length:Int))(b:List Bool)(hb:Fv N L C b)(i:Nat)(hi:i<C.length)(h:vK N L C b i C.length=true):Wt N L C (C[i]).toNat:=by
 have hl:(C[i]).toNat<L.length:=by have:=hin _ (List.getElem_mem hi);omega
 unfold vK at h;rw[Bool.or_eq_true,Bool.or_eq_true]at h
 rcases h with(h|h)|h
 ·exact hb i hi h
 ·refine .base _ (Fz i hi) ?_;unfold aI at h;rw[uo L C i hi]at h;unfold nK;rw[decide_eq_true hl];exact h
 ·rw[List.any_eq_true]at h;obtain⟨j,hj,h2⟩:=h;have hjl:=List.mem_range.1 hj;rw[Bool.and_eq_true]at h2;have ry:(C[j]).toNat<L.length:=by have:=hin _ (List.getElem_mem hjl);omega
  refine .step _ (C[j]).toNat ry (hb j hjl h2.1) (Fz i hi) ?_;have h3:=h2.2;unfold qI at h3;rw[uo L C i hi,zZ L C j hjl,zY L _ ry]at h3;unfold nK;rw[decide_eq_true hl];exact h3
theorem TS(hin:∀z∈C,0<=z/\z<(L.length:Int))(b:List Bool)(hl:b.length=C.length)(hb:Fv N L C b):∀i,i<=C.length->Fv N L C (rn N L C b i)
 | 0,_=>hb
 | i+1,h=>fun j hj hjb=>by
  have ih:=TS hin b hl hb i (by omega);rw[rn,Aa _ _ _ _ (by rw[xR,hl];omega)]at hjb;split at hjb
  ·rename_i he;subst he;exact aek hin _ ih j hj hjb
  ·exact ih j hj hjb
theorem TT(hin:∀z∈C,0<=z/\z<(L.length:Int)):∀r,Fv N L C (wD N L C r)
 | 0=>fun i hi h=>by
  rw[wD,xQ _ _ (by simpa using hi),List.getElem_replicate]at h
  cases h
 | r+1=>TS hin _ (xU r) (TT hin r) C.length (Nat.le_refl _)
def Cl(N:List Nd)(L:List Re)(C:List Int)(b:List Bool):Prop:=∀i,i<C.length->vK N L C b i C.length=bA b i
theorem TU{b b':List Bool}(hl:b.length=b'.length)(h:∀j,bA b j=bA b' j):b=b':=by
 apply List.ext_getElem hl;intro i h1 h2;have:=h i;rw[xQ b i h1,xQ b' i h2]at this;exact this
theorem ael(b:List Bool)(hl:b.length=C.length)(h:rn N L C b C.length=b):Cl N L C b:=by
 have key:∀i,i<=C.length->rn N L C b i=b:=fun i hi=>by
  refine TU (xR b i) fun j=>?_
  cases h1:bA b j with
  | true =>
   have:=Kz (N:=N) (L:=L) (C:=C) b hl j 0 (Nat.zero_le _) h1 i (by omega);rw[Nat.zero_add]at this;exact this
  | false =>
   cases h2:bA (rn N L C b i) j with
   | false=>rfl
   | true =>
    have:=Kz (N:=N) (L:=L) (C:=C) b hl j i hi h2 (C.length-i) (by omega);rw[show i+(C.length-i)=C.length by omega,h,h1]at this
    cases this
 intro i hi;have h1:=key (i+1) (by omega);rw[rn,key i (by omega)]at h1;have h2:=Aa b i i (vK N L C b i C.length) (by omega);rw[h1,if_pos rfl]at h2;exact h2.symm
theorem TV(b:List Bool)(hl:b.length=C.length)(h:Cl N L C b):∀i,i<=C.length->rn N L C b i=b
 | 0,_=>rfl
 | i+1,hi=>by
  rw[rn,TV b hl h i (by omega),h i (by omega)];refine TU (by simp) fun j=>?_
  rw[Aa b i j _ (by omega)];split
  ·rename_i he;rw[he]
  ·rfl
theorem FC:∀(b b':List Bool),b.length=b'.length->(∀j,bA b j=true->bA b' j=true)->¬b=b'->b.countP id<b'.countP id
 | [],[],_,_,hn=>absurd rfl hn
 | [],_ :: _,hl,_,_=>by simp at hl
 | _ :: _,[],hl,_,_=>by simp at hl
 | x :: b,y :: b',hl,h,hn=>by
  have hl':b.length=b'.length:=by simpa using hl
  have h':∀j,bA b j=true->bA b' j=true:=fun j hj=>by
   have:=h (j+1);unfold bA at this hj ⊢;simpa using this (by simpa using hj)
  have h0:x=true->y=true:=fun hx=>by
   have:=h 0;unfold bA at this;simpa using this (by simpa using hx)
  have hle:b.countP id<=b'.countP id:=by
   by_cases he:b=b'
   ·rw[he];exact Nat.le_refl _
   ·exact Nat.le_of_lt (FC b b' hl' h' he)
  cases x with
  | true =>
   have hy:=h0 rfl;subst hy;have he:¬b=b':=fun e=>hn (by rw[e])
   have:=FC b b' hl' h' he;simp;omega
  | false =>
   cases y with
   | true=>simp;omega
   | false =>
    have he:¬b=b':=fun e=>hn (by rw[e])
    have:=FC b b' hl' h' he;simpa using this
theorem TW:∀r,Cl N L C (wD N L C r)\/r<=(wD N L C r).countP id
 | 0=>Or.inr (Nat.zero_le _)
 | r+1=>by
  have hl:=xU (N:=N) (L:=L) (C:=C) r
  rcases TW r with h|h
  ·left;rw[wD,TV _ hl h C.length (Nat.le_refl _)];exact h
  ·by_cases he:rn N L C (wD N L C r) C.length=wD N L C r
   ·left;rw[wD,he];exact ael _ hl he
   ·right;rw[wD];have:=FC (wD N L C r) (rn N L C (wD N L C r) C.length) (by rw[xR]) (fun j hj=>by
     have:=Kz (N:=N) (L:=L) (C:=C) _ hl j 0 (Nat.zero_le _) hj C.length (by omega);rw[Nat.zero_add]at this;exact this) (fun e=>he e.symm)
    omega
theorem aem:Cl N L C (wD N L C (C.length+1)):=by
 rcases TW (N:=N) (L:=L) (C:=C) (C.length+1) with h|h
 ·exact h
 ·have h1:=List.countP_le_length (p:=id) (l:=wD N L C (C.length+1));rw[xU]at h1;omega
theorem aen(hin:∀z∈C,0<=z/\z<(L.length:Int))(b:List Bool)(h:Cl N L C b){k:Nat}(hw:Wt N L C k):∀i (hi:i<C.length),(C[i]).toNat=k->bA b i=true:=by
 induction hw with
 | base k h1 h2 =>
  intro i hi he;rw[<-h i hi];unfold vK;have:aI N L C i=true:=by
   unfold aI;rw[uo L C i hi,he];unfold nK at h2;rw[Bool.and_eq_true]at h2;exact h2.2
  rw[this];simp
 | step k j hj hwj h1 h2 ih =>
  intro i hi he;have hc:=adI hwj;unfold dS at hc;rw[List.any_eq_true]at hc;obtain⟨c,hcm,hcj⟩:=hc;obtain⟨i',hi',rfl⟩:=List.getElem_of_mem hcm;have TZ:=of_decide_eq_true hcj;have hb:=ih i' hi' TZ;rw[<-h i hi];unfold vK;have hq:qI L C i' i=true:=by
   unfold qI;rw[uo L C i hi,he,zZ L C i' hi',TZ,zY L j hj];unfold nK at h2;rw[Bool.and_eq_true]at h2;exact h2.2
  have:((List.range C.length).any fun j=>bA b j && qI L C j i)=true:=by
   rw[List.any_eq_true];exact⟨i',List.mem_range.2 hi',by rw[hb,hq];rfl⟩
  rw[this];simp
theorem aeo(hin:∀z∈C,0<=z/\z<(L.length:Int)):(wD N L C (C.length+1)).all id=true↔∀k,dS C k=true->Wt N L C k:=by
 have hl:=xU (N:=N) (L:=L) (C:=C) (C.length+1);constructor
 ·intro h k hk;unfold dS at hk;rw[List.any_eq_true]at hk;obtain⟨c,hcm,hck⟩:=hk;obtain⟨i,hi,rfl⟩:=List.getElem_of_mem hcm;have e:=of_decide_eq_true hck;rw[<-e];refine TT hin (C.length+1) i hi ?_;rw[xQ _ i (by omega)];exact List.all_eq_true.1 h _ (List.getElem_mem _)
 ·intro h;rw[List.all_eq_true];intro x hx;obtain⟨i,hi,rfl⟩:=List.getElem_of_mem hx;have hi':i<C.length:=by omega
  have:=aen hin _ aem (h _ (Fz i hi')) i hi' rfl;rw[xQ _ i hi]at this;exact this
end
open Go.RowKit Go.Maps
def ok2(N:List Nd)(L:List Re)(C:List Int):Nat->Bool
 | 0=>kC N L C
 | i+1=>ok2 N L C i && kC (vS L C i) L C && decide (iI L (C.take i) (nC L C i)<0)
section
variable {N:List Nd} {L:List Re} {C:List Int}
theorem Ua:∀i,ok2 N L C i=true↔kC N L C=true/\∀j,j<i->kC (vS L C j) L C=true/\iI L (C.take j) (nC L C j)<0
 | 0=>⟨fun h=>⟨h,fun j hj=>by omega⟩,fun h=>h.1⟩
 | i+1=>by
  rw[ok2,Bool.and_eq_true,Bool.and_eq_true,Ua i,decide_eq_true_eq];constructor
  ·rintro⟨⟨⟨h1,h2⟩,h3⟩,h4⟩;refine⟨h1,fun j hj=>?_⟩
   by_cases he:j=i
   ·subst he;exact⟨h3,h4⟩
   ·exact h2 j (by omega)
  ·rintro⟨h1,h2⟩;exact⟨⟨⟨h1,fun j hj=>h2 j (by omega)⟩,(h2 i (by omega)).1⟩,(h2 i (by omega)).2⟩
theorem aep:(jv L C).length=C.length:=by unfold jv;simp
theorem same_iff(i:Nat)(hi:i<C.length)(hi':i<(jv L C).length):qy ((jv L C).take i) (jv L C)[i]=(C.take i).any fun c=>decide (aQ L c.toNat=nC L C i):=by
 unfold qy;rw[YQ L C i hi hi',uo L C i hi];have e:(jv L C).take i=(C.take i).map fun c=>(⟨aQ L c.toNat,⟨#[]⟩⟩:Nd):=by unfold jv;rw[List.map_take]
 rw[e,List.any_map];rfl
theorem KA(hin:∀z∈C,0<=z/\z<(L.length:Int))(i:Nat)(n:ByteArray):iI L (C.take i) n<0↔(C.take i).any (fun c=>decide (aQ L c.toNat=n))=false:=by
 constructor
 ·intro h
  rcases Fp L (C.take i) n with⟨c,hc,he,-⟩|⟨-,h2⟩
  ·have:=hin c (List.mem_of_mem_take hc);omega
  ·rw[List.any_eq_false];intro c hc e;exact h2 c hc (by simpa using e)
 ·intro h;rw[TJ L (C.take i) n h];decide
theorem Ub(hin:∀z∈C,0<=z/\z<(L.length:Int)):∀i,i<=C.length->(fE (jv L C) i=false↔∀j,j<i->iI L (C.take j) (nC L C j)<0)
 | 0,_=>⟨fun _ j hj=>by omega,fun _=>rfl⟩
 | i+1,h=>by
  have hi:i<(jv L C).length:=by rw[aep];omega
  rw[Bd _ i hi,Bool.or_eq_false_iff,Ub hin i (by omega),same_iff i (by omega) hi,<-KA hin];constructor
  ·rintro⟨h1,h2⟩ j hj
   by_cases he:j=i
   ·subst he;exact h2
   ·exact h1 j (by omega)
  ·intro h1;exact⟨fun j hj=>h1 j (by omega),h1 i (by omega)⟩
theorem aeq(hin:∀z∈C,0<=z/\z<(L.length:Int)):nz L C C.length=true:=by
 unfold nz;rw[List.take_length,List.all_eq_true];intro z hz;exact decide_eq_true (hin z hz)
theorem FH(hin:∀z∈C,0<=z/\z<(L.length:Int)):sH L C C.length=true↔∀j,j<C.length->iI L (C.take j) (nC L C j)<0:=by
 unfold sH;rw[aeq hin,Bool.true_and,<-Ub hin C.length (Nat.le_refl _)]
 cases fE (jv L C) C.length<;>simp
theorem Uc(hin:∀z∈C,0<=z/\z<(L.length:Int))(hok:sH L C C.length=true){c d:Int}(hc:c∈C)(hd:d∈C)(he:aQ L c.toNat=aQ L d.toNat):c=d:=by
 rw[FH hin]at hok;obtain⟨i,hi,rfl⟩:=List.getElem_of_mem hc;obtain⟨j,hj,rfl⟩:=List.getElem_of_mem hd;have key:∀(i j:Nat) (hi:i<C.length) (hj:j<C.length),i<j->aQ L (C[i]).toNat=aQ L (C[j]).toNat->False:=fun i j hi hj hij e=>by
  have h1:=(KA hin j _).1 (hok j hj);rw[List.any_eq_false]at h1;refine h1 C[i] (List.mem_take_iff_getElem.2 ⟨i,by omega,rfl⟩) ?_;rw[uo L C j hj];simpa using e
 by_cases h1:i<j
 ·exact(key i j hi hj h1 he).elim
 ·by_cases h2:j<i
  ·exact(key j i hj hi h2 he.symm).elim
  ·have:i=j:=by omega
   subst this;rfl
theorem FI(hin:∀z∈C,0<=z/\z<(L.length:Int))(hok:sH L C C.length=true)(M:List Nd):kC M L C=true↔∀j,j<M.length->∃q,dS C q=true/\jV M L j q=true:=by
 unfold kC;rw[List.all_eq_true];constructor
 ·intro h j hj;have h1:=h M[j] (List.getElem_mem _);unfold vP at h1;rw[Bool.and_eq_true,decide_eq_true_eq]at h1
  rcases Fp L C M[j].n with⟨c,hc,he,hn⟩|⟨he,-⟩
  ·have hz:=hin c hc;refine⟨c.toNat,?_,?_⟩
   ·unfold dS;rw[List.any_eq_true];exact⟨c,hc,by simp⟩
   ·rw[xm M L j c.toNat hj (by omega),decide_eq_true hn.symm,Bool.true_and];rw[he]at h1;exact h1.2
  ·rw[he]at h1;exact absurd h1.1 (by decide)
 ·intro h y hy;obtain⟨j,hj,rfl⟩:=List.getElem_of_mem hy;obtain⟨q,h1,h2⟩:=h j hj;have Dq:=Ru h2;rw[xm M L j q hj Dq,Bool.and_eq_true,decide_eq_true_eq]at h2;unfold dS at h1;rw[List.any_eq_true]at h1;obtain⟨c,hc,hcq⟩:=h1;have KC:=of_decide_eq_true hcq
  rcases Fp L C M[j].n with⟨d,hd,he,hn⟩|⟨-,h3⟩
  ·have hcd:=Uc hin hok hc hd (by rw[KC,hn];exact h2.1.symm);subst hcd;have hz:=hin c hc;unfold vP;rw[he,KC,decide_eq_true hz.1,h2.2];rfl
  ·exact absurd (by rw[KC];exact h2.1.symm) (h3 c hc)
theorem aer(hf:jK N L=0)(hin:∀z∈C,0<=z/\z<(L.length:Int)):jW N L C↔ok2 N L C C.length=true/\(wD N L C (C.length+1)).all id=true:=by
 rw[Ua,aeo hin];constructor
 ·intro h;have hok:=h.ok;refine⟨⟨(FI hin hok N).2 h.m0,fun j hj=>⟨?_,(FH hin).1 hok j hj⟩⟩,h.wt⟩;have hjl:(C[j]).toNat<L.length:=by have:=hin _ (List.getElem_mem hj);omega
  rw[zZ L C j hj,zY L _ hjl];exact(FI hin hok _).2 (h.m1 _ hjl (Fz j hj))
 ·rintro⟨⟨h1,h2⟩,h3⟩;have hok:=(FH hin).2 fun j hj=>(h2 j hj).2
  refine⟨hf,hok,(FI hin hok N).1 h1,fun k hk hc=>?_,h3⟩;unfold dS at hc;rw[List.any_eq_true]at hc;obtain⟨c,hcm,hck⟩:=hc;obtain⟨j,hj,rfl⟩:=List.getElem_of_mem hcm;have e:=of_decide_eq_true hck;have h4:=(h2 j hj).1;rw[zZ L C j hj,e,zY L k hk]at h4;exact(FI hin hok _).1 h4
theorem Ac(h:jW N L C):∀z∈C,0<=z/\z<(L.length:Int):=fun z hz=>by
 have:=h.ok;unfold sH nz at this;rw[Bool.and_eq_true,List.take_length,List.all_eq_true]at this;exact of_decide_eq_true (this.1 z hz)
end
open Go.RowKit Go.Maps Go.Joins
def bV(b:List Bool):Array Value:=(b.map Value.bool).toArray
theorem aes:(prog.info? 4).map (fun i=>(i.zero,i.size,i.bytes))=some (some (.bool false),1,1):=by kernel_rfl
theorem aet(n:Nat):madeCells #[Value.bool false] n=bV (List.replicate n false):=by
 unfold madeCells bV;apply Array.ext';simp;apply List.ext_getElem?;intro i;simp
 by_cases h:i<n
 ·simp[h,Nat.mod_one]
 ·simp[h]
theorem aeu(n:Nat)(hn:n<=1048576)(W:World):(Instr.makeSlice 45 (.int .i64 (n:Int)) (.int .i64 (n:Int))).run prog W=.ok (.slice (some ⟨W.heap.size,0,none⟩) n n) (W.alloc (.cells (bV (List.replicate n false)) 4)):=by
 obtain⟨i0,hi0,hii⟩:=Option.map_eq_some_iff.1 aes;simp only[Prod.mk.injEq]at hii;obtain⟨hz0,hz1,hzb⟩:=hii;have:=run_make W 45 4 i0 (.bool false) underlying45 hi0 hz0 .i64 .i64 (n:Int) (n:Int) (by omega) (Int.le_refl _) (by rw[hzb];omega) (by omega);rw[this,hz1];have e:((n:Int)).toNat=n:=by omega
 rw[e,Nat.mul_one];have e2:(Value.bool false).cells=#[.bool false]:=rfl;rw[e2,aet]
def BB(w:World)(B:Nat)(b:List Bool):Prop:=w.heap[B]?=some (.cells (bV b) 4 (0,0))
theorem BB.grow{w w':World}{B:Nat}{b:List Bool}(h:BB w B b)(hg:w.grownBy w' none):BB w' B b:=(hg.block B (aA h) (by simp)).trans h
theorem BB.cell{w:World}{B:Nat}{b:List Bool}(h:BB w B b)(i:Nat)(hi:i<b.length):w.cell? ⟨B,i,none⟩=some (.bool (bA b i))/\w.frozen? ⟨B,i,none⟩=false:=by
 refine⟨?_,Lib.frozen_of_heap h i⟩;rw[ag h,xQ b i hi];unfold bV;simp[hi]
theorem BB.set{w:World}{B:Nat}{b:List Bool}(h:BB w B b)(i:Nat)(v:Bool):BB (w.setCell ⟨B,i,none⟩ (.bool v)) B (b.set i v):=by
 have:=block_setCell (i:=i) h (.bool v);unfold BB;rw[this];congr 2;unfold bV;rw[List.map_set];simp
theorem Ud{w W:World}{q:Nat}(h:w.grownBy W none)(hq:w.heap.size<=q)(o:Nat)(v:Value):w.grownBy (W.setCell ⟨q,o,none⟩ v) none :=
 ⟨h.os,h.tape,h.output,by simpa [World.setCell] using h.size,fun k hk hn=>(heap_setCell_other W _ k _ (by show ¬k=q;omega)).trans (h.block k hk hn)⟩
theorem aev(v:Value)(o oc:Option Addr)(c cc:Nat)(N:List Nd)(L:List Re)(C:List Int)(w:World)(hn:NdS w v N)(h:ReS w (.slice o L.length c) L)(hc:IS w (.slice oc C.length cc) C)(hN:N.length<=1048576)(hL:L.length<=1048576)(hC:C.length<=1048576)(hin:∀z∈C,0<=z/\z<(L.length:Int))(hLN:∀x∈L,x.nd.length<=1048576) :
  Calls prog 15 #[v,.slice o L.length c,.slice oc C.length cc] w fun e w'=>∃B,e=.returned (.slice (some ⟨B,0,none⟩) C.length C.length)/\BB w' B (wD N L C (C.length+1))/\w.grownBy w' none:=by
 have CN:=ae (fun n w' (hg:w.grownBy w' none)=>TL v N n w' (hn.grow hg) hN);have CL:=ae TL;obtain⟨on,nn,cn,rfl⟩:∃o n c,v=.slice o n c:=by
  rcases hn with⟨rfl,-⟩|⟨_,_,rfl,-⟩<;>exact⟨_,_,_,rfl⟩
 have kD:=ae (fun w' (hg:w.grownBy w' none) i (hi:i<L.length)=>sG (h.grow hg) hi);have xW:=ae (fun w' (hg:w.grownBy w' none) i (hi:i<C.length)=>qE (hc.grow hg) hi);have iJ:Hd (∀i (hi:i<C.length),∃k:Nat,C[i]=(k:Int)/\k<L.length):=fun i hi=>by
  have:=hin _ (List.getElem_mem hi);exact⟨(C[i]).toNat,by omega,by omega⟩
 have dA:=ae hLN;have FK:Hd (∀i (hi:i<C.length) (k:Nat) (hk:k<L.length),C[i]=(k:Int)->nC L C i=L[k].nm/\vS L C i=L[k].nd):=fun i hi k hk he=>by
  have e1:(C[i]).toNat=k:=by omega
  exact⟨by rw[uo L C i hi,e1,qF L k hk],by rw[zZ L C i hi,e1,zY L k hk]⟩
 obtain⟨B,hB⟩:=zN (w.heap.size);have HB:=ae hB;have hmk:=aeu C.length hC w;rw[hB]at hmk;have HI0:Hd (BB (w.alloc (.cells (bV (List.replicate C.length false)) 4)) B (wD N L C 0)/\w.grownBy (w.alloc (.cells (bV (List.replicate C.length false)) 4)) none):=by
  refine⟨?_,au (ak w none) _⟩;have:=heap_alloc_new w (.cells (bV (List.replicate C.length false)) 4);rw[hB]at this;exact this
 clear hn h hc hin hLN;go_enter func15,ntmps15;go_wp2
 try rw[hB]
 clear hB hmk;go_loopw [8] (fun vr wr=>∃r:Nat,vr=.int .i64 r/\r<=C.length+1/\BB wr B (wD N L C r)/\w.grownBy wr none) (fun vr _=>C.length+1-(intOf vr).toNat)
 case atStart=>exact⟨0,rfl,Nat.zero_le _,HI0.o⟩
 case round =>
  obtain⟨r,rfl,hr,hbb,hg⟩:=hrel;have l9:=ae hbb;have HG:=ae hg;have FM:Hd ((wD N L C r).length=C.length):=xU r;have Ue:Hd (wD N L C (r+1)=rn N L C (wD N L C r) C.length):=rfl;obtain⟨b0,hb0⟩:=zN (wD N L C r);rw[hb0]at l9 FM Ue;have HR0:Hd (rn N L C b0 0=b0):=rfl;have wH:Hd (∀i,(rn N L C b0 i).length=C.length):=fun i=>(xR b0 i).trans FM.o
  have az:Hd (∀i,rn N L C b0 (i+1)=(rn N L C b0 i).set i (vK N L C (rn N L C b0 i) i C.length)):=fun i=>rfl
  obtain⟨wo,hwo⟩:∃wo,wo=wr:=⟨_,rfl⟩;subst hwo
  by_cases hlt:r<=C.length
  ·have hrI:((r:Int)<=(C.length:Int)):=by omega
   clear hbb hg hb0;go_wp2;go_loopw [9] (fun vi wr=>∃i:Nat,vi=.int .i64 i/\i<=C.length/\BB wr B (rn N L C b0 i)/\w.grownBy wr none) (fun vi _=>C.length-(intOf vi).toNat)
   case atStart=>exact⟨0,rfl,Nat.zero_le _,l9.o,HG.o⟩
   case round =>
    obtain⟨i,rfl,hi,hbb,hg⟩:=hrel;have Uf:=ae hbb;have uq:=ae hg;have hlen:=wH.o i;have fO:=ae (az.o i);obtain⟨b,hb⟩:=zN (rn N L C b0 i);rw[hb]at Uf hlen fO;obtain⟨wp,hwp⟩:∃wp,wp=wr:=⟨_,rfl⟩;subst hwp
    by_cases hil:i<C.length
    ·obtain⟨k0,hk0,KD⟩:=iJ.o i hil;obtain⟨a1,ho1,hcp1,iU⟩:=xW.o wp hg i hil;have f0:=iU i hil;obtain⟨a2,ho2,hcp2,ik⟩:=kD.o wp hg k0 KD;obtain⟨e0,-⟩:=ik k0 KD;have hnc:=(FK.o i hil k0 KD hk0).1;rw[hk0]at f0;obtain⟨nm,hnm⟩:=zN (L[k0].nm);rw[hnm]at e0 hnc;have HNM:=ae hnc;have vI:Hd (Calls prog 28 #[.slice on nn cn,.string nm] wp fun e w''=>e=.returned (.bool (aI N L C i))/\wp.grownBy w'' none):=by
      have:=CN.o nm wp hg;unfold aI;rw[hnc];exact this
     have FN:i<b.length:=by omega
     have KE:=ae (aei N L C b i);have xM:=ae (fun k=>aej N L C b i k FN);obtain⟨q0,hq0⟩:=zN (aI N L C i);rw[hq0]at vI KE;have hic:i<cc:=by omega
     have hkc:k0<c:=by omega
     have hwB:=Nat.le_of_eq HB.o;have DZ:=ae hwB;subst ho1 ho2;clear hbb hg iU ik hk0 hnm hnc hq0 hcp1 hcp2 hb hwB;go_wp2_with (go_at_call 28;refine vI.o.mono ?_);rintro e w2 ⟨rfl,hg2⟩;have hb2:=Uf.o.grow hg2;obtain⟨c0,c1⟩:=hb2.cell i FN;have HG2:=ae (ah uq.o hg2);have HB2:=ae hb2;obtain⟨u,hu⟩:=zN (bA b i);rw[hu]at c0 KE;have HS2:Hd (∀x:Bool,vK N L C b i 0=x->BB (w2.setCell ⟨B,i,none⟩ (.bool x)) B (b.set i (vK N L C b i 0))/\w.grownBy (w2.setCell ⟨B,i,none⟩ (.bool x)) none):=fun x hx=>⟨by rw[hx];exact HB2.o.set i x,Ud HG2.o DZ.o _ _⟩
     clear hb2 hg2 hu f0 e0;have key:∀x:Bool,(u || q0)=x->∃W3,w2.setCell ⟨B,i,none⟩ (.bool x)=W3/\BB W3 B (b.set i (vK N L C b i 0))/\w.grownBy W3 none:=fun x hx=>⟨_,rfl,HS2.o x (KE.o.trans hx)⟩
     have KEY:=ae key;clear key;go_upto_region 10 with fail
     go_cut [7] from 40 to 49 (fun v7 wx=>v7=.slice (some ⟨B,0,none⟩) C.length C.length/\BB wx B (b.set i (vK N L C b i 0))/\w.grownBy wx none)
     case first =>
      cases u with
      | true =>
       obtain⟨W3,hW3,h3⟩:=KEY.o true rfl;have H3:=ae h3;clear h3;go_wp2;go_meet
       case rel=>exact⟨rfl,H3.o⟩
      | false =>
       obtain⟨W3,hW3,h3⟩:=KEY.o q0 (by simp);have H3:=ae h3;clear h3;go_wp2;go_meet
       case rel=>exact⟨rfl,H3.o⟩
     case rest =>
      obtain⟨rfl,hb3,hg3⟩:=hcut;have HB3:Hd (BB wc B (b.set i (vK N L C b i 0))/\w.grownBy wc none):=⟨hb3,hg3⟩;clear hb3 hg3 KEY HS2 c0 c1;go_wp2;go_loopw [12] (fun vk wr=>∃k:Nat,vk=.int .i64 k/\k<=C.length/\BB wr B (b.set i (vK N L C b i k))/\w.grownBy wr none) (fun vk _=>C.length-(intOf vk).toNat)
      case atStart=>exact⟨0,rfl,Nat.zero_le _,HB3.o⟩
      case round =>
       obtain⟨k,rfl,hk,hbb,hg⟩:=hrel;have HBK:=ae hbb;have jG:=ae hg
       by_cases hkl:k<C.length
       ·obtain⟨k1,hk1,FO⟩:=iJ.o k hkl;obtain⟨a3,ho3,KF,Dc⟩:=xW.o wr hg k hkl;have f0:=Dc k hkl;obtain⟨a4,ho4,aew,Ug⟩:=kD.o wr hg k1 FO;obtain⟨-,-,⟨sv,e2,e3⟩,-⟩:=Ug k1 FO;have hnq:=(FK.o k hkl k1 FO hk1).2;have Uh:=dA.o _ (List.getElem_mem FO);rw[hk1]at f0;have C5:Hd (Calls prog 28 #[sv,.string nm] wr fun e w''=>e=.returned (.bool (qI L C k i))/\wr.grownBy w'' none):=by
         have:=CL.o sv L[k1].nd nm wr e3 Uh;unfold qI;rw[hnq,HNM.o];exact this
        obtain⟨so,sn,sc,rfl⟩:∃o n c,sv=.slice o n c:=by
         rcases e3 with⟨rfl,-⟩|⟨_,_,rfl,-⟩<;>exact⟨_,_,_,rfl⟩
        have um:=ae (xM.o k);obtain⟨q,hq⟩:=zN (qI L C k i);rw[hq]at C5 um;have afd:k<cc:=by omega
        have afe:k1<c:=by omega
        cases ho3
        cases ho4
        clear hbb hg Dc Ug hk1 hnq Uh hq KF aew e3;go_wp2_with (go_at_call 28;refine C5.o.mono ?_);rintro e w5 ⟨rfl,hg5⟩;have hb5:=HBK.o.grow hg5;obtain⟨s0,s1⟩:=hb5.cell i (by rw[List.length_set];exact FN);obtain⟨s2,-⟩:=hb5.cell k (by rw[List.length_set];omega);have jQ:=ae (ah jG.o hg5);have e5:bA (b.set i (vK N L C b i k)) i=vK N L C b i k:=by rw[Aa _ _ _ _ FN,if_pos rfl]
        rw[e5]at s0;have KG:Hd (∀x:Bool,vK N L C b i (k+1)=x->BB (w5.setCell ⟨B,i,none⟩ (.bool x)) B (b.set i (vK N L C b i (k+1)))/\w.grownBy (w5.setCell ⟨B,i,none⟩ (.bool x)) none):=fun x hx=>by
         refine⟨?_,Ud jQ.o DZ.o _ _⟩;have:=hb5.set i x;rw[List.set_set]at this;rw[hx];exact this
        obtain⟨v,hv⟩:=zN (vK N L C b i k);rw[hv]at s0 s2 um;obtain⟨u,hu⟩:=zN (bA (b.set i v) k);rw[hu]at s2 um;clear hb5 hg5 hv hu f0 e2 e5
        cases v with
        | true =>
         have H5:=ae (KG.o true (by rw[um.o];rfl));go_wp2;go_roundw
         case rel=>exact⟨k+1,by go_num,by omega,H5.o⟩
         case measure=>simp[intOf];omega
        | false =>
         cases u with
         | true =>
          have H5:=ae (KG.o q (by rw[um.o];simp));go_wp2;go_roundw
          case rel=>exact⟨k+1,by go_num,by omega,H5.o⟩
          case measure=>simp[intOf];omega
         | false =>
          have H5:=ae (KG.o false (by rw[um.o];rfl));go_wp2;go_roundw
          case rel=>exact⟨k+1,by go_num,by omega,H5.o⟩
          case measure=>simp[intOf];omega
       ·have hke:k=C.length:=by omega
        have xO:Hd (BB wr B (rn N L C b0 (i+1))):=by
         rw[hke]at hbb;rw[fO.o];exact hbb
        clear hbb hg hke hk;go_wp2;go_roundw
        case rel=>exact⟨i+1,by go_num,by omega,xO.o,jG.o⟩
        case measure=>simp[intOf];omega
    ·have hie:i=C.length:=by omega
     have xO:Hd (BB wp B (wD N L C (r+1))):=by
      rw[hie]at hbb;rw[Ue.o];exact hbb
     clear hbb hg hie hi hb;go_wp2;go_roundw
     case rel=>exact⟨r+1,by go_num,by omega,xO.o,uq.o⟩
     case measure=>simp[intOf];omega
  ·have hre:r=C.length+1:=by omega
   have xO:Hd (BB wo B (wD N L C (C.length+1))):=by rw[hre]at hbb;exact hbb
   have hrI:¬((r:Int)<=(C.length:Int)):=by omega
   clear hbb hg hre hr hb0;go_wp2;refine bodyPost_ret (results_tmp (t:=6) rfl _ _ _) rfl ⟨B,rfl,xO.o,HG.o⟩
end Go.Proofs.YtapodndfpecglaaGreatDoor
