import Derived.Test.YtiinliaoojfjaaaGreatDoorCards
import Derived.Test.YtiinliaoojfjaaaGreatDoorTie
import Derived.Deep.DeepHandedRow
import Derived.Lib.LaidTab
import Derived.Deep.CutRange
import Derived.Test.YtiinliaoojfjaaaGreatDoorF53
import Derived.Test.YtiinliaoojfjaaaGreatDoorF51
set_option linter.all false
set_option maxRecDepth 100000
set_option maxHeartbeats 0
open Go.Proofs.Tryz
namespace Go.Proofs.YtiinliaoojfjaaaGreatDoor
open Go.RowKit Go.Maps
theorem ad2{L:List En}{w:World}{base:Nat}{v:Value}(h:BJ L w base v L.length):EnS w v L:=by
 obtain⟨vs,hl,ho,hn⟩:=h;rw[List.take_length]at ho
 rcases ho.2 with⟨h1,h2⟩|⟨g,cap,cur,hv,hb,hc,h3,h4,h5,h6⟩
 ·exact Or.inl ⟨h1,List.length_eq_zero_iff.1 h2⟩
 ·refine Or.inr ⟨⟨g,0,none⟩,cap,hv,h3,fun i hi=>?_⟩;have h':=ho;rw[hv]at h';have key:∀k u,0<k->(rY L[i] (vs[i]'(by omega)))[k]?=some u->w.cell? ⟨((⟨g,0,none⟩:Addr).add (i*4)).block,((⟨g,0,none⟩:Addr).add (i*4)).off+k,none⟩=some u:=fun k u hk hu=>by
   have:=h'.cells (g:=g) rfl (i*4+k) u (LV L vs hl.symm i hi k u hu);rw[qQ _ _ k hk]at this;exact this
  have k0:=h'.cells (g:=g) rfl (i*4+0) _ (LV L vs hl.symm i hi 0 _ rfl);exact⟨by simpa using k0,key 1 _ (by omega) rfl,key 2 _ (by omega) rfl,_,key 3 _ (by omega) rfl,(hn i hi hi).1⟩
theorem IC(sl:Value)(L:List En)(w:World)(h:EnS w sl L)(hL:L.length<=1048576)(hN:∀x∈L,x.nd.length<=1048576) :
  Calls prog 10 #[sl] w fun e w'=>∃o c,e=.returned (.slice o L.length c)/\EnS w' (.slice o L.length c) L/\w.grownBy w' none:=by
 rcases h with⟨rfl,rfl⟩|⟨a,cap,rfl,h2,h3⟩
 ·go_enter func10,ntmps10;go_wp2;go_loopw [3,4] (fun vm vi wr=>vi=.int .i64 0/\vm=.slice none 0 0/\w.grownBy wr none) (fun _ vi _=>0)
  case atStart=>exact⟨rfl,rfl,ai _ _⟩
  case round =>
   obtain⟨rfl,rfl,hb⟩:=hrel;have HB:Hd (w.grownBy wr none):=hb;clear hb;go_wp2;refine bodyPost_ret (results_tmp (t:=2) rfl _ _ _) rfl ⟨none,0,rfl,Or.inl ⟨rfl,rfl⟩,HB.o⟩
 ·refine(adm a cap L w hL h2 hN h3).mono ?_;rintro e w' ⟨v,rfl,hr,hb⟩;have h1:=ad2 hr;obtain⟨o,c,rfl⟩:=zt h1;exact⟨o,c,rfl,h1,gz hb⟩
abbrev xa1(L:List Re)(C:List Int):=∀z∈C,0<=z/\z<(L.length:Int)
theorem xa2(w:World):w.grownBy w.drew none:=⟨rfl,rfl,rfl,Nat.le_refl _,fun _ _ _=>rfl⟩
theorem xa3{w v N}(h:NdS w v N):∃o n c,v=.slice o n c:=let⟨o,c,e⟩:=mP h;⟨o,_,c,e⟩
def yG(L:List Re)(C:List Int)(y:Nd):Bool:=decide (0<=eG L C y.n) && dE y.r (dY L (eG L C y.n).toNat)
def lH(N:List Nd)(L:List Re)(C:List Int):Bool:=N.all (yG L C)
theorem ah3(N:List Nd)(L:List Re)(C:List Int)(i:Nat)(hi:i<N.length)(h:yG L C N[i]=false):lH N L C=false:=by
 unfold lH;rw[List.all_eq_false];exact⟨N[i],List.getElem_mem _,by rw[h];simp⟩
theorem ah4(N:List Nd)(L:List Re)(C:List Int)(i:Nat)(hi:i<N.length)(h:yG L C N[i]=true)(h0:lH (N.take i) L C=true):lH (N.take (i+1)) L C=true:=by
 unfold lH at *;rw[List.take_succ_eq_append_getElem hi,List.all_append,h0];simp[h]
theorem Yf(v:Value)(o oc:Option Addr)(c cc:Nat)(N:List Nd)(L:List Re)(C:List Int)(w:World)(hn:NdS w v N)(h:ReS w (.slice o L.length c) L)(hc:IS w (.slice oc C.length cc) C)(hN:N.length<=1048576)(hL:L.length<=1048576)(hC:C.length<=1048576)(hin:xa1 L C)(hr:∀y∈N,okR y.r=true)(hS:∀y∈N,y.r.size<2 ^ 60)(hV:∀x∈L,x.ve.size<2 ^ 60) :
  Calls prog 36 #[v,.slice o L.length c,.slice oc C.length cc] w fun e w'=>e=.returned (.bool (lH N L C))/\w.grownBy w' none:=by
 obtain⟨on,cn,rfl⟩:=mP hn
 have zl:=ae (fun w' (hg:w.grownBy w' none) i (hi:i<N.length)=>FZ (hn.grow hg) hi);have gq:=ae (fun w' (hg:w.grownBy w' none) i (hi:i<L.length)=>lq (h.grow hg) hi);have CC:=ae (fun n w' (hg:w.grownBy w' none)=>Jn o oc c cc L C n w' (h.grow hg) (hc.grow hg) hL hC hin);have CA:=ae (fun y (hy:y∈N) x (hx:x∈L) w=>XC y.r x.ve w (hS y hy) (hV x hx) (hr y hy));have F8:Hd (∀n,eG L C n=-1\/(0<=eG L C n/\eG L C n<(L.length:Int))):=fun n=>by
  rcases yC L C n with⟨z,hz,he,-⟩|⟨he,-⟩
  ·right;rw[he];exact hin z hz
  ·left;exact he
 have Yg:=ae (ah3 N L C);have HST:=ae (ah4 N L C);have HMY:Hd (∀y,yG L C y=(decide (0<=eG L C y.n) && dE y.r (dY L (eG L C y.n).toNat))):=fun y=>rfl
 obtain⟨R,hR⟩:=zN (lH N L C);have HR:=ae hR;rw[hR]at Yg ⊢;clear hn h hc hin hr hS hV hR;go_enter func36,ntmps36;go_wp2;go_loopw [7] (fun vi wr=>∃i:Nat,vi=.int .i64 i/\i<=N.length/\lH (N.take i) L C=true/\w.grownBy wr none) (fun vi _=>N.length-(intOf vi).toNat)
 case atStart=>exact⟨0,rfl,Nat.zero_le _,rfl,ai _ _⟩
 case round =>
  obtain⟨i,rfl,hi,hm,hg⟩:=hrel;have HG:=ae hg;have HM:=ae hm
  by_cases hlt:i<N.length
  ·obtain⟨a1,ho1,hcp1,iD⟩:=zl.o wr hg i hlt;obtain⟨e0,e1⟩:=iD i hlt;have FT:=Yg.o i hlt;have hst:=HST.o i hlt;have hca:=CA.o N[i] (List.getElem_mem hlt);obtain⟨y,hy⟩:=zN (N[i]);rw[hy]at e0 e1 FT hst hca;have Yh:=ae FT;have Pj:=ae (fun(h:yG L C y=true)=>hst h HM.o);have DD:=ae hca;have C1:=CC.o y.n wr hg;have hch:=F8.o y.n;have mW:=ae (HMY.o y);obtain⟨z,hz⟩:=zN (eG L C y.n);rw[hz]at C1 hch mW;have C1':=ae C1;have hic:i<cn:=by omega
   have xI:=ae e1;subst ho1;clear iD hg hm hcp1 hy FT hst hca C1 hz e1;go_wp2_with (go_at_call 37;refine C1'.o.mono ?_);rintro e w2 ⟨rfl,hg2⟩;have HG2:=ae (ag HG.o hg2);have f1:=hg2.cell xI.o (by simp);clear hg2 e0
   by_cases hz0:z<0
   ·have lM:=ae (Yh.o (by rw[mW.o,decide_eq_false (by omega)];rfl));clear hch;go_wp2;refine bodyPost_ret (results_tmp (t:=6) rfl _ _ _) rfl ⟨?_,HG2.o⟩;rw[lM.o];rfl
   ·obtain⟨k,rfl⟩:∃k:Nat,z=(k:Int):=⟨z.toNat,by omega⟩;have hkl:k<L.length:=by omega
    obtain⟨a2,ho2,hcp2,gu⟩:=gq.o w2 HG2.o k hkl;obtain⟨-,g1,-⟩:=gu k hkl;have hca:=DD.o L[k] (List.getElem_mem hkl);have nK:Hd (dY L ((k:Int)).toNat=L[k].ve):=by
     have e1:((k:Int)).toNat=k:=by omega
     show _=_;rw[e1];exact wM L k hkl
    obtain⟨x,hx⟩:=zN (L[k]);rw[hx]at g1 hca nK;have Px:Hd (yG L C y=dE y.r x.ve):=by
     show _=_;rw[mW.o,decide_eq_true (by omega),nK.o];rfl
    obtain⟨q,hq⟩:=zN (dE y.r x.ve);rw[hq]at hca Px;have O6:=ae hca;have hkc:k<c:=by omega
    have aj2:(k:Int)<(L.length:Int):=by omega
    have hnz:¬((k:Int)<0):=by omega
    subst ho2;clear gu hcp2 hx hq hca hch hz0;go_upto_region 7 with fail
    go_region_with (first|(go_at_call 69;refine(O6.o _).mono ?_;rintro e w3 ⟨rfl,hg3⟩))
    all_goals (
     have dD:=ae (ag HG2.o (ag (xa2 w2) hg3));clear hg3 f1 g1
     cases q with
     | true =>
      have HN:=ae (Pj.o Px.o);go_wp2;go_roundw;exact⟨i+1,by go_num,by omega,HN.o,dD.o⟩;simp[intOf];omega
     | false =>
      have lM:=ae (Yh.o Px.o);go_wp2;refine bodyPost_ret (results_tmp (t:=6) rfl _ _ _) rfl ⟨?_,dD.o⟩;rw[lM.o];rfl)
  ·have hil:i=N.length:=by omega
   have rJ:Hd (R=true):=by
    rw[hil,List.take_length]at hm;exact HR.o.symm.trans hm
   clear hm hg hil hi;go_wp2;refine bodyPost_ret (results_tmp (t:=6) rfl _ _ _) rfl ⟨?_,HG.o⟩;rw[rJ.o];rfl
def nC(L:List Re)(C:List Int)(i:Nat):ByteArray:=match C[i]? with|some c=>aF L c.toNat|none=>⟨#[]⟩
theorem yH(L:List Re)(C:List Int)(i:Nat)(h:i<C.length):nC L C i=aF L (C[i]).toNat:=by simp[nC,List.getElem?_eq_getElem h]
def Jy(L:List Re)(k:Nat):List Nd:=match L[k]? with|some x=>x.nd|none=>[]
theorem DI(L:List Re)(k:Nat)(h:k<L.length):Jy L k=L[k].nd:=by simp[Jy,List.getElem?_eq_getElem h]
def yI(L:List Re)(C:List Int)(i:Nat):List Nd:=match C[i]? with|some c=>Jy L c.toNat|none=>[]
theorem DJ(L:List Re)(C:List Int)(i:Nat)(h:i<C.length):yI L C i=Jy L (C[i]).toNat:=by simp[yI,List.getElem?_eq_getElem h]
theorem xa4(L:List Re)(C:List Int)(i:Nat)(hi:i<C.length)(k:Nat)(hk:k<L.length)(he:C[i]=(k:Int)):nC L C i=L[k].nm/\yI L C i=L[k].nd:=by
 have e1:(C[i]).toNat=k:=by omega
 exact⟨by rw[yH L C i hi,e1,mX L k hk],by rw[DJ L C i hi,e1,DI L k hk]⟩
def aI(N:List Nd)(L:List Re)(C:List Int)(i:Nat):Bool:=jC N (nC L C i)
def qI(L:List Re)(C:List Int)(k i:Nat):Bool:=jC (yI L C k) (nC L C i)
def bA(b:List Bool)(i:Nat):Bool:=b.getD i false
theorem Ag(b:List Bool)(i:Nat)(h:i<b.length):bA b i=b[i]:=by simp[bA,List.getElem?_eq_getElem h]
theorem DK(b:List Bool)(i j:Nat)(v:Bool)(hi:i<b.length):bA (b.set i v) j=if j=i then v else bA b j:=by
 unfold bA
 by_cases h:j=i
 ·subst h;simp[hi]
 ·rw[if_neg h];have:¬i=j:=fun e=>h e.symm
  simp[List.getElem?_set_ne this]
def vK(N:List Nd)(L:List Re)(C:List Int)(b:List Bool)(i k:Nat):Bool:=bA b i || aI N L C i || (List.range k).any fun j=>bA b j && qI L C j i
theorem ah5(N:List Nd)(L:List Re)(C:List Int)(b:List Bool)(i:Nat):vK N L C b i 0=(bA b i || aI N L C i):=by simp[vK]
theorem ah6(N:List Nd)(L:List Re)(C:List Int)(b:List Bool)(i k:Nat)(hi:i<b.length):vK N L C b i (k+1)=(vK N L C b i k || (bA (b.set i (vK N L C b i k)) k && qI L C k i)):=by
 have h1:vK N L C b i (k+1)=(vK N L C b i k || (bA b k && qI L C k i)):=by
  unfold vK;rw[List.range_succ,List.any_append];simp[Bool.or_assoc]
 rw[h1,DK b i k _ hi]
 by_cases h:k=i
 ·subst h;rw[if_pos rfl]
  cases hv:vK N L C b k k with
  | true=>rfl
  | false =>
   have:bA b k=false:=by
    unfold vK at hv
    cases hb:bA b k with
    | false=>rfl
    | true=>rw[hb]at hv;simp at hv
   rw[this]
   try simp
 ·rw[if_neg h]
def rn(N:List Nd)(L:List Re)(C:List Int)(b:List Bool):Nat->List Bool
 | 0=>b
 | i+1=>(rn N L C b i).set i (vK N L C (rn N L C b i) i C.length)
def wD(N:List Nd)(L:List Re)(C:List Int):Nat->List Bool
 | 0=>List.replicate C.length false
 | r+1=>rn N L C (wD N L C r) C.length
section
variable {N:List Nd} {L:List Re} {C:List Int}
theorem Ah(b:List Bool):∀i,(rn N L C b i).length=b.length
 | 0=>rfl
 | i+1=>by rw[rn,List.length_set];exact Ah b i
theorem Ai:∀r,(wD N L C r).length=C.length
 | 0=>by simp[wD]
 | r+1=>by rw[wD,Ah];exact Ai r
theorem JA(i:Nat)(hi:i<C.length):fD C (C[i]).toNat=true:=by
 unfold fD;rw[List.any_eq_true];exact⟨C[i],List.getElem_mem _,by simp⟩
end
def ok2(N:List Nd)(L:List Re)(C:List Int):Nat->Bool
 | 0=>lH N L C
 | i+1=>ok2 N L C i && lH (yI L C i) L C && decide (eG L (C.take i) (nC L C i)<0)
section
variable {N:List Nd} {L:List Re} {C:List Int}
theorem Yo:∀i,ok2 N L C i=true↔lH N L C=true/\∀j,j<i->lH (yI L C j) L C=true/\eG L (C.take j) (nC L C j)<0
 | 0=>⟨fun h=>⟨h,fun j hj=>by omega⟩,fun h=>h.1⟩
 | i+1=>by
  rw[ok2,Bool.and_eq_true,Bool.and_eq_true,Yo i,decide_eq_true_eq];constructor
  ·rintro⟨⟨⟨h1,h2⟩,h3⟩,h4⟩;refine⟨h1,fun j hj=>?_⟩
   by_cases he:j=i
   ·subst he;exact⟨h3,h4⟩
   ·exact h2 j (by omega)
  ·rintro⟨h1,h2⟩;exact⟨⟨⟨h1,fun j hj=>h2 j (by omega)⟩,(h2 i (by omega)).1⟩,(h2 i (by omega)).2⟩
theorem aic:(jV L C).length=C.length:=by unfold jV;simp
theorem same_iff(i:Nat)(hi:i<C.length)(hi':i<(jV L C).length):ui ((jV L C).take i) (jV L C)[i]=(C.take i).any fun c=>decide (aF L c.toNat=nC L C i):=by
 unfold ui;rw[acr L C i hi hi',yH L C i hi];have e:(jV L C).take i=(C.take i).map fun c=>(⟨aF L c.toNat,⟨#[]⟩⟩:Nd):=by unfold jV;rw[List.map_take]
 rw[e,List.any_map];rfl
theorem Yp(hin:xa1 L C)(i:Nat)(n:ByteArray):eG L (C.take i) n<0↔(C.take i).any (fun c=>decide (aF L c.toNat=n))=false:=by
 constructor
 ·intro h
  rcases yC L (C.take i) n with⟨c,hc,he,-⟩|⟨-,h2⟩
  ·have:=hin c (List.mem_of_mem_take hc);omega
  ·rw[List.any_eq_false];intro c hc e;exact h2 c hc (by simpa using e)
 ·intro h;rw[XB L (C.take i) n h];decide
theorem Yq(hin:xa1 L C):∀i,i<=C.length->(fU (jV L C) i=false↔∀j,j<i->eG L (C.take j) (nC L C j)<0)
 | 0,_=>⟨fun _ j hj=>by omega,fun _=>rfl⟩
 | i+1,h=>by
  have hi:i<(jV L C).length:=by rw[aic];omega
  rw[Ew _ i hi,Bool.or_eq_false_iff,Yq hin i (by omega),same_iff i (by omega) hi,<-Yp hin];constructor
  ·rintro⟨h1,h2⟩ j hj
   by_cases he:j=i
   ·subst he;exact h2
   ·exact h1 j (by omega)
  ·intro h1;exact⟨fun j hj=>h1 j (by omega),h1 i (by omega)⟩
theorem aid(hin:xa1 L C):qo L C C.length=true:=by
 unfold qo;rw[List.take_length,List.all_eq_true];intro z hz;exact decide_eq_true (hin z hz)
theorem Pz(hin:xa1 L C):vO L C C.length=true↔∀j,j<C.length->eG L (C.take j) (nC L C j)<0:=by
 unfold vO;rw[aid hin,Bool.true_and,<-Yq hin C.length (Nat.le_refl _)]
 cases fU (jV L C) C.length<;>simp
theorem Yr(hin:xa1 L C)(hok:vO L C C.length=true){c d:Int}(hc:c∈C)(hd:d∈C)(he:aF L c.toNat=aF L d.toNat):c=d:=by
 rw[Pz hin]at hok;obtain⟨i,hi,rfl⟩:=List.getElem_of_mem hc;obtain⟨j,hj,rfl⟩:=List.getElem_of_mem hd;have key:∀(i j:Nat) (hi:i<C.length) (hj:j<C.length),i<j->aF L (C[i]).toNat=aF L (C[j]).toNat->False:=fun i j hi hj hij e=>by
  have h1:=(Yp hin j _).1 (hok j hj);rw[List.any_eq_false]at h1;refine h1 C[i] (List.mem_take_iff_getElem.2 ⟨i,by omega,rfl⟩) ?_;rw[yH L C j hj];simpa using e
 by_cases h1:i<j
 ·exact(key i j hi hj h1 he).elim
 ·by_cases h2:j<i
  ·exact(key j i hj hi h2 he.symm).elim
  ·have:i=j:=by omega
   subst this;rfl
theorem JC(hin:xa1 L C)(hok:vO L C C.length=true)(M:List Nd):lH M L C=true↔∀j,j<M.length->∃q,fD C q=true/\kZ M L j q=true:=by
 unfold lH;rw[List.all_eq_true];constructor
 ·intro h j hj;have h1:=h M[j] (List.getElem_mem _);unfold yG at h1;rw[Bool.and_eq_true,decide_eq_true_eq]at h1
  rcases yC L C M[j].n with⟨c,hc,he,hn⟩|⟨he,-⟩
  ·have hz:=hin c hc;refine⟨c.toNat,?_,?_⟩
   ·unfold fD;rw[List.any_eq_true];exact⟨c,hc,by simp⟩
   ·rw[zK M L j c.toNat hj (by omega),decide_eq_true hn.symm,Bool.true_and];rw[he]at h1;exact h1.2
  ·rw[he]at h1;exact absurd h1.1 (by decide)
 ·intro h y hy;obtain⟨j,hj,rfl⟩:=List.getElem_of_mem hy;obtain⟨q,h1,h2⟩:=h j hj;have GN:=WZ h2;rw[zK M L j q hj GN,Bool.and_eq_true,decide_eq_true_eq]at h2;unfold fD at h1;rw[List.any_eq_true]at h1;obtain⟨c,hc,hcq⟩:=h1;have PD:=of_decide_eq_true hcq
  rcases yC L C M[j].n with⟨d,hd,he,hn⟩|⟨-,h3⟩
  ·have hcd:=Yr hin hok hc hd (by rw[PD,hn];exact h2.1.symm);subst hcd;have hz:=hin c hc;unfold yG;rw[he,PD,decide_eq_true hz.1,h2.2];rfl
  ·exact absurd (by rw[PD];exact h2.1.symm) (h3 c hc)
end
structure akc(N:List Nd)(L:List Re)(C:List Int):Prop where
 f:fE N L=0
 ok:vO L C C.length=true
 m0:∀j,j<N.length->∃q,fD C q=true/\kZ N L j q=true
 m1:∀k (hk:k<L.length),fD C k=true->∀j,j<L[k].nd.length->∃q,fD C q=true/\kZ L[k].nd L j q=true
def akb(N:List Nd)(L:List Re)(C:List Int):Prop:=akc N L C/\(wD N L C (C.length+1)).all id=true
section
variable {N:List Nd} {L:List Re} {C:List Int}
theorem aki(hf:fE N L=0)(hin:xa1 L C):akb N L C↔ok2 N L C C.length=true/\(wD N L C (C.length+1)).all id=true:=by
 rw[Yo];constructor
 ·rintro⟨h,hw⟩;have hok:=h.ok;refine⟨⟨(JC hin hok N).2 h.m0,fun j hj=>⟨?_,(Pz hin).1 hok j hj⟩⟩,hw⟩;have hjl:(C[j]).toNat<L.length:=by have:=hin _ (List.getElem_mem hj);omega
  rw[DJ L C j hj,DI L _ hjl];exact(JC hin hok _).2 (h.m1 _ hjl (JA j hj))
 ·rintro⟨⟨h1,h2⟩,h3⟩;have hok:=(Pz hin).2 fun j hj=>(h2 j hj).2
  refine⟨⟨hf,hok,(JC hin hok N).1 h1,fun k hk hc=>?_⟩,h3⟩;unfold fD at hc;rw[List.any_eq_true]at hc;obtain⟨c,hcm,hck⟩:=hc;obtain⟨j,hj,rfl⟩:=List.getElem_of_mem hcm;have e:=of_decide_eq_true hck;have h4:=(h2 j hj).1;rw[DJ L C j hj,e,DI L k hk]at h4;exact(JC hin hok _).1 h4
theorem akg(h:akc N L C):xa1 L C:=fun z hz=>by
 have:=h.ok;unfold vO qo at this;rw[Bool.and_eq_true,List.take_length,List.all_eq_true]at this;exact of_decide_eq_true (this.1 z hz)
end
section
variable {N:List Nd} {L:List Re} {O:List En} {C:List Int}
theorem akh{k:Nat}:fD C k=true↔k∈C.map Int.toNat:=by
 unfold fD;rw[List.any_eq_true,List.mem_map];simp
theorem akj(h:akc N L C){j k:Nat}(hj:fD C j=true)(hk:fD C k=true)(e:aF L j=aF L k):j=k:=by
 obtain⟨c,hc,rfl⟩:=List.mem_map.1 (akh.1 hj);obtain⟨d,hd,rfl⟩:=List.mem_map.1 (akh.1 hk);rw[Yr (akg h) h.ok hc hd e]
theorem akf{M:List Nd}(h:akc N L C)(hm:∀j,j<M.length->∃q,fD C q=true/\kZ M L j q=true){y:Nd}(hy:y∈M):∃q,fD C q=true/\y.n=aF L q/\dE y.r (dY L q)=true:=by
 obtain⟨j,hj,rfl⟩:=List.getElem_of_mem hy;obtain⟨q,h1,h2⟩:=hm j hj;rw[zK M L j q hj (in_lt h.ok h1),Bool.and_eq_true,decide_eq_true_eq]at h2;exact⟨q,h1,h2.1,h2.2⟩
theorem akd{M:List Nd}(h:akc N L C)(hm:∀j,j<M.length->∃q,fD C q=true/\kZ M L j q=true){y:Nd}(hy:y∈M){q:Nat}(hq:fD C q=true)(e:y.n=aF L q):dE y.r (dY L q)=true:=by
 obtain⟨p,h1,h2,h3⟩:=akf h hm hy
 rwa [akj h h1 hq (h2.symm.trans e)]at h3
theorem ake(h:akc N L C){k:Nat}(hk:fD C k=true):∀i,i<(gm L k).length->∃q,fD C q=true/\kZ (gm L k) L i q=true:=by
 rw[uO L k (in_lt h.ok hk)];exact h.m1 k _ hk
theorem akk(h:akc N L C){ch:List Nat}(hch:∀k∈ch,fD C k=true){k:Nat}(hk:fD C k=true):Fit N L ch k :=
 ⟨fun y hy e=>akd h h.m0 hy hk e,fun y hy e=>akd h (ake h hk) hy hk e,fun j hj y hy e=>akd h (ake h (hch j hj)) hy hk e,fun j hj y hy e=>akd h (ake h hk) hy (hch j hj) e⟩
theorem YQ(h:akc N L C)(hv:∀q (hq:q<L.length),okV L[q].ve=true):∀(d:Nat) (row:List ByteArray) (ch:List Nat) (f f':Nat),SInv N L row ch->(∀k∈ch,fD C k=true)->¬dC (dL L O) (dG N L) (bG L) d row ch f=.no f'
 | 0,row,ch,f,f',hs,hc=>fun h=>by cases h
 | d+1,row,ch,f,f',hs,hc=>fun hn=>by
  rw[dC]at hn
  by_cases hl:ch.length=row.length
  ·rw[if_pos hl]at hn
   cases hn
  ·rw[if_neg hl]at hn;have hlt:ch.length<row.length:=by have:=hs.le;omega
   obtain⟨q,hq,uy⟩:∃q,fD C q=true/\aF L q=row[ch.length]:=by
    rcases hs.wt ch.length _ (List.getElem?_eq_getElem hlt) with⟨y,hy,e⟩|⟨j,k,h1,h2,y,hy,e⟩
    ·obtain⟨q,h1,h2,-⟩:=akf h h.m0 hy;exact⟨q,h1,h2.symm.trans e⟩
    ·obtain⟨q,h1,h2,-⟩:=akf h (ake h (hc k (List.mem_of_getElem? h2))) hy;exact⟨q,h1,h2.symm.trans e⟩
   have aC:=in_lt h.ok hq;rw[List.getD_eq_getElem?_getD,List.getElem?_eq_getElem hlt,Option.getD_some,<-uy]at hn;have hF:=akk h hc hq;obtain⟨f1,f2,h1⟩:=OI _ _ _ hn q (XI aC (hv q aC)) (rq.2 hF);exact YQ h hv d _ _ _ _ (by rw[wU];exact hs.step aC (by rw[List.getElem?_eq_getElem hlt,uy]) hF) (fun k hm=>by
    rcases List.mem_append.1 hm with hm|hm
    ·exact hc k hm
    ·rw[List.mem_singleton.1 hm];exact hq) h1
end
open Go.Joins
def bV(b:List Bool):Array Value:=(b.map Value.bool).toArray
theorem aih:(prog.info? 4).map (fun i=>(i.zero,i.size,i.bytes))=some (some (.bool false),1,1):=by kernel_rfl
theorem aii(n:Nat):madeCells #[Value.bool false] n=bV (List.replicate n false):=by
 unfold madeCells bV;apply Array.ext';simp;apply List.ext_getElem?;intro i;simp
 by_cases h:i<n
 ·simp[h,Nat.mod_one]
 ·simp[h]
theorem aij(n:Nat)(hn:n<=1048576)(W:World):(Instr.makeSlice 86 (.int .i64 (n:Int)) (.int .i64 (n:Int))).run prog W=.ok (.slice (some ⟨W.heap.size,0,none⟩) n n) (W.alloc (.cells (bV (List.replicate n false)) 4)):=by
 obtain⟨i0,hi0,hii⟩:=Option.map_eq_some_iff.1 aih;simp only[Prod.mk.injEq]at hii;obtain⟨hz0,hz1,hzb⟩:=hii;have:=run_make W 86 4 i0 (.bool false) underlying86 hi0 hz0 .i64 .i64 (n:Int) (n:Int) (by omega) (Int.le_refl _) (by rw[hzb];omega) (by omega);rw[this,hz1];have e:((n:Int)).toNat=n:=by omega
 rw[e,Nat.mul_one];have e2:(Value.bool false).cells=#[.bool false]:=rfl;rw[e2,aii]
def BB(w:World)(B:Nat)(b:List Bool):Prop:=w.heap[B]?=some (.cells (bV b) 4 (0,0))
theorem BB.grow{w w':World}{B:Nat}{b:List Bool}(h:BB w B b)(hg:w.grownBy w' none):BB w' B b:=(hg.block B (aC h) (by simp)).trans h
theorem BB.cell{w:World}{B:Nat}{b:List Bool}(h:BB w B b)(i:Nat)(hi:i<b.length):w.cell? ⟨B,i,none⟩=some (.bool (bA b i))/\w.frozen? ⟨B,i,none⟩=false:=by
 refine⟨?_,Lib.frozen_of_heap h i⟩;rw[ah h,Ag b i hi];unfold bV;simp[hi]
theorem BB.set{w:World}{B:Nat}{b:List Bool}(h:BB w B b)(i:Nat)(v:Bool):BB (w.setCell ⟨B,i,none⟩ (.bool v)) B (b.set i v):=by
 have:=block_setCell (i:=i) h (.bool v);unfold BB;rw[this];congr 2;unfold bV;rw[List.map_set];simp
theorem Yv{w W:World}{q:Nat}(h:w.grownBy W none)(hq:w.heap.size<=q)(o:Nat)(v:Value):w.grownBy (W.setCell ⟨q,o,none⟩ v) none :=
 ⟨h.os,h.tape,h.output,by simpa [World.setCell] using h.size,fun k hk hn=>(heap_setCell_other W _ k _ (by show ¬k=q;omega)).trans (h.block k hk hn)⟩
theorem aik(v:Value)(o oc:Option Addr)(c cc:Nat)(N:List Nd)(L:List Re)(C:List Int)(w:World)(hn:NdS w v N)(h:ReS w (.slice o L.length c) L)(hc:IS w (.slice oc C.length cc) C)(hN:N.length<=1048576)(hL:L.length<=1048576)(hC:C.length<=1048576)(hin:xa1 L C)(hLN:∀x∈L,x.nd.length<=1048576) :
  Calls prog 38 #[v,.slice o L.length c,.slice oc C.length cc] w fun e w'=>∃B,e=.returned (.slice (some ⟨B,0,none⟩) C.length C.length)/\BB w' B (wD N L C (C.length+1))/\w.grownBy w' none:=by
 have CN:=ae (fun n w' (hg:w.grownBy w' none)=>XD v N n w' (hn.grow hg) hN);have CL:=ae XD;obtain⟨on,nn,cn,rfl⟩:=xa3 hn
 have gq:=ae (fun w' (hg:w.grownBy w' none) i (hi:i<L.length)=>lq (h.grow hg) hi);have Gf:=ae (fun w' (hg:w.grownBy w' none) i (hi:i<C.length)=>rU (hc.grow hg) hi);have jT:Hd (∀i (hi:i<C.length),∃k:Nat,C[i]=(k:Int)/\k<L.length):=fun i hi=>by
  have:=hin _ (List.getElem_mem hi);exact⟨(C[i]).toNat,by omega,by omega⟩
 have bW:=ae hLN;have JF:=ae (xa4 L C)
 obtain⟨B,hB⟩:=zN (w.heap.size);have HB:=ae hB;have hmk:=aij C.length hC w;rw[hB]at hmk;have HI0:Hd (BB (w.alloc (.cells (bV (List.replicate C.length false)) 4)) B (wD N L C 0)/\w.grownBy (w.alloc (.cells (bV (List.replicate C.length false)) 4)) none):=by
  refine⟨?_,ak (ai w none) _⟩;have:=heap_alloc_new w (.cells (bV (List.replicate C.length false)) 4);rw[hB]at this;exact this
 clear hn h hc hin hLN;go_enter func38,ntmps38;go_wp2
 try rw[hB]
 clear hB hmk;go_loopw [8] (fun vr wr=>∃r:Nat,vr=.int .i64 r/\r<=C.length+1/\BB wr B (wD N L C r)/\w.grownBy wr none) (fun vr _=>C.length+1-(intOf vr).toNat)
 case atStart=>exact⟨0,rfl,Nat.zero_le _,HI0.o⟩
 case round =>
  obtain⟨r,rfl,hr,hbb,hg⟩:=hrel;have lV:=ae hbb;have HG:=ae hg;have JG:Hd ((wD N L C r).length=C.length):=Ai r;have Yw:Hd (wD N L C (r+1)=rn N L C (wD N L C r) C.length):=rfl;obtain⟨b0,hb0⟩:=zN (wD N L C r);rw[hb0]at lV JG Yw;have HR0:Hd (rn N L C b0 0=b0):=rfl;have nY:Hd (∀i,(rn N L C b0 i).length=C.length):=fun i=>(Ah b0 i).trans JG.o
  have aA:Hd (∀i,rn N L C b0 (i+1)=(rn N L C b0 i).set i (vK N L C (rn N L C b0 i) i C.length)):=fun i=>rfl
  obtain⟨wo,hwo⟩:∃wo,wo=wr:=⟨_,rfl⟩;subst hwo
  by_cases hlt:r<=C.length
  ·have hrI:((r:Int)<=(C.length:Int)):=by omega
   clear hbb hg hb0;go_wp2;go_loopw [9] (fun vi wr=>∃i:Nat,vi=.int .i64 i/\i<=C.length/\BB wr B (rn N L C b0 i)/\w.grownBy wr none) (fun vi _=>C.length-(intOf vi).toNat)
   case atStart=>exact⟨0,rfl,Nat.zero_le _,lV.o,HG.o⟩
   case round =>
    obtain⟨i,rfl,hi,hbb,hg⟩:=hrel;have Yx:=ae hbb;have dH:=ae hg;have hlen:=nY.o i;have eP:=ae (aA.o i);obtain⟨b,hb⟩:=zN (rn N L C b0 i);rw[hb]at Yx hlen eP;obtain⟨wp,hwp⟩:∃wp,wp=wr:=⟨_,rfl⟩;subst hwp
    by_cases hil:i<C.length
    ·obtain⟨k0,hk0,PG⟩:=jT.o i hil;obtain⟨a1,ho1,hcp1,iD⟩:=Gf.o wp hg i hil;have f0:=iD i hil;obtain⟨a2,ho2,hcp2,gu⟩:=gq.o wp hg k0 PG;obtain⟨e0,-⟩:=gu k0 PG;have hnc:=(JF.o i hil k0 PG hk0).1;rw[hk0]at f0;obtain⟨nm,hnm⟩:=zN (L[k0].nm);rw[hnm]at e0 hnc;have HNM:=ae hnc;have yw:Hd (Calls prog 70 #[.slice on nn cn,.string nm] wp fun e w''=>e=.returned (.bool (aI N L C i))/\wp.grownBy w'' none):=by
      have:=CN.o nm wp hg;unfold aI;rw[hnc];exact this
     have JH:i<b.length:=by omega
     have PH:=ae (ah5 N L C b i);have wY:=ae (fun k=>ah6 N L C b i k JH);obtain⟨q0,hq0⟩:=zN (aI N L C i);rw[hq0]at yw PH;have hic:i<cc:=by omega
     have hkc:k0<c:=by omega
     have hwB:=Nat.le_of_eq HB.o;have Ig:=ae hwB;subst ho1 ho2;clear hbb hg iD gu hk0 hnm hnc hq0 hcp1 hcp2 hb hwB;go_wp2_with (go_at_call 70;refine yw.o.mono ?_);rintro e w2 ⟨rfl,hg2⟩;have hb2:=Yx.o.grow hg2;obtain⟨c0,c1⟩:=hb2.cell i JH;have HG2:=ae (ag dH.o hg2);have HB2:=ae hb2;obtain⟨u,hu⟩:=zN (bA b i);rw[hu]at c0 PH;have HS2:Hd (∀x:Bool,vK N L C b i 0=x->BB (w2.setCell ⟨B,i,none⟩ (.bool x)) B (b.set i (vK N L C b i 0))/\w.grownBy (w2.setCell ⟨B,i,none⟩ (.bool x)) none):=fun x hx=>⟨by rw[hx];exact HB2.o.set i x,Yv HG2.o Ig.o _ _⟩
     clear hb2 hg2 hu f0 e0;have key:∀x:Bool,(u || q0)=x->∃W3,w2.setCell ⟨B,i,none⟩ (.bool x)=W3/\BB W3 B (b.set i (vK N L C b i 0))/\w.grownBy W3 none:=fun x hx=>⟨_,rfl,HS2.o x (PH.o.trans hx)⟩
     have KEY:=ae key;clear key;go_upto_region 10 with fail
     go_cut [7] from 40 to 49 (fun v7 wx=>v7=.slice (some ⟨B,0,none⟩) C.length C.length/\BB wx B (b.set i (vK N L C b i 0))/\w.grownBy wx none)
     case first =>
      cases u with
      | true =>
       obtain⟨W3,hW3,h3⟩:=KEY.o true rfl;have H3:=ae h3;clear h3;go_wp2;go_meet
       case rel=>exact⟨rfl,H3.o⟩
      | false =>
       obtain⟨W3,hW3,h3⟩:=KEY.o q0 (by simp);have H3:=ae h3;clear h3;go_wp2;go_meet
       case rel=>exact⟨rfl,H3.o⟩
     case rest =>
      obtain⟨rfl,hb3,hg3⟩:=hcut;have HB3:Hd (BB wc B (b.set i (vK N L C b i 0))/\w.grownBy wc none):=⟨hb3,hg3⟩;clear hb3 hg3 KEY HS2 c0 c1;go_wp2;go_loopw [12] (fun vk wr=>∃k:Nat,vk=.int .i64 k/\k<=C.length/\BB wr B (b.set i (vK N L C b i k))/\w.grownBy wr none) (fun vk _=>C.length-(intOf vk).toNat)
      case atStart=>exact⟨0,rfl,Nat.zero_le _,HB3.o⟩
      case round =>
       obtain⟨k,rfl,hk,hbb,hg⟩:=hrel;have pI:=ae hbb;have jv:=ae hg
       by_cases hkl:k<C.length
       ·obtain⟨k1,hk1,JI⟩:=jT.o k hkl;obtain⟨a3,ho3,Aa,iI⟩:=Gf.o wr hg k hkl;have f0:=iI k hkl;obtain⟨a4,Jr,ail,Jt⟩:=gq.o wr hg k1 JI;obtain⟨-,-,⟨sv,e2,e3⟩,-⟩:=Jt k1 JI;have hnq:=(JF.o k hkl k1 JI hk1).2;have Yy:=bW.o _ (List.getElem_mem JI);rw[hk1]at f0;have C5:Hd (Calls prog 70 #[sv,.string nm] wr fun e w''=>e=.returned (.bool (qI L C k i))/\wr.grownBy w'' none):=by
         have:=CL.o sv L[k1].nd nm wr e3 Yy;unfold qI;rw[hnq,HNM.o];exact this
        obtain⟨so,sn,sc,rfl⟩:=xa3 e3
        have nK:=ae (wY.o k);obtain⟨q,hq⟩:=zN (qI L C k i);rw[hq]at C5 nK;have aj3:k<cc:=by omega
        have aj6:k1<c:=by omega
        cases ho3
        cases Jr
        clear hbb hg iI Jt hk1 hnq Yy hq Aa ail e3;go_wp2_with (go_at_call 70;refine C5.o.mono ?_);rintro e w5 ⟨rfl,hg5⟩;have hb5:=pI.o.grow hg5;obtain⟨s0,s1⟩:=hb5.cell i (by rw[List.length_set];exact JH);obtain⟨s2,-⟩:=hb5.cell k (by rw[List.length_set];omega);have je:=ae (ag jv.o hg5);have e5:bA (b.set i (vK N L C b i k)) i=vK N L C b i k:=by rw[DK _ _ _ _ JH,if_pos rfl]
        rw[e5]at s0;have DL:Hd (∀x:Bool,vK N L C b i (k+1)=x->BB (w5.setCell ⟨B,i,none⟩ (.bool x)) B (b.set i (vK N L C b i (k+1)))/\w.grownBy (w5.setCell ⟨B,i,none⟩ (.bool x)) none):=fun x hx=>by
         refine⟨?_,Yv je.o Ig.o _ _⟩;have:=hb5.set i x;rw[List.set_set]at this;rw[hx];exact this
        obtain⟨v,hv⟩:=zN (vK N L C b i k);rw[hv]at s0 s2 nK;obtain⟨u,hu⟩:=zN (bA (b.set i v) k);rw[hu]at s2 nK;clear hb5 hg5 hv hu f0 e2 e5
        cases v with
        | true =>
         have H5:=ae (DL.o true (by rw[nK.o];rfl));go_wp2;go_roundw;exact⟨k+1,by go_num,by omega,H5.o⟩;simp[intOf];omega
        | false =>
         cases u with
         | true =>
          have H5:=ae (DL.o q (by rw[nK.o];simp));go_wp2;go_roundw;exact⟨k+1,by go_num,by omega,H5.o⟩;simp[intOf];omega
         | false =>
          have H5:=ae (DL.o false (by rw[nK.o];rfl));go_wp2;go_roundw;exact⟨k+1,by go_num,by omega,H5.o⟩;simp[intOf];omega
       ·have hke:k=C.length:=by omega
        have oz:Hd (BB wr B (rn N L C b0 (i+1))):=by
         rw[hke]at hbb;rw[eP.o];exact hbb
        clear hbb hg hke hk;go_wp2;go_roundw;exact⟨i+1,by go_num,by omega,oz.o,jv.o⟩;simp[intOf];omega
    ·have hie:i=C.length:=by omega
     have oz:Hd (BB wp B (wD N L C (r+1))):=by
      rw[hie]at hbb;rw[Yw.o];exact hbb
     clear hbb hg hie hi hb;go_wp2;go_roundw;exact⟨r+1,by go_num,by omega,oz.o,dH.o⟩;simp[intOf];omega
  ·have hre:r=C.length+1:=by omega
   have oz:Hd (BB wo B (wD N L C (C.length+1))):=by rw[hre]at hbb;exact hbb
   have hrI:¬((r:Int)<=(C.length:Int)):=by omega
   clear hbb hg hre hr hb0;go_wp2;refine bodyPost_ret (results_tmp (t:=6) rfl _ _ _) rfl ⟨B,rfl,oz.o,HG.o⟩
theorem akl{w:World}{a:Addr}{cap:Nat}{C:List Int}(hcap:C.length<=cap)(h:∀j (hj:j<C.length),w.cell? (a.add j)=some (.int .i64 C[j]))(i:Nat)(hi:i<=C.length):IS w (.slice (some a) (C.take i).length cap) (C.take i):=by
 refine Or.inr ⟨a,cap,rfl,by rw[List.length_take];omega,fun j hj=>?_⟩;rw[List.length_take]at hj;rw[List.getElem_take];exact h j (by omega)
theorem akm(v v' vc:Value)(N:List Nd)(L:List Re)(C:List Int)(w:World)(h:NdS w v N)(h':ReS w v' L)(hc:IS w vc C)(hN:N.length<=1048576)(hL:L.length<=1048576)(hC:C.length<=1048576)(hS:∀y∈N,y.n.size<2 ^ 60/\y.r.size<2 ^ 60)(hV:∀x∈L,x.nm.size<2 ^ 60/\x.ve.size<2 ^ 60)(hLN:∀x∈L,x.nd.length<=1048576)(hSS:∀x∈L,∀y∈x.nd,y.n.size<2 ^ 60/\y.r.size<2 ^ 60) :
  Calls prog 18 #[v,v',vc] w fun e w'=>(∃b:Bool,e=.returned (.bool b)/\(b=true↔akb N L C))/\w.grownBy w' none:=by
 have CK:=ae (OV v' L w h' hL hV hLN hSS);have YR:=ae (fun w' (hg:w.grownBy w' none)=>OB v N w' (h.grow hg) hN hS);obtain⟨o,c,rfl⟩:=qj h';obtain⟨oc,cc,rfl⟩:=H6 hc;have CM:Hd ((bQ L L.length).1=0->bY N=0->(xa1 L C)->∀w',w.grownBy w' none->Calls prog 36 #[v,.slice o L.length c,.slice oc C.length cc] w' fun e w''=>e=.returned (.bool (lH N L C))/\w'.grownBy w'' none):=fun h1 h2 hin w' hg=>Yf v o oc c cc N L C w' (h.grow hg) (h'.grow hg) (hc.grow hg) hN hL hC hin (fun y hy=>by
  have:=Dx h2 y hy;unfold iC at this;rw[Bool.and_eq_true]at this;exact this.2) (fun y hy=>(hS y hy).2) (fun x hx=>(hV x hx).2)
 have CR:=ae (fun(h1:(bQ L L.length).1=0) (hin:(xa1 L C)) x (hx:x∈L) sv w' (hg:w.grownBy w' none) (hs:NdS w' sv x.nd)=>Yf sv o oc c cc x.nd L C w' hs (h'.grow hg) (hc.grow hg) (hLN x hx) hL hC hin ((uN L h1).2 x hx).2.2 (fun y hy=>(hSS x hx y hy).2) (fun x hx=>(hV x hx).2));have CC:Hd ((xa1 L C)->∀i,i<C.length->∀n w',w.grownBy w' none->Calls prog 37 #[.slice o L.length c,.slice oc i cc,.string n] w' fun e w''=>e=.returned (.int .i64 (eG L (C.take i) n))/\w'.grownBy w'' none):=fun hin i hi n w' hg=>by
  obtain⟨a,ho,hcp,hat⟩:=rU (hc.grow hg) hi;subst ho;have hl:(C.take i).length=i:=by rw[List.length_take];omega
  have h1:=akl hcp hat i (by omega);have:=Jn o (some a) c cc L (C.take i) n w' (h'.grow hg) h1 hL (by omega) (fun z hz=>hin z (List.mem_of_mem_take hz));rw[hl]at this;exact this
 have CT:=ae (fun(hin:(xa1 L C)) w' (hg:w.grownBy w' none)=>aik v o oc c cc N L C w' (h.grow hg) (h'.grow hg) (hc.grow hg) hN hL hC hin hLN);have gq:=ae (fun w' (hg:w.grownBy w' none) i (hi:i<L.length)=>lq (h'.grow hg) hi);have Gf:=ae (fun w' (hg:w.grownBy w' none) i (hi:i<C.length)=>rU (hc.grow hg) hi);have HIS:=ae (acs L C);have Fq:Hd (∀i (hi:i<C.length),¬(0<=C[i]/\C[i]<(L.length:Int))->¬akb N L C):=fun i hi hn hg=>hn (akg hg.1 _ (List.getElem_mem hi))
 have HIA:Hd (qo L C C.length=true->xa1 L C):=fun hr z hz=>by
  unfold qo at hr;rw[List.take_length,List.all_eq_true]at hr;exact of_decide_eq_true (hr z hz)
 have pW:Hd (¬((bQ L L.length).1=0/\bY N=0)->¬akb N L C):=fun hn hg=>hn (by
  have:=hg.1.f;unfold fE at this;split at this
  ·rename_i h1;exact⟨h1,this⟩
  ·exact absurd this (by decide))
 have PO:=ae (fun(h1:(bQ L L.length).1=0) (h2:bY N=0) (hin:(xa1 L C))=>aki (by unfold fE;rw[if_pos h1];exact h2) hin);have cZ:Hd (∀i,ok2 N L C (i+1)=(ok2 N L C i && lH (yI L C i) L C && decide (eG L (C.take i) (nC L C i)<0))):=fun i=>rfl
 have vZ:Hd (ok2 N L C 0=lH N L C):=rfl;have JF:=ae (xa4 L C)
 have JG:Hd ((wD N L C (C.length+1)).length=C.length):=Ai _;obtain⟨on,nn,cn,rfl⟩:=xa3 h
 obtain⟨E,hE⟩:=zN ((bQ L L.length).1);obtain⟨K,hK⟩:∃K:Int,((bQ L L.length).2:Int)=K:=⟨_,rfl⟩;obtain⟨F,DV⟩:=zN (bY N);rw[hE,hK]at CK;rw[hE]at CM CR pW PO;rw[DV]at YR CM pW PO;clear h h' hc hS hV hLN hSS hE hK DV;have hno:∀e,e=Ending.returned (.bool false)->¬akb N L C->∃b:Bool,e=.returned (.bool b)/\(b=true↔akb N L C):=fun e he hn=>⟨false,he,⟨fun h=>(by cases h),fun h=>absurd h hn⟩⟩
 have iQ:=ae hno;clear hno;go_enter func18,ntmps18;go_wp2_with (go_at_call 20;refine CK.o.mono ?_);rintro e w1 ⟨rfl,hg1⟩;have bg:=ae hg1;clear hg1
 by_cases hz:E=0
 ·subst hz;go_wp2_with (go_at_call 31;refine(YR.o _ bg.o).mono ?_);rintro e w2 ⟨rfl,hg2⟩;have HG2:=ae (ag bg.o hg2);clear hg2
  by_cases hf:F=0
  ·subst hf;go_wp2;go_loopw [9] (fun vi wr=>∃i:Nat,vi=.int .i64 i/\i<=C.length/\qo L C i=true/\w.grownBy wr none) (fun vi _=>C.length-(intOf vi).toNat)
   case atStart=>exact⟨0,rfl,Nat.zero_le _,rfl,HG2.o⟩
   case round =>
    obtain⟨i,rfl,hi,hr,hg⟩:=hrel;have HR:=ae hr;have HG:=ae hg;obtain⟨wo,hwo⟩:∃wo,wo=wr:=⟨_,rfl⟩;subst hwo
    by_cases hlt:i<C.length
    ·obtain⟨a1,ho1,hcp1,iD⟩:=Gf.o wo hg i hlt;have f0:=iD i hlt;have his:=HIS.o i hlt;have hgo:=Fq.o i hlt;obtain⟨z,hzz⟩:=zN (C[i]);rw[hzz]at f0 his hgo;have aiF:=ae his;have YS:=ae hgo;have hic:i<cc:=by omega
     subst ho1;clear hr hg iD hcp1 hzz his hgo
     by_cases hz0:z<0
     ·have HN:=ae (YS.o (by omega));go_wp2;refine bodyPost_ret (results_tmp (t:=6) rfl _ _ _) rfl ⟨iQ.o _ rfl HN.o,HG.o⟩
     ·by_cases hz1:z ≥ (L.length:Int)
      ·have HN:=ae (YS.o (by omega));go_wp2;refine bodyPost_ret (results_tmp (t:=6) rfl _ _ _) rfl ⟨Or.inl ⟨rfl,HN.o⟩,HG.o⟩
      ·have Gj:Hd (qo L C (i+1)=true):=by
        show _=_;rw[aiF.o,HR.o,decide_eq_true (by omega)];rfl
       go_wp2;go_roundw;exact⟨i+1,by go_num,by omega,Gj.o,HG.o⟩;simp[intOf];omega
    ·have hil:i=C.length:=by omega
     have hin:=HIA.o (by rw[hil]at hr;exact hr);have jT:=ae hin;have C1:Hd (Calls prog 36 #[.slice on nn cn,.slice o L.length c,.slice oc C.length cc] wo fun e w''=>e=.returned (.bool (ok2 N L C 0))/\wo.grownBy w'' none):=by
      rw[vZ.o];exact CM.o (by trivial) (by trivial) hin wo hg
     have YT:=ae (PO.o (by trivial) (by trivial) hin);clear hr hg hil hi hin;go_wp2_with (go_at_call 36;refine C1.o.mono ?_);rintro e w3 ⟨rfl,hg3⟩;have dD:=ae (ag HG.o hg3);clear hg3;go_wp2;go_loopw [10,11] (fun vo vi wr=>∃i:Nat,vi=.int .i64 i/\vo=.bool (ok2 N L C i)/\i<=C.length/\w.grownBy wr none) (fun _ vi _=>C.length-(intOf vi).toNat)
     case atStart=>exact⟨0,rfl,rfl,Nat.zero_le _,dD.o⟩
     case round =>
      obtain⟨i,rfl,rfl,hi,hg⟩:=hrel;have dH:=ae hg;obtain⟨wp,hwp⟩:∃wp,wp=wr:=⟨_,rfl⟩;subst hwp
      by_cases hlt:i<C.length
      ·obtain⟨k,hk,bK⟩:∃k:Nat,C[i]=(k:Int)/\k<L.length:=by
        have:=jT.o _ (List.getElem_mem hlt);exact⟨(C[i]).toNat,by omega,by omega⟩
       obtain⟨a1,ho1,hcp1,iD⟩:=Gf.o wp hg i hlt;have f0:=iD i hlt;obtain⟨a2,ho2,hcp2,gu⟩:=gq.o wp hg k bK;obtain⟨e0,e1,⟨sv,e2,e2'⟩,e3⟩:=gu k bK;obtain⟨hn1,hn2⟩:=JF.o i hlt k bK hk;have hmem:=List.getElem_mem bK;have ho:=cZ.o i;rw[hk]at f0;obtain⟨x,hx⟩:=zN (L[k]);rw[hx]at e0 e1 e2' e3 hn1 hn2 hmem;rw[hn1,hn2]at ho;have gJ:=ae ho;obtain⟨so,sn,sc,rfl⟩:=xa3 e2'
       obtain⟨X0,hX0⟩:=zN wp.heap.size;obtain⟨W4,iO⟩:=zN (wp.alloc (.cells #[.string x.nm,.string x.ve,.slice so sn sc,.string x.da] 51));have g4:wp.grownBy W4 none:=by rw[<-iO];exact ak (ai wp none) _
       have kX:Hd (W4.heap[X0]?=some (.cells #[.string x.nm,.string x.ve,.slice so sn sc,.string x.da] 51 (0,0))):=by rw[<-iO,<-hX0];exact heap_alloc_new wp _
       obtain⟨x0,x1,x2,x3⟩:=uM kX.o;have eX:=ae (ag dH.o g4);have C2:=ae (CR.o (by trivial) jT.o x hmem _ W4 eX.o (e2'.grow g4));have C3:=ae (CC.o jT.o i hlt x.nm);obtain⟨p,hp⟩:=zN (ok2 N L C i);obtain⟨m,hm⟩:=zN (lH x.nd L C);obtain⟨z,hzz⟩:=zN (eG L (C.take i) x.nm);rw[hp,hm,hzz]at gJ;rw[hm]at C2;rw[hzz]at C3;rw[hp];have hic:i<cc:=by omega
       have hkc:k<c:=by omega
       have uQ:=hi
       cases ho1
       cases ho2
       clear hg iD gu hk hn1 hn2 hmem ho hx e2' g4 hp hm hzz hcp1 hcp2;go_wp2_with (go_at_call 36;refine C2.o.mono ?_);rintro e w5 ⟨rfl,hg5⟩;have hx5:=(uM ((hg5.block X0 (aC kX.o) (by simp)).trans kX.o)).1;have je:=ae (ag eX.o hg5);clear hg5 f0 e0 e1 e2 e3 x0 x1 x2 x3 iO hX0;have G6:=ag je.o (xa2 w5);go_upto_region 15 with fail
       go_region_with (first|(go_at_call 37;refine(C3.o _ G6).mono ?_;rintro e w6 ⟨rfl,dP⟩))
       all_goals (
        have jq:=ae (ag je.o (ag (xa2 w5) dP));clear dP hx5 G6
        cases p;rotate_left;cases m
        all_goals(go_wp2;go_roundw;exact⟨i+1,by go_num,by rw[gJ.o];rfl,by omega,jq.o⟩;simp[intOf];omega))
      ·have hil:i=C.length:=by omega
       have HP:Hd (ok2 N L C i=ok2 N L C C.length):=by show _=_;rw[hil]
       obtain⟨p,hp⟩:=zN (ok2 N L C i);rw[hp]at HP;rw[hp];have C4:=ae (CT.o jT.o wp hg);clear hg hil hi hp
       cases p with
       | false =>
        have HN:Hd (¬akb N L C):=fun hgp=>by
         have:=(YT.o.1 hgp).1;rw[<-HP.o]at this
         cases this
        go_wp2;refine bodyPost_ret (results_tmp (t:=6) rfl _ _ _) rfl ⟨iQ.o _ rfl HN.o,dH.o⟩
       | true =>
        have Gl:Hd (akb N L C↔(wD N L C (C.length+1)).all id=true):=by
         show _↔_;rw[YT.o,<-HP.o];simp
        go_wp2_with (go_at_call 38;refine C4.o.mono ?_);rintro e w7 ⟨B,rfl,hbb,iw⟩;have YU:=ae hbb;have Aj:=ae (ag dH.o iw);obtain⟨b,hb⟩:=zN (wD N L C (C.length+1));have hbl:=JG.o;rw[hb]at YU Gl hbl;clear hbb iw hb;go_wp2;go_loopw [10,16] (fun vo vi wr=>∃i:Nat,vi=.int .i64 i/\vo=.bool ((b.take i).all id)/\i<=C.length/\w7.grownBy wr none) (fun _ vi _=>C.length-(intOf vi).toNat)
        case atStart=>exact⟨0,rfl,rfl,Nat.zero_le _,ai _ _⟩
        case round =>
         obtain⟨i,rfl,rfl,hi,hg⟩:=hrel;have DW:=ae hg
         by_cases hlt:i<C.length
         ·have hib:i<b.length:=by omega
          obtain⟨c0,-⟩:=(YU.o.grow hg).cell i hib;have HST:Hd ((b.take (i+1)).all id=((b.take i).all id && bA b i)):=by
           show _=_;rw[List.take_succ_eq_append_getElem hib,List.all_append,Ag b i hib];simp
          obtain⟨p,hp⟩:=zN ((b.take i).all id);obtain⟨u,hu⟩:=zN (bA b i);rw[hp,hu]at HST;rw[hu]at c0;rw[hp];clear hg hp hu
          cases p<;>(go_wp2;go_roundw;exact⟨i+1,by go_num,by rw[HST.o];rfl,by omega,DW.o⟩;simp[intOf];omega)
         ·have hil:i=C.length:=by omega
          have HP2:Hd ((b.take i).all id=b.all id):=by
           show _=_;rw[hil,<-hbl,List.take_length]
          obtain⟨p,hp⟩:=zN ((b.take i).all id);rw[hp]at HP2;rw[hp];clear hg hil hi hp;go_wp2;refine bodyPost_ret (results_tmp (t:=6) rfl _ _ _) rfl ⟨⟨p,rfl,?_⟩,ag Aj.o DW.o⟩;rw[Gl.o,HP2.o]
  ·have hb:(F != 0)=true:=by simp[hf]
   have HN:=ae (pW.o fun hh=>hf hh.2);clear hf;go_wp2;refine bodyPost_ret (results_tmp (t:=6) rfl _ _ _) rfl ⟨iQ.o _ rfl HN.o,HG2.o⟩
 ·have hb:(E != 0)=true:=by simp[hz]
  have HN:=ae (pW.o fun hh=>hz hh.1);clear hz;go_wp2;refine bodyPost_ret (results_tmp (t:=6) rfl _ _ _) rfl ⟨iQ.o _ rfl HN.o,bg.o⟩
theorem ajd{N:List Nd}{L:List Re}{O:List En}{C:List Int}{fu:Int}{D:List Nat}(h:qC N L O fu D 8):D=[]/\¬akb N L C:=by
 rcases h with⟨h1,-,h3⟩|⟨-,-,h3,-⟩|⟨h1,⟨f,h2⟩,-,h4⟩|⟨-,h2,-⟩
 ·exact⟨h3,fun hg=>h1 hg.1.f⟩
 ·cases h3
 ·refine⟨h4,fun hg=>?_⟩;have hk:(bQ L L.length).1=0:=by
   unfold fE at h1;split at h1
   ·assumption
   ·cases h1
  exact YQ hg.1 (fun q hq=>((uN L hk).2 _ (List.getElem_mem hq)).2.1) _ _ _ _ _ (Dz N L) (fun k hk=>(by cases hk)) h2
 ·cases h2
theorem aje(v v' vo vc:Value)(N:List Nd)(L:List Re)(O:List En)(C:List Int)(w:World)(h:NdS w v N)(h':ReS w v' L)(ho:EnS w vo O)(hc:IS w vc C)(hN:N.length<=1040000)(hL:L.length<=1048576)(hLN:∀x∈L,x.nd.length<=1048576)(hS:∀y∈N,y.n.size<2 ^ 60/\y.r.size<2 ^ 60)(hSS:∀x∈L,∀y∈x.nd,y.n.size<2 ^ 60/\y.r.size<2 ^ 60)(hV:∀x∈L,x.nm.size<2 ^ 60/\x.ve.size<2 ^ 60)(hO:O.length<=1048576)(hOV:∀x∈O,x.ve.size<2 ^ 60)(hON:∀x∈O,x.nd.length<=1048576)(hC:C.length<=1048576) :
  Calls prog 4 #[v,v',vo,vc] w fun e w'=>e=.returned (.bool true)/\w.grownBy w' none:=by
 have CN:=ae (Eu v N w h (by omega));have CR:Hd (∀w',w.grownBy w' none->Calls prog 9 #[v'] w' fun e w''=>∃o c,e=.returned (.slice o L.length c)/\ReS w'' (.slice o L.length c) L/\w'.grownBy w'' none):=fun w' hg=>(zu v' L w' (h'.grow hg) hL hLN).mono fun e w'' ⟨z,h1,h2,h3⟩=>by
  obtain⟨o,c,rfl⟩:=qj h2;exact⟨o,c,h1,h2,h3⟩
 have CE:=ae (fun w' (hg:w.grownBy w' none)=>IC vo O w' (ho.grow hg) hO hON);have CD:=ae (fun w' (hg:w.grownBy w' none)=>akm v v' vc N L C w' (h.grow hg) (h'.grow hg) (hc.grow hg) (by omega) hL hC hS hV hLN hSS);have CM:=ae EU;obtain⟨on,cn,rfl⟩:=mP h;obtain⟨ol,cl,rfl⟩:=qj h';obtain⟨oe,ce,rfl⟩:=zt ho;have CS:=ae (fun o1 c1 o2 c2 o3 c3 w' h1 h2 h3=>Am o1 o2 o3 c1 c2 c3 N L O 3000 w' h1 h2 h3 hN hL hLN hS hSS hV hO hOV (by omega));have CT:=ae (fun w' (hg:w.grownBy w' none)=>Gw on ol oe cn cl ce N L O 3000 w' (h.grow hg) (h'.grow hg) (ho.grow hg) hN hL hLN hS hSS hV hO hOV (by omega));clear h h' ho hc hLN hS hSS hV hOV hON;go_enter func4,ntmps4;go_wp2_with (go_at_call 8;refine CN.o.mono ?_);rintro e w3 ⟨o1,c1,rfl,hn1,hg1⟩;have HG:=ae hg1;have dw:=ae hn1;clear hn1 hg1;go_wp2_with (go_at_call 9;refine(CR.o _ HG.o).mono ?_)
 rintro e w4 ⟨o2,c2,rfl,hr2,hg2⟩;replace HG:=ae (ag HG.o hg2);replace dw:=ae (dw.o.grow hg2);have HR2:=ae hr2;clear hr2 hg2;go_wp2_with (go_at_call 10;refine(CE.o _ HG.o).mono ?_);rintro e w5 ⟨o3,c3,rfl,he3,hg3⟩;replace HG:=ae (ag HG.o hg3);have C3:=ae (CS.o o1 c1 o2 c2 o3 c3 w5 (dw.o.grow hg3) (HR2.o.grow hg3) he3);clear he3 hg3 dw HR2;go_wp2_with (go_at_call 11;refine C3.o.mono ?_);rintro e w6 ⟨dP,o6,c6,D,E,rfl,-,iJ⟩;replace HG:=ae (ag HG.o dP);have mr:=ae iJ;have C4:=ae (CT.o w6 HG.o);clear dP iJ;go_wp2_with (go_at_call 12;refine C4.o.mono ?_);rintro e w7 ⟨iw,o7,c7,D',E',rfl,-,iJ⟩;replace HG:=ae (ag HG.o iw);have hEE:=(wV mr.o iJ).2;have C5:=ae (CD.o w7 HG.o);subst hEE;have hne:(E != E)=false:=by simp
 clear iw iJ
 by_cases h8:E=8
 ·subst h8;have eP:=ae (ajd (C:=C) mr.o);obtain rfl:=eP.o.1;go_wp2_with (first|(go_at_call 17;refine(CM.o _ _).mono ?_;rintro e w7 ⟨rfl,rfl⟩)|(go_at_call 18;refine C5.o.mono ?_));rintro e w8 ⟨⟨b,rfl,hb⟩,lK⟩;have HB:=ae hb;replace HG:=ae (ag HG.o lK);clear hb lK
  cases b with
  | true=>exact absurd (HB.o.1 rfl) eP.o.2
  | false =>
   go_wp2;go_ret;exact⟨rfl,HG.o⟩
 ·have h8':(E != 8)=true:=by simp[h8]
  go_wp2_with (go_at_call 17;refine(CM.o _ _).mono ?_;rintro e w7 ⟨rfl,rfl⟩);go_ret;exact⟨rfl,HG.o⟩
open Go.ChangeShapes Go.WideShapes Go.ChangeAt
open Go.ChangeMaps (open_string shut_string)
theorem own:ownKnob prog.godebug=none:=by kernel_rfl
theorem laidOut:laidOutB prog=true:=by kernel_rfl
theorem ajD(H:Type)(enc:TypeId × Value->H)(W:World)(base:Nat)(args:Array Value)(ds gs:List (DataW H))(before:List MemPlace)
  (hval:∀(j:Nat) t v,Tryz.f4.params[j]?=some t->args[j]?=some v->Value.okWide prog W .any base t v)
  (hW:DataW.Whole enc prog Tryz.f4.params.toList Rows.solveNoneSpec.vars false W args.toList ds gs before) (hL:laidMetH prog Rows.solveNoneUptoRow.laid W)
  (hcond:Rows.uptoSmall H (ds++gs)=true) :
  Calls prog 4 args W fun e W'=>∃v,e=.returned v/\Rows.solveNoneSpec.post enc prog Tryz.f4 false true false false W args v W':=by
 have hW':=hW;obtain⟨p,q,hA0,hV,rfl,hfz,hnd⟩:=hW;have hA:DataW.TrodAll enc prog W 0 (fun _=>true) true Tryz.f4.params.toList args.toList ds p:=hA0;rw[params4]at hA hval;obtain⟨v0,vs0,d0,ds0,p0,q0,hargs0,rfl,rfl,h0,r0⟩:=trodAll_cons hA;obtain⟨v1,vs1,d1,ds1,p1,q1,hargs1,rfl,rfl,h1,r1⟩:=trodAll_cons r0;obtain⟨v2,vs2,d2,ds2,p2,q2,JU,rfl,rfl,h2,r2⟩:=trodAll_cons r1;obtain⟨v3,vs3,d3,ds3,p3,q3,Qm,rfl,rfl,h3,r3⟩:=trodAll_cons r2;obtain⟨rfl,rfl,rfl⟩:=trodAll_nil r3;obtain rfl:args=#[v0,v1,v2,v3]:=by cases args;simp_all
 obtain⟨rfl,rfl⟩:=trodVars_none hV;obtain⟨L0,hS0,hN0,hE0⟩:=IM (hval 0 22 v0 rfl rfl) h0;obtain⟨L1,hS1,hN1,hE1⟩:=EZ (hval 1 23 v1 rfl rfl) h1;obtain⟨L2,hS2,Qn,hE2⟩:=open_entries (hval 2 24 v2 rfl rfl) h2;obtain⟨L3,hS3,hN3⟩:=open_ints (hval 3 31 v3 rfl rfl) h3;have hb:=of_decide_eq_true hcond;simp only[List.append_nil,Rows.uptoBulkAll]at hb;have sa:Rows.uptoBulk d0<=1048576:=by omega
 have sb:Rows.uptoBulk d1<=1048576:=by omega
 have sc:Rows.uptoBulk d2<=1048576:=by omega
 have sd:Rows.uptoBulk d3<=1048576:=by omega
 clear hb hA0;simp only[List.append_nil]at hW';have Qo:=IP h0 hS0;refine(aje v0 v1 v2 v3 L0 L1 L2 L3 W hS0 hS1 hS2 hS3 (by omega) (by omega) (fun x hx=>by have:=hE1 x hx;omega) (fun y hy=>by have:=hE0 y hy;exact⟨by omega,by omega⟩) (fun x hx y hy=>by have:=(hE1 x hx).2.2.2 y hy;exact⟨by omega,by omega⟩) (fun x hx=>by have:=hE1 x hx;exact⟨by omega,by omega⟩) (by omega) (fun x hx=>by have:=hE2 x hx;omega) (fun x hx=>by have:=hE2 x hx;omega) (by omega)).mono fun e W' ⟨he,hgb⟩=>?_
 subst he;exact⟨_,rfl,_,_,_,[],_,[],hW',(trodAll_cons_mk (shut_bool underlying4 _) trodAll_mk0),(trodAll_cons_mk (Below.trod laidOut (by kernel_rfl) (of_decide_eq_true (by kernel_rfl)) h0 (jE hgb) (fun x hx=>hW'.lt x (by simp[hx]))) (trodAll_cons_mk (Below.trod laidOut (by kernel_rfl) (of_decide_eq_true (by kernel_rfl)) h1 (jE hgb) (fun x hx=>hW'.lt x (by simp[hx]))) (trodAll_cons_mk (Below.trod laidOut (by kernel_rfl) (of_decide_eq_true (by kernel_rfl)) h2 (jE hgb) (fun x hx=>hW'.lt x (by simp[hx]))) (trodAll_cons_mk (Below.trod laidOut (by kernel_rfl) (of_decide_eq_true (by kernel_rfl)) h3 (jE hgb) (fun x hx=>hW'.lt x (by simp[hx]))) trodAll_mk0)))),rfl,(jE hgb).frame _,fun h=>by cases h⟩
def pO{H:Type}:DataW H->Value
 | .lit (.int k n)=>.int k n
 | _=>.bool false
def pR{H:Type}:DataW H->Array Value
 | .agg ps=>(ps.flatMap fun d=>match d with | .agg qs=>qs.map pO|d=>[pO d]).toArray
 | _=>#[]
def laidWorld(P:Program)(os:Os):World :=
 { World.holding P os ⟨#[],#[],[]⟩ with heap:=(((World.holding P os ⟨#[],#[],[]⟩).heap.setIfInBounds 2 (.cells (pR (Rows.laid_unicode_utf8_acceptRanges:DataW Unit)) 316 (0,0))).setIfInBounds 1 (.cells (pR Rows.laid_unicode_utf8_first) 313 (0,0))) }
def JV:Value:=.agg #[.int .i64 0,.int .i64 0,.int .i64 0,.string ⟨#[]⟩,.string ⟨#[]⟩]
theorem laid_met(os:Os):laidMet prog Rows.solveNoneUptoRow.laid ((laidWorld prog os).forCall (fun _ _=>0) ⟨#[],#[.slice none 0 0,.slice none 0 0,.slice none 0 0,.slice none 0 0],[]⟩).memory :=
 laidMet_of_run' 8 (by kernel_rfl) (by kernel_rfl)
theorem ajE(os:Os){H:Type}(enc:TypeId × Value->H):∃places,DataW.whole enc prog ((laidWorld prog os).forCall (fun _ _=>0) ⟨#[],#[.slice none 0 0,.slice none 0 0,.slice none 0 0,.slice none 0 0],[]⟩).memory Tryz.f4.params.toList Rows.solveNoneSpec.vars false #[Value.slice none 0 0,Value.slice none 0 0,Value.slice none 0 0,Value.slice none 0 0].toList 8=some ([.nil,.nil,.nil,.nil],[],places) :=
 ⟨[],by kernel_rfl⟩
theorem ajF(os:Os)(started:os.Started)(H:Type)(enc:TypeId × Value->H)(F:Stop.Interp) :
  ReturnsInHanded {} Tryz.checked os 4 .any ((Rows.OpenSpec.upto Rows.solveNoneSpec).preRow enc prog Tryz.f4 Rows.solveNoneUptoRow.domain false Rows.solveNoneUptoRow.laid) (((Rows.OpenSpec.upto Rows.solveNoneSpec).at F).post enc prog Tryz.f4 false true false false):=by
 obtain⟨places,hx⟩:=ajE os enc;refine returnsInHanded_of_row (C:=Tryz.checked) (s:=Rows.OpenSpec.upto Rows.solveNoneSpec) own started (by kernel_rfl) func4
  (witness_row_at (enc:=enc) (C:=Tryz.checked) false (laidWorld prog os) #[.slice none 0 0,.slice none 0 0,.slice none 0 0,.slice none 0 0] rfl (by kernel_rfl) (by kernel_rfl) (by kernel_rfl)
   (OpenSpec.preRow_of_cond 8 hx (by kernel_rfl) (fun k hk=>by cases hk;kernel_rfl) (by kernel_rfl) (laid_met os))) ?_
 intro W base args ds gs before hval hW _ hcond _ hL _ _;exact ajD H enc W base args ds gs before hval hW hL (hcond _ rfl)
theorem ajG:Rows.SolveNoneUptoSaid :=
 OpenClaim.holds_of_cond 4 Tryz.f4 rfl rfl rfl rfl rfl rfl rfl ⟨rfl,rfl,rfl,rfl,rfl⟩ rfl rfl rfl rfl rfl (by kernel_rfl) func4 (by kernel_rfl)
  (of_decide_eq_true (by kernel_rfl)) (by unfold Func.isWrapper;first|(rw[if_pos (by decide +kernel)];kernel_rfl)|(rw[if_neg (by decide +kernel)];exact⟨rfl,rfl⟩))
  (fun os started H enc _ F=>by rw[OpenClaim.pre_eq_preRow];exact ajF os started H enc F)
theorem ajH(f:FuncId)(fn:Func)(hf:Tryz.pinned.checked.prog.funcNamed "pantry/pantrylaw.SolveNone"=some f)(hfn:Tryz.pinned.checked.prog.funcs[f]?=some fn) :
  true=Tryz.pinned.checked.prog.looks []/\∀(j:Nat) t,fn.params[j]?=some t->Tryz.pinned.checked.prog.wantsStandIn t=false:=by
 obtain rfl:f=4:=Option.some.inj ((show prog.funcNamed "pantry/pantrylaw.SolveNone"=some 4 by kernel_rfl).symm.trans hf) |>.symm
 obtain rfl:fn=Tryz.f4:=(Option.some.inj (func4.symm.trans hfn)).symm;refine⟨by kernel_rfl,fun j t ht=>?_⟩;rw[params4]at ht;have hm:=Array.mem_of_getElem? ht;simp only[List.mem_toArray,List.mem_cons,List.not_mem_nil,or_false]at hm
 rcases hm with rfl|rfl|rfl|rfl
 ·exact(show prog.wantsStandIn 22=false by kernel_rfl)
 ·exact(show prog.wantsStandIn 23=false by kernel_rfl)
 ·exact(show prog.wantsStandIn 24=false by kernel_rfl)
 ·exact(show prog.wantsStandIn 31=false by kernel_rfl)
theorem solveNoneUpto_card:Rows.SolveNoneUptoCardSaid :=
 Claim7.holds_tied_plain_at .later [] _ _ _ _ ajG (fun _ h=>by cases h) (by kernel_rfl) (fun _ h=>by cases h) solveNoneUpto_row_tie rfl ⟨rfl,rfl⟩ (by kernel_rfl) rfl ajH (by kernel_rfl)
end Go.Proofs.YtiinliaoojfjaaaGreatDoor
