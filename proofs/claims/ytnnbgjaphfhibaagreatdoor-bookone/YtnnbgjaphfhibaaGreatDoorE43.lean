import Derived.Test.YtnnbgjaphfhibaaGreatDoorE40
import Derived.Test.YtnnbgjaphfhibaaGreatDoorE42
import Derived.Test.YtnnbgjaphfhibaaGreatDoorE36
set_option linter.all false
set_option maxRecDepth 100000
set_option maxHeartbeats 0
open Go.Proofs.Tryz
namespace Go.Proofs.YtnnbgjaphfhibaaGreatDoor
open Go.RowKit Go.Maps Go.WideMaps Go.Joins
noncomputable def F7(l:List UInt8):Rs (List En):=match jK l with | .error e=>.error e | .ok ns=>zC ns
def ZO(ns:List Tn):Option Nat->Rs (List En)
 | none=>.ok []
 | some p=>wF ns (af ns p)
def F8(ns:List Tn):Option Nat->Rs (List En)
 | none=>.error (6,0)
 | some _=>ZO ns (ah ns 0 dN)
def QZ(ns:List Tn):Rs Unit->Rs (List En)
 | .error e=>.error e
 | .ok _=>F8 ns (ah ns 0 fM)
def Q3(ns:List Tn)(A:List Nat):Option Nat->Rs (List En)
 | some y=>.error (6,iM ns y)
 | none=>.ok (A.map (iP ns))
theorem ajj(ns:List Tn):zC ns=QZ ns (kK ns (ns.length-1)):=by
 unfold zC QZ F8 ZO;rfl
theorem ajk{ns:List Tn}{i:Nat}(hi:i<ns.length):kK ns (ns.length-i)=if iD ns i ns[i]=0 then kK ns (ns.length-(i+1)) else .error (iD ns i ns[i],ns[i].pl):=by
 obtain⟨m,hm⟩:∃m,ns.length-i=m+1:=⟨ns.length-i-1,by omega⟩;rw[hm,show ns.length-(i+1)=m by omega];show(match ns[ns.length-(m+1)]? with|none=>_|some x=>_)=_;rw[show ns.length-(m+1)=i by omega,List.getElem?_eq_getElem hi]
theorem ajl{ns:List Tn}{A:List Nat}{i:Nat}(hi:i<A.length)(h1:∀t∈A.take i,jh ns t=true)(h2:jh ns A[i]=false):wF ns A=.error (6,iM ns A[i]):=by
 unfold wF;rw[IC (fun t=>!jh ns t) A i hi (fun j hj hji=>by
  rw[h1 A[j] (List.mem_take_iff_getElem.2 ⟨j,by omega,rfl⟩)];rfl) (by rw[h2];rfl)]
theorem ajm{ns:List Tn}{A:List Nat}(h1:∀t∈A,jh ns t=true):wF ns A=Q3 ns A ((A.flatMap (kl ns)).find? (fun y=>!aT (A.map (iP ns)) (aP ns y))):=by
 unfold wF;have:A.find? (fun t=>!jh ns t)=none:=by
  rw[List.find?_eq_none];intro t ht;rw[h1 t ht];decide
 rw[this];unfold Q3;rfl
theorem ajn{ns:List Tn}{t:Nat}:(∃a b c d,ah ns t bQ=some a/\ah ns t dP=some b/\ah ns t ed=some c/\ah ns t cZ=some d/\jh ns t=true)\/(jh ns t=false/\(ah ns t bQ=none\/(∃a,ah ns t bQ=some a)/\(ah ns t dP=none\/(∃b,ah ns t dP=some b)/\(ah ns t ed=none\/(∃c,ah ns t ed=some c)/\ah ns t cZ=none)))):=by
 unfold jh
 cases h1:ah ns t bQ with
 | none=>exact Or.inr ⟨rfl,Or.inl rfl⟩
 | some a=>cases h2:ah ns t dP with
  | none=>exact Or.inr ⟨rfl,Or.inr ⟨⟨_,rfl⟩,Or.inl rfl⟩⟩
  | some b=>cases h3:ah ns t ed with
   | none=>exact Or.inr ⟨rfl,Or.inr ⟨⟨_,rfl⟩,Or.inr ⟨⟨_,rfl⟩,Or.inl rfl⟩⟩⟩
   | some c=>cases h4:ah ns t cZ with
    | none=>exact Or.inr ⟨rfl,Or.inr ⟨⟨_,rfl⟩,Or.inr ⟨⟨_,rfl⟩,Or.inr ⟨⟨_,rfl⟩,rfl⟩⟩⟩⟩
    | some d=>exact Or.inl ⟨a,b,c,d,rfl,rfl,rfl,rfl,rfl⟩
theorem BX{ns:List Tn}{t:Nat}{k:List UInt8}(h:ah ns t k=none):gI ns t k=-1:=by unfold gI;rw[h]
theorem qR{ns:List Tn}{t y:Nat}{k:List UInt8}(h:ah ns t k=some y):gI ns t k=(y:Int):=by unfold gI;rw[h]
theorem ajo{wS wr w3:World}{Y k g cap c4:Nat}{o4:Option Addr}{An Bn Cn TX:ByteArray}{ys:List Value}(hSY:wS.heap.size<=Y)(hg:wS.grownBy wr none)(hy:wr.heap[Y]?=some (.cells #[.string An,.string Bn,.string Cn,.slice o4 k c4] 47 (0,0)))(hrow:wr.ownsRow Y 9 1 (.slice o4 k c4) k ys)(hown:w3.ownsRow Y 9 1 (.slice (some ⟨g,0,none⟩) (k+1) cap) (k+1) (ys++[.string TX]))(hgrow:(wr.drew.alloc (.cells #[.string TX] 9)).grownBy w3 (Value.slice o4 k c4).ownBlock) :
  wS.grownBy (w3.setCell ⟨Y,3,none⟩ (.slice (some ⟨g,0,none⟩) (k+1) cap)) none/\(w3.setCell ⟨Y,3,none⟩ (.slice (some ⟨g,0,none⟩) (k+1) cap)).heap[Y]?=some (.cells #[.string An,.string Bn,.string Cn,.slice (some ⟨g,0,none⟩) (k+1) cap] 47 (0,0))/\(w3.setCell ⟨Y,3,none⟩ (.slice (some ⟨g,0,none⟩) (k+1) cap)).ownsRow Y 9 1 (.slice (some ⟨g,0,none⟩) (k+1) cap) (k+1) (ys++[.string TX]):=by
 have hne:some Y≠(Value.slice o4 k c4).ownBlock:=fun e=>by
  obtain⟨cc,hcc⟩:=(bH hrow e.symm).2;exact aO hy hcc (by decide) rfl
 have h1:=(aV (zO wr (.cells #[.string TX] 9))).blk hy;have h2:=(hgrow.block Y (aB h1) hne).trans h1;have hg3:wS.grownBy w3 none:=by
  have h3:=ai hg (zO wr (.cells #[.string TX] 9))
  cases hb:(Value.slice o4 k c4).ownBlock with
  | none=>rw[hb]at hgrow;exact ai h3 hgrow
  | some b=>rw[hb]at hgrow;exact nR h3 hgrow (Nat.le_trans hSY (bH hrow hb).1)
 exact⟨nR hg3 (iL w3 Y 3 _) hSY,block_setCell (i:=3) h2 _,(iO _ h2 (by decide)).row hown⟩
theorem ajp{w:World}{B B':Nat}{X:TypeId}{k n:Nat}{v:Value}{xs:List Value}(hB:B'<=B)(h:w.ownsRow B X k v n xs):w.ownsRow B' X k v n xs:=⟨h.1,h.2.imp id fun⟨g,cap,cu,e1,hb,r⟩=>⟨g,cap,cu,e1,by omega,r⟩⟩
theorem ajq(s:ByteArray)(w:World)(h0:0<w.heap.size)(hmx:s.size<2 ^ 62) :
  Calls prog 6 #[.string s] w (BU w (F7 s.data.toList)):=by
 have C0:=aij aid s w h0 hmx;obtain⟨R,hR⟩:=zN (F7 s.data.toList);rw[hR];unfold F7 at hR
 cases hns:jK s.data.toList with
 | error c0 =>
  obtain⟨z,p⟩:=c0;have hz:¬z=0:=by have:=PE _ _ _ hns;omega
  have HY:Hd (R=.error (z,p)):=by show _=_;rw[<-hR,hns]
  have hzb:(z != 0)=true:=by simpa using hz
  have CP:Hd (Calls prog 12 #[.string s] w fun e w2=>e=.returned (.tuple #[.slice none 0 0,.int .i64 z,.int .i64 (p:Nat)])/\Hd (w.grownBy w2 none)):=C0.mono fun e w2 hh=>⟨hh.2.1 z p hns,hh.2.2⟩
  clear hns C0 hR hz;go_enter func6,ntmps6;go_wp2_with (go_at_call 12;refine CP.o.mono ?_);rintro e w2 ⟨rfl,hP⟩;go_wp2;refine bodyPost_ret (results_tmp3 (t:=2) (u:=3) (v:=4) rfl _ _ _) rfl ?_;rw[HY.o];exact F6 hP.o
 | ok ns =>
  have HR:Hd (zC ns=R):=by show _=_;rw[<-hR,hns]
  have CP:Hd (Calls prog 12 #[.string s] w fun e w2=>∃N c,e=.returned (.tuple #[.slice (some ⟨N,0,none⟩) ns.length c,.int .i64 0,.int .i64 0])/\Hd (Dc w2 N c ns/\w.grownBy w2 none)):=C0.mono fun e w2 hh=>by
   obtain⟨N,c,OV,xs,ks,own,m,he,hD⟩:=hh.1 ns hns;exact⟨N,c,he,aiR hD _ hns,hh.2.2⟩
  clear hns C0 hR;go_enter func6,ntmps6;go_wp2_with (first|(go_at_call 12;refine CP.o.mono ?_));rintro e w1 ⟨N,c,rfl,hP⟩;have HD:Hd (Dc w1 N c ns):=hP.o.1;have ax:Hd (w.grownBy w1 none):=hP.o.2;have hl:=HD.o.len;have hcap:=HD.o.cap;have hpos:0<ns.length:=HD.o.tv.choose_spec.root.1;obtain⟨C0,hC0⟩:=zN (kK ns (ns.length-1));have uK:Hd (kK ns (ns.length-1)=C0):=hC0;have Q4:Hd (R=QZ ns C0):=by
   show _=_;rw[<-HR.o,<-hC0,ajj]
  have CN:Hd (∀i (hi:i<ns.length),0<i->∀w',w1.grownBy w' none->Calls prog 13 #[.slice (some ⟨N,0,none⟩) ns.length c,.int .i64 (i:Nat)] w' fun e w''=>e=.returned (.int .i64 (iD ns i ns[i]))/\Hd (w'.grownBy w'' none)):=fun i hi h0 w' hg=>aiM w' N c ns (HD.o.grow hg) i h0 hi
  have CK:Hd (∀q,q<ns.length->∀k w',w1.grownBy w' none->Calls prog 14 #[.slice (some ⟨N,0,none⟩) ns.length c,.int .i64 (q:Nat),.string ⟨k.toArray⟩] w' fun e w''=>e=.returned (.int .i64 (gI ns q k))/\w'=w''):=fun q hq k w' hg=>((HD.o.grow hg).cKid q hq k).mono fun e w'' hh=>⟨hh.1,hh.2.symm⟩
  obtain⟨L,hL⟩:=zN (ns.length);have HL:Hd (ns.length=L):=hL;rw[hL]at hl hcap hpos CK ⊢;clear CP hP HR hC0 hL;go_wp2;go_loopw [8] (fun v8 wr=>∃i:Nat,v8=.int .i64 (i:Nat)/\1<=i/\i<=L/\kK ns (ns.length-i)=C0/\w1.grownBy wr none) (fun v8 _=>L-(intOf v8).toNat)
  case atStart=>exact⟨1,rfl,Nat.le_refl _,by omega,uK.o,au _ _⟩
  case round =>
   obtain⟨i,rfl,hi1,hi,hcc,hg⟩:=hrel;have Q5:Hd (kK ns (ns.length-i)=C0):=hcc;have HG:Hd (w1.grownBy wr none):=hg;clear hcc
   by_cases hlt:i<L
   ·have hin:i<ns.length:=by rw[HL.o];exact hlt
    have KA:=CN.o i hin (by omega) wr hg;have hst:=ajk hin;rw[Q5.o]at hst;obtain⟨-,-,-,-,-,-,-,e5,-⟩:=(HD.o.grow hg).node hin;obtain⟨z,hz⟩:=zN (iD ns i ns[i]);obtain⟨pl,hpl⟩:=zN (ns[i].pl);rw[hz]at KA hst;rw[hpl]at e5 hst;rw[HL.o]at KA;have CNh:Hd (Calls prog 13 #[.slice (some ⟨N,0,none⟩) L c,.int .i64 (i:Nat)] wr fun e w''=>e=.returned (.int .i64 z)/\Hd (wr.grownBy w'' none)):=KA;have HST:Hd (C0=if z=0 then kK ns (ns.length-(i+1)) else .error (z,pl)):=hst;clear hst hz hpl KA hg;go_wp2_with (go_at_call 13;refine CNh.o.mono ?_);rintro e w2 ⟨rfl,hg2⟩;have HG2:Hd (w1.grownBy w2 none):=ai HG.o hg2.o;have e52:=hg2.o.cell e5 (by simp);clear e5 hg2
    by_cases hz:z=0
    ·have gq:Hd (kK ns (ns.length-(i+1))=C0):=by show _=_;rw[HST.o,if_pos hz]
     subst hz;clear HST e52;go_wp2;refine⟨⟨i+1,by go_num,by omega,by omega,gq.o,HG2.o⟩,?_⟩;simp[intOf];omega
    ·have HY:Hd (R=.error (z,pl)):=by
      have hh:=HST.o;rw[if_neg hz]at hh;show _=_;rw[Q4.o,hh];rfl
     have hzb:(z != 0)=true:=by simpa using hz
     clear HST hz;go_wp2;go_quiet (fail);go_wp2;refine bodyPost_ret (results_tmp3 (t:=2) (u:=3) (v:=4) rfl _ _ _) rfl ?_;rw[HY.o];exact F6 (ay (ai ax.o HG2.o) nq)
   ·have hiL:i=L:=by omega
    have BZ:Hd (R=F8 ns (ah ns 0 fM)):=by
     have hh:=Q5.o;rw[hiL,HL.o,Nat.sub_self]at hh;have h2:C0=.ok ():=hh.symm;show _=_;rw[Q4.o,h2];rfl
    have CF:=CK.o 0 (by omega) fM wr hg;have CG:=CK.o 0 (by omega) dN wr hg;have fJ:Hd (w.grownBy wr none):=ai ax.o hg;clear hiL Q4 Q5 CN hi1 hi
    cases hF:ah ns 0 fM with
    | none =>
     have HY:Hd (R=.error (6,0)):=by show _=_;rw[BZ.o,hF];rfl
     rw[BX hF]at CF;have mg:Hd (Calls prog 14 #[.slice (some ⟨N,0,none⟩) L c,.int .i64 0,.string ⟨#[102,111,114,109,97,116]⟩] wr fun e w''=>e=.returned (.int .i64 (-1))/\wr=w''):=CF;clear CF CG hF BZ hg;go_wp2_with (go_at_call 14;refine mg.o.mono ?_;rintro e w'' ⟨rfl,rfl⟩);refine bodyPost_ret (results_tmp3 (t:=2) (u:=3) (v:=4) rfl _ _ _) rfl ?_;rw[HY.o];exact F6 (p:=0) fJ.o
    | some f =>
     rw[qR hF]at CF;have mg:Hd (Calls prog 14 #[.slice (some ⟨N,0,none⟩) L c,.int .i64 0,.string ⟨#[102,111,114,109,97,116]⟩] wr fun e w''=>e=.returned (.int .i64 (f:Nat))/\wr=w''):=CF
     cases hP:ah ns 0 dN with
     | none =>
      have HY:Hd (R=.ok []):=by show _=_;rw[BZ.o,hF];unfold F8;rw[hP];rfl
      rw[BX hP]at CG;have F9:Hd (Calls prog 14 #[.slice (some ⟨N,0,none⟩) L c,.int .i64 0,.string ⟨#[112,97,99,107,97,103,101]⟩] wr fun e w''=>e=.returned (.int .i64 (-1))/\wr=w''):=CG;clear CF CG hF hP BZ hg;go_wp2_with (go_at_call 14;refine mg.o.mono ?_);rintro e w'' ⟨rfl,rfl⟩;clear mg;go_wp2_with (go_at_call 14;refine F9.o.mono ?_);rintro e w'' ⟨rfl,rfl⟩;clear F9;go_wp2;refine bodyPost_ret (results_tmp3 (t:=2) (u:=3) (v:=4) rfl _ _ _) rfl ?_;rw[HY.o];exact Zy (Zx _ _) fJ.o
     | some p =>
      have HY:Hd (R=wF ns (af ns p)):=by show _=_;rw[BZ.o,hF];unfold F8;rw[hP];rfl
      rw[qR hP]at CG;have F9:Hd (Calls prog 14 #[.slice (some ⟨N,0,none⟩) L c,.int .i64 0,.string ⟨#[112,97,99,107,97,103,101]⟩] wr fun e w''=>e=.returned (.int .i64 (p:Nat))/\wr=w''):=CG;have hpl:p<L:=by rw[<-HL.o];exact HD.o.tv.choose_spec.lt _ _ (iH hP).1
      clear CF CG hF hP BZ hg;go_wp2_with (go_at_call 14;refine mg.o.mono ?_);rintro e w'' ⟨rfl,rfl⟩;clear mg;go_wp2_with (go_at_call 14;refine F9.o.mono ?_);rintro e w'' ⟨rfl,rfl⟩;clear F9;obtain⟨S,T⟩:=HD.o.tv;have oP:af ns p=(ns[p]'(by rw[HL.o];exact hpl)).ks:=by unfold af;rw[List.getElem?_eq_getElem (by rw[HL.o];exact hpl)]
      have hAl:(af ns p).length<=1000000:=by rw[oP];exact HD.o.kid p (by rw[HL.o];exact hpl)
      obtain⟨A,hA⟩:=zN (af ns p);have HA:Hd (af ns p=A):=hA;have bP:Hd (∀k (hk:k<A.length),A[k]<ns.length):=fun k hk=>T.lt p _ (by rw[hA];exact List.getElem_mem hk)
      have vM:Hd (∀t k y,ah ns t k=some y->y<ns.length):=fun t k y h=>T.lt _ _ (iH h).1
      have FZ:Hd (∀y (hy:y<ns.length),∀w',w1.grownBy w' none->(af ns y).length<=1000000/\∃oA mA,w'.cell? ⟨N,y*6+4,none⟩=some (.slice oA (af ns y).length mA)/\∀k (hk:k<(af ns y).length),∃g,oA=some ⟨g,0,none⟩/\w'.cell? ⟨g,k,none⟩=some (.int .i64 ((af ns y)[k]:Nat))/\(af ns y)[k]<ns.length):=fun y hy w' hg=>by
       have hky:af ns y=(ns[y]'hy).ks:=by unfold af;rw[List.getElem?_eq_getElem hy]
       obtain⟨o,m,-,-,-,-,h4,-,o',m',e,hn⟩:=(HD.o.grow hg).node hy;rw[<-hky]at h4 e hn;refine⟨by rw[hky];exact HD.o.kid y hy,o,m,h4,fun k hk=>?_⟩;injection e with e _ _
       rw[e];obtain⟨g,g1,g2⟩:=hn k hk;exact⟨g,g1,g2,T.lt y _ (List.getElem_mem hk)⟩
      have pM:Hd (∀q (hq:q<ns.length),∀w',w1.grownBy w' none->w'.cell? ⟨N,q*6+2,none⟩=some (.string (aP ns q))/\w'.cell? ⟨N,q*6+5,none⟩=some (.int .i64 (iM ns q:Nat))):=fun q hq w' hg=>by
       obtain⟨-,-,-,-,h2,-,-,h5,-⟩:=(HD.o.grow hg).node hq;unfold aP iM;rw[List.getElem?_eq_getElem hq];exact⟨h2,h5⟩
      obtain⟨n,hn⟩:=zN (A.length);have HN:Hd (A.length=n):=hn;have hnl:n<=1000000:=by rw[<-hn,<-hA];exact hAl
      have ZP:Hd (p<ns.length):=by rw[HL.o];exact hpl
      rw[hA]at HY;obtain⟨i0,hi0,hii⟩:=Option.map_eq_some_iff.1 aiS;simp only[Prod.mk.injEq]at hii;obtain⟨hz0,hz1,hzb⟩:=hii;obtain⟨j0,hj0,hjj⟩:=Option.map_eq_some_iff.1 Nj;simp only[Prod.mk.injEq]at hjj;obtain⟨hy0,hy1,hyb⟩:=hjj;clear T oP hAl hA hn;go_wp2;go_loopw [11,12] (fun v11 v12 wr=>∃(i:Nat) (vs:List Value),v12=.int .i64 (i:Nat)/\i<=n/\RnB w1.heap.size wr ((A.take i).map (iP ns)) v11 vs/\(∀t∈A.take i,jh ns t=true)/\w1.grownBy wr none) (fun _ v12 _=>n-(intOf v12).toNat)
      case atStart=>exact⟨0,[],rfl,Nat.zero_le _,Zx _ _,fun t ht=>(by cases ht),HG.o⟩
      case round =>
       obtain⟨i,vs,rfl,hi,hrn,hall,hg⟩:=hrel;have Q7:Hd (RnB w1.heap.size wr ((A.take i).map (iP ns)) u11 vs):=hrn;have qi:Hd (∀t∈A.take i,jh ns t=true):=hall;have sZ:Hd (w1.grownBy wr none):=hg;obtain⟨-,oA,mA,cA,hcA⟩:=FZ.o p ZP.o wr hg;rw[HA.o]at cA;rw[HN.o]at cA;clear hrn hall
       by_cases hlt:i<n
       ·have hiA:i<A.length:=by rw[HN.o];exact hlt
        obtain⟨g,rfl,cg,-⟩:=hcA i (by rw[HA.o];exact hiA);simp only[HA.o]at cg;have dU:=bP.o i hiA;have Gg:A[i]<L:=by rw[<-HL.o];exact dU
        have C1:=CK.o _ Gg bQ wr hg;have C2:=CK.o _ Gg dP wr hg;have C3:=CK.o _ Gg ed wr hg;have C4:=CK.o _ Gg cZ wr hg;have cq:=(pM.o _ dU wr hg).2;obtain⟨t,ht⟩:=zN (A[i]);have HT:Hd (A[i]=t):=ht;rw[ht]at cg C1 C2 C3 C4 dU cq;rw[HL.o]at dU;have D1:Hd (Calls prog 14 #[.slice (some ⟨N,0,none⟩) L c,.int .i64 (t:Nat),.string ⟨#[110,97,109,101]⟩] wr fun e w''=>e=.returned (.int .i64 (gI ns t bQ))/\wr=w''):=C1;have D2:Hd (Calls prog 14 #[.slice (some ⟨N,0,none⟩) L c,.int .i64 (t:Nat),.string ⟨#[118,101,114,115,105,111,110]⟩] wr fun e w''=>e=.returned (.int .i64 (gI ns t dP))/\wr=w''):=C2;have D3:Hd (Calls prog 14 #[.slice (some ⟨N,0,none⟩) L c,.int .i64 (t:Nat),.string ⟨#[100,105,103,101,115,116]⟩] wr fun e w''=>e=.returned (.int .i64 (gI ns t ed))/\wr=w''):=C3;have D4:Hd (Calls prog 14 #[.slice (some ⟨N,0,none⟩) L c,.int .i64 (t:Nat),.string ⟨#[110,101,101,100,115]⟩] wr fun e w''=>e=.returned (.int .i64 (gI ns t cZ))/\wr=w''):=C4
        obtain⟨ka,hka⟩:=zN (gI ns t bQ);obtain⟨kb,hkb⟩:=zN (gI ns t dP);obtain⟨kc,hkc⟩:=zN (gI ns t ed);obtain⟨kd,hkd⟩:=zN (gI ns t cZ);rw[hka]at D1;rw[hkb]at D2;rw[hkc]at D3;rw[hkd]at D4;have kG:Hd (gI ns t bQ=ka/\gI ns t dP=kb/\gI ns t ed=kc/\gI ns t cZ=kd):=⟨hka,hkb,hkc,hkd⟩;have Q8:Hd (wr.cell? ⟨N,t*6+5,none⟩=some (.int .i64 (iM ns t:Nat))):=cq;clear C1 C2 C3 C4 hka hkb hkc hkd ht hcA hg cq Gg;go_wp2_with (go_at_call 14;refine D1.o.mono ?_);rintro e w'' ⟨rfl,rfl⟩;clear cA cg D1;go_wp2_with (go_at_call 14;refine D2.o.mono ?_);rintro e w'' ⟨rfl,rfl⟩;clear D2;go_wp2_with (go_at_call 14;refine D3.o.mono ?_);rintro e w'' ⟨rfl,rfl⟩;clear D3;go_wp2_with (go_at_call 14;refine D4.o.mono ?_);rintro e w'' ⟨rfl,rfl⟩;clear D4
        rcases ajn (ns:=ns) (t:=t) with⟨a,b,cc,d,ha,hb,hc,hd,hF⟩|⟨hF,hlk⟩
        ·obtain⟨k1,k2,k3,k4⟩:=kG.o;rw[qR ha]at k1;rw[qR hb]at k2;rw[qR hc]at k3;rw[qR hd]at k4;have hal:=vM.o t bQ a ha;have hbl:=vM.o t dP b hb;have hcl:=vM.o t ed cc hc;have hdl:=vM.o t cZ d hd;have ZQ:Hd (d<ns.length):=hdl;have ta:=(pM.o a hal wr sZ.o).1;have tb:=(pM.o b hbl wr sZ.o).1;have tc:=(pM.o cc hcl wr sZ.o).1;obtain⟨An,hAn⟩:=zN (aP ns a);obtain⟨Bn,hBn⟩:=zN (aP ns b);obtain⟨Cn,Q9⟩:=zN (aP ns cc);have fK:Hd (iP ns t=⟨An,Bn,Cn,(af ns d).map (aP ns)⟩):=by
          show _=_;unfold iP kx kl;rw[ha,hb,hc,hd];simp only[hAn,hBn,Q9]
         rw[hAn]at ta;rw[hBn]at tb;rw[Q9]at tc;rw[HL.o]at hal hbl hcl hdl;have jF:Hd (jh ns t=true):=hF;have p1:¬(a:Int)<0:=by omega
         have p2:¬(b:Int)<0:=by omega
         have p3:¬(cc:Int)<0:=by omega
         have p4:¬(d:Int)<0:=by omega
         subst k1 k2 k3 k4;clear kG Q8 ha hb hc hd hF hAn hBn Q9;obtain⟨wS,hwS⟩:∃wS,wS=wr:=⟨_,rfl⟩;subst hwS;have ta':(wS.alloc (.cells #[.string ⟨#[]⟩,.string ⟨#[]⟩,.string ⟨#[]⟩,.slice none 0 0] 47)).cell? ⟨N,a*6+2,none⟩=some (.string An):=(World.grownBy_alloc wS _ none).cell ta (by simp);have tb':(wS.alloc (.cells #[.string ⟨#[]⟩,.string ⟨#[]⟩,.string ⟨#[]⟩,.slice none 0 0] 47)).cell? ⟨N,b*6+2,none⟩=some (.string Bn):=(World.grownBy_alloc wS _ none).cell tb (by simp);have tc':(wS.alloc (.cells #[.string ⟨#[]⟩,.string ⟨#[]⟩,.string ⟨#[]⟩,.slice none 0 0] 47)).cell? ⟨N,cc*6+2,none⟩=some (.string Cn):=(World.grownBy_alloc wS _ none).cell tc (by simp);go_upto_region 26 with fail
         go_region
         obtain⟨Y,hY⟩:=zN (wS.heap.size);obtain⟨W,hW⟩:=zN ((wS.alloc (.cells #[.string An,.string Bn,.string Cn,.slice none 0 0] 47)).drew);have ajr:Hd (wS.grownBy W none):=hW ▸ ay (bC (au wS none) _) 1;have HYW:Hd (W.heap[Y]?=some (.cells #[.string An,.string Bn,.string Cn,.slice none 0 0] 47 (0,0))):=by
          rw[<-hW,<-hY];exact heap_alloc_new _ _
         have rD:Hd (wS.heap.size=Y):=hY;rw[hY,hW];clear hY hW ta tb tc ta' tb' tc';obtain⟨K,hK⟩:=zN (af ns d);have HK:Hd (af ns d=K):=hK;obtain⟨M,hM⟩:=zN (K.length);have HM:Hd (K.length=M):=hM;have Jo:M<=1000000:=by rw[<-hM,<-hK];exact(FZ.o d ZQ.o wS sZ.o).1
         clear hK hM;go_wp2;go_loopw [19] (fun v19 wr=>∃(k:Nat) (nv:Value),v19=.int .i64 (k:Nat)/\k<=M/\wS.grownBy wr none/\wr.heap[Y]?=some (.cells #[.string An,.string Bn,.string Cn,nv] 47 (0,0))/\wr.ownsRow Y 9 1 nv k ((K.take k).map fun q=>.string (aP ns q))) (fun v19 _=>M-(intOf v19).toNat)
         case atStart=>exact⟨0,.slice none 0 0,rfl,Nat.zero_le _,ajr.o,HYW.o,World.ownsRow_nil _ _ _ _⟩
         case round =>
          obtain⟨k,nv,rfl,hk,hg,wL,hrow⟩:=hrel;have J6:Hd (wS.grownBy wr none):=hg;have Rf:Hd (wr.heap[Y]?=some (.cells #[.string An,.string Bn,.string Cn,nv] 47 (0,0))):=wL;obtain⟨o4,c4,hnv⟩:=mG hrow;subst hnv;obtain⟨-,oK,mK,cK,hcK⟩:=FZ.o d ZQ.o wr (ai sZ.o hg);simp only[HK.o]at hcK;rw[HK.o,HM.o]at cK;have y0:wr.cell? ⟨Y,0,none⟩=some (.string An):=by rw[ag wL];rfl
          have y1:wr.cell? ⟨Y,1,none⟩=some (.string Bn):=by rw[ag wL];rfl
          have y2:wr.cell? ⟨Y,2,none⟩=some (.string Cn):=by rw[ag wL];rfl
          have y3:wr.cell? ⟨Y,3,none⟩=some (.slice o4 k c4):=by rw[ag wL];rfl
          have hfz:wr.frozen? ⟨Y,3,none⟩=false:=Lib.frozen_of_heap wL 3;obtain⟨Kz,Rh⟩:=zN (wr.heap.size);have hBY:Y<Kz:=by rw[<-Rh];exact aB wL
          by_cases sJ:k<M
          ·have QM:(k:Int)<(M:Int):=by omega
           have oU:k<K.length:=by rw[HM.o];exact sJ
           obtain⟨gk,rfl,cgk,hzl⟩:=hcK k oU;have ctx:=(pM.o _ hzl wr (ai sZ.o hg)).1;obtain⟨z,hz⟩:=zN (K[k]);obtain⟨TX,eH⟩:=zN (aP ns z);have HZ:Hd ((K.take (k+1)).map (fun q=>Value.string (aP ns q))=(K.take k).map (fun q=>Value.string (aP ns q))++[.string TX]):=by
            show _=_;rw[List.take_succ_eq_append_getElem oU,List.map_append,hz,<-eH];rfl
           rw[hz]at cgk ctx hzl;rw[eH]at ctx;rw[HL.o]at hzl;obtain⟨ys,hys⟩:=zN ((K.take k).map (fun q=>Value.string (aP ns q)));rw[hys]at hrow HZ;have Ri:Hd (wr.ownsRow Y 9 1 (.slice o4 k c4) k ys):=hrow;have dV:Hd (some Y≠(Value.slice o4 k c4).ownBlock):=fun e=>by
            obtain⟨cc,hcc⟩:=(bH hrow e.symm).2;exact aO Rf.o hcc (by decide) rfl
           have hone:∀u∈([.string TX]:List Value),u.oneCell'=true:=by simp[Value.oneCell']
           have dY:Hd ((wr.drew.alloc (.cells #[.string TX] 9)).heap[Kz]?=some (.cells #[.string TX] 9 (0,0))):=by
            have:=heap_alloc_new wr.drew (.cells #[.string TX] 9);rw[show wr.drew.heap.size=Kz from Rh]at this;exact this
           have y3A:(wr.alloc (.cells #[.string TX] 9)).cell? ⟨Y,3,none⟩=some (.slice o4 k c4):=(World.grownBy_alloc wr _ none).cell y3 (by simp);clear hg wL hcK hz eH hys y0 y1 y2;go_upto_region 30 with fail
           go_region_law (refine step_append_lies _ (by rfl) _ _ _ (by rfl) Y 9 j0 _ 1 16 underlying31 hj0 hy0 hy1 hyb (by rfl) (by decide) (.slice o4 k c4) k ys (by rfl) (hrow.drew.alloc _) ⟨Kz,0,none⟩ 1 1 [.string TX] (by rfl) (by rfl) (World.news_of_block dY.o) hone (by omega) (by unfold maxLen;omega) (by omega) (by simp;omega) _ rfl ?_;intro g cap w3 hown3 hgrow hat hlt3;have hc3:w3.cell? ⟨Y,3,none⟩=some (.slice o4 k c4):=nH y3 hgrow dV.o;have o8:w3.frozen? ⟨Y,3,none⟩=false:=rH Rf.o hgrow dV.o)
           all_goals (
            obtain⟨n1,n2,n3⟩:=ajo (Nat.le_of_eq rD.o) J6.o Rf.o Ri.o hown3 hgrow;have kR:Hd (wS.grownBy (w3.setCell ⟨Y,3,none⟩ (.slice (some ⟨g,0,none⟩) (k+1) cap)) none/\(w3.setCell ⟨Y,3,none⟩ (.slice (some ⟨g,0,none⟩) (k+1) cap)).heap[Y]?=some (.cells #[.string An,.string Bn,.string Cn,.slice (some ⟨g,0,none⟩) (k+1) cap] 47 (0,0))/\(w3.setCell ⟨Y,3,none⟩ (.slice (some ⟨g,0,none⟩) (k+1) cap)).ownsRow Y 9 1 (.slice (some ⟨g,0,none⟩) (k+1) cap) (k+1) (ys++[.string TX])):=⟨n1,n2,n3⟩;clear n1 n2 n3;go_wp2;refine⟨⟨k+1,.slice (some ⟨g,0,none⟩) (k+1) cap,by go_num,by omega,kR.o.1,kR.o.2.1,by rw[HZ.o];exact kR.o.2.2⟩,?_⟩;simp[intOf];omega)
          ·have QM:¬(k:Int)<(M:Int):=by omega
           have Rj:k=M:=by omega
           have Ri:Hd (wr.ownsRow Y 9 1 (.slice o4 k c4) ((af ns d).map (aP ns)).length (((af ns d).map (aP ns)).map Value.string)):=by
            have h1:=hrow;rw[Rj,<-HM.o,List.take_length,<-HK.o]at h1;rw[Rj,<-HM.o,<-HK.o,List.length_map,List.map_map];exact h1
           have HRk:Hd (RnB w1.heap.size wr ((A.take i).map (iP ns)) u11 vs):=Q7.o.grow hg;have ZR:Hd (w1.grownBy wr none):=ai sZ.o hg;obtain⟨m0,hm0⟩:=zN (((A.take i).map (iP ns)).length);have ajM:m0<=1000000:=by rw[<-hm0,List.length_map,List.length_take];omega
           have HRW:Hd (wr.ownsRow w1.heap.size 47 4 u11 m0 (vC ((A.take i).map (iP ns)) vs)):=by have:=HRk.o.row;rw[hm0]at this;exact this
           have xC:Hd (((A.take i).map (iP ns)).length=m0):=hm0;have hone:∀u∈rO ⟨An,Bn,Cn,(af ns d).map (aP ns)⟩ (.slice o4 k c4),u.oneCell'=true:=acT _ _ rfl;have hbs:=ZR.o.size;clear hg wL hcK hrow hm0 hfz sJ Rj Rh hBY;go_wp2_with (first|(at_builtin;refine wpList_append_own _ rfl _ _ 26 rfl w1.heap.size 47 i0 (.agg #[.string ⟨#[]⟩,.string ⟨#[]⟩,.string ⟨#[]⟩,.slice none 0 0]) 4 72 underlying26 hi0 hz0 hz1 hzb rfl (by decide) _ _ _ rfl (HRW.o.alloc _) _ 1 1 (rO ⟨An,Bn,Cn,(af ns d).map (aP ns)⟩ (.slice o4 k c4)) rfl rfl (World.news_of_block (heap_alloc_new _ _)) hone (by unfold maxLen;omega) (by omega) (by simp;omega) ?_;intro v9 w9 hown9 hgrow9 _));have gq:Hd (RnB w1.heap.size w9 ((A.take (i+1)).map (iP ns)) v9 (vs++[.slice o4 k c4])):=by
            have gA:=bC (au wr none) (.cells #[.string An,.string Bn,.string Cn,.slice o4 k c4] 47);have:=(HRk.o.grow gA).push (x:=iP ns t) (nv:=.slice o4 k c4) (w':=w9) (v':=v9) (by rw[xC.o,fK.o];exact hown9) hgrow9 (by
             rw[fK.o];exact ajp (by have:=rD.o;have:=sZ.o.size;omega) ((aV gA).row Ri.o))
            rw[List.take_succ_eq_append_getElem hiA,List.map_append,HT.o];exact this
           have D7:Hd (w1.grownBy w9 none):=QT (bC ZR.o _) (HRW.o.alloc _) hgrow9;have ajs:Hd (∀t∈A.take (i+1),jh ns t=true):=fun t' ht'=>by
            rw[List.take_succ_eq_append_getElem hiA,List.mem_append,List.mem_singleton]at ht'
            rcases ht' with h1|h1
            ·exact qi.o t' h1
            ·rw[h1,HT.o];exact jF.o
           clear hown9 hgrow9;go_wp2;refine⟨⟨i+1,vs++[.slice o4 k c4],by go_num,by omega,gq.o,ajs.o,D7.o⟩,?_⟩;simp[intOf];omega
        ·have HBAD:Hd (R=.error (6,iM ns t)):=by
          show _=_;rw[HY.o,ajl hiA qi.o (by rw[HT.o];exact hF),HT.o]
         have cq:=Q8.o;obtain⟨pq,hpq⟩:=zN (iM ns t);rw[hpq]at HBAD cq;have hor:ka<0\/(¬ka<0/\kb<0)\/(¬ka<0/\¬kb<0/\kc<0)\/(¬ka<0/\¬kb<0/\¬kc<0/\kd<0):=by
          obtain⟨k1,k2,k3,k4⟩:=kG.o
          rcases hlk with h1|⟨⟨a,h1⟩,h2|⟨⟨b,h2⟩,h3|⟨⟨cc,h3⟩,h4⟩⟩⟩
          ·rw[BX h1]at k1;exact Or.inl (by omega)
          ·rw[qR h1]at k1;rw[BX h2]at k2;exact Or.inr (Or.inl (by omega))
          ·rw[qR h1]at k1;rw[qR h2]at k2;rw[BX h3]at k3;exact Or.inr (Or.inr (Or.inl (by omega)))
          ·rw[qR h1]at k1;rw[qR h2]at k2;rw[qR h3]at k3;rw[BX h4]at k4;exact Or.inr (Or.inr (Or.inr (by omega)))
         clear hF hlk hpq kG Q8
         rcases hor with h1|⟨h1,h2⟩|⟨h1,h2,h3⟩|⟨h1,h2,h3,h4⟩
         all_goals (
          go_wp2;go_quiet (fail);go_wp2;refine bodyPost_ret (results_tmp3 (t:=2) (u:=3) (v:=4) rfl _ _ _) rfl ?_;rw[HBAD.o];exact F6 (ay (ai ax.o sZ.o) nq))
       ·have hin:i=n:=by omega
        have ZT:Hd (RnB w1.heap.size wr (A.map (iP ns)) u11 vs):=by
         have:=Q7.o;rw[hin,<-HN.o,List.take_length]at this;exact this
        have ZU:Hd (∀t∈A,jh ns t=true):=by
         have:=qi.o;rw[hin,<-HN.o,List.take_length]at this;exact this
        obtain⟨F,hF⟩:=zN ((A.flatMap (kl ns)).find? (fun y=>!aT (A.map (iP ns)) (aP ns y)));have HRR:Hd (R=Q3 ns A F):=by
         show _=_;rw[HY.o,ajm ZU.o,hF]
        have CW:Hd (Calls prog 15 #[.slice (some ⟨N,0,none⟩) L c,.int .i64 (p:Nat),u11] wr fun e w'=>∃v z q,e=.returned (.tuple #[v,z,q])/\Hd ((∀y,F=some y->e=.returned (.tuple #[.slice none 0 0,.int .i64 6,.int .i64 (iM ns y:Nat)]))/\(F=none->e=.returned (.tuple #[u11,.int .i64 0,.int .i64 0]))/\wr.grownBy w' none)):=by
         have:=aiP wr N c ns (HD.o.grow hg) p ZP.o u11 (A.map (iP ns)) ZT.o.ens (by rw[HA.o]) (fun t ht=>by
          have h1:=ZU.o t (by rw[<-HA.o];exact ht);unfold jh at h1;simp only[Bool.and_eq_true]at h1;exact h1.2) F (by rw[HA.o];exact hF)
         rw[HL.o]at this;refine this.mono fun e w' hh=>?_
         rcases F with _|y
         ·exact⟨_,_,_,hh.2.1 rfl,hh⟩
         ·exact⟨_,_,_,hh.1 y rfl,hh⟩
        clear hcA hg hF hin Q7 qi;go_wp2_with (go_at_call 15;refine CW.o.mono ?_;rintro e w9 ⟨v9,z9,q9,rfl,h9⟩);refine bodyPost_ret (results_tmp3 (t:=2) (u:=3) (v:=4) rfl _ _ _) rfl ?_
        rcases F with _|y
        ·have he:=h9.o.2.1 rfl;rw[HRR.o];show BU w _ (.returned (.tuple #[v9,z9,q9])) w9;rw[he];exact Zy ((ZT.o.grow h9.o.2.2).up ax.o.size) (ai ax.o (ai sZ.o h9.o.2.2))
        ·have he:=h9.o.1 y rfl;rw[HRR.o];show BU w _ (.returned (.tuple #[v9,z9,q9])) w9;rw[he];exact F6 (ai ax.o (ai sZ.o h9.o.2.2))
open Go.RowKit Go.Maps Go.WideMaps Go.Joins
theorem ajt(l:List UInt8):F7 l=nV l:=by
 unfold F7 nV
 cases h:jK l with
 | error e=>rfl
 | ok ns =>
  obtain⟨T,-⟩:=Jv l ns h;exact YJ T
theorem aju{l:List UInt8}{es:List En}(h:nV l=.ok es):qM es:=by
 unfold nV at h
 cases hr:jK l with
 | error e=>rw[hr]at h;cases h
 | ok ns =>
  rw[hr]at h;obtain⟨T,-⟩:=Jv l ns hr;exact ahy T h
theorem ZX(s:ByteArray)(E:Int->TypeId × Value)(b:Int->Addr)(w:World)(G:Gl w w.heap.size E)(S:Sn w E b)(h0:0<w.heap.size)(hmx:s.size<2 ^ 62) :
  Calls prog 4 #[.string s] w fun e w'=>e=.returned (.bool true)/\w.grownBy w' none:=by
 have CR:∀(s:ByteArray),s.size<2 ^ 62->∀w',w.grownBy w' none->Calls prog 5 #[.string s] w' (wK w'.heap.size w' (nV s.data.toList)):=fun s hs w' hg=>aji s E b w' ((G.bel (Gj hg)).up hg.size) (S.grow hg) hs
 have CD:∀w',w.grownBy w' none->Calls prog 6 #[.string s] w' (BU w' (nV s.data.toList)):=fun w' hg=>by
  rw[<-ajt];exact ajq s w' (Nat.lt_of_lt_of_le h0 hg.size) hmx
 have CM:Hd (∀n w,Calls prog 8 #[.int .i64 n] w fun e w'=>e=.returned (.int .i64 n)/\Hd (w.grownBy w' none)):=fun n w=>ad9 n w
 have HG:Hd (w.grownBy w none):=au _ _
 cases hX:nV s.data.toList with
 | error zp =>
  obtain⟨z,p⟩:=zp;have Rk:Hd (Calls prog 5 #[.string s] w fun e w''=>e=.returned (.tuple #[.slice none 0 0,.int .i64 z,.int .i64 (p:Nat)])/\Hd (w.grownBy w'' none/\¬z=0)):=(CR s hmx w HG.o).mono fun e w'' hh=>⟨(hh.2.1 (z,p) hX).1,hh.2.2,(hh.2.1 (z,p) hX).2⟩
  have uX:Hd (∀w',w.grownBy w' none->Calls prog 6 #[.string s] w' fun e w''=>e=.returned (.tuple #[.slice none 0 0,.int .i64 z,.int .i64 (p:Nat)])/\Hd (w'.grownBy w'' none)):=fun w' hg=>(CD w' hg).mono fun e w'' hh=>⟨hh.2.1 (z,p) hX,hh.2.2⟩
  have hcc:(z != z)=false:=by simp
  clear CR CD hX G S;go_enter func4,ntmps4;go_wp2_with (go_at_call 5;refine Rk.o.mono ?_);rintro e w1 ⟨rfl,h1⟩;have ax:Hd (w.grownBy w1 none):=h1.o.1;have hz:(z != 0)=true:=by simpa using h1.o.2
  clear h1;go_wp2_with (go_at_call 6;refine(uX.o _ ax.o).mono ?_);rintro e w2 ⟨rfl,h2⟩;replace ax:Hd (w.grownBy w2 none):=ai ax.o h2.o;clear h2;go_wp2_with (go_at_call 8;refine(CM.o z _).mono ?_;rintro e w3 ⟨rfl,h3⟩);go_ret;exact⟨rfl,ai ax.o h3.o⟩
 | ok es =>
  have hok:=aju hX;obtain⟨hT,hlen,ns,h1,-,h3⟩:=ahZ hok;obtain⟨T,Gh⟩:=zN (vX es);have hl:T.data.toList.length<=100000:=by rw[<-Gh,hT];exact hlen
  have hrd:nV T.data.toList=.ok (gU es):=by unfold nV;rw[<-Gh,hT,h1];exact h3
  have hTs:T.size<2 ^ 62:=by
   have:T.data.toList.length=T.size:=by simp
   omega
  have hrl:(gU es).length=es.length:=by unfold gU;rw[List.length_map,(ET es).length_eq]
  obtain⟨n,hn⟩:=zN (es.length);have key:∀(s:ByteArray) (L:List En),s.size<2 ^ 62->nV s.data.toList=.ok L->L.length=n->∀w',w.grownBy w' none->Calls prog 5 #[.string s] w' fun e w''=>∃o c,e=.returned (.tuple #[.slice o n c,.int .i64 0,.int .i64 0])/\Hd (EnS w'' (.slice o n c) L/\w'.grownBy w'' none):=fun s L hs hL hn w' hg=>(CR s hs w' hg).mono fun e w'' hh=>by
   obtain⟨ve,xs,vs,he,hE⟩:=hh.1 L hL;obtain⟨o,c,hv⟩:=DU hE.ens;rw[hn]at hv;subst hv;exact⟨o,c,he,hE.ens,hh.2.2⟩
  have Rk:Hd (Calls prog 5 #[.string s] w fun e w''=>∃o c,e=.returned (.tuple #[.slice o n c,.int .i64 0,.int .i64 0])/\Hd (EnS w'' (.slice o n c) es/\w.grownBy w'' none)):=key s es hmx hX hn w HG.o;have CR2:Hd (∀w',w.grownBy w' none->Calls prog 5 #[.string T] w' fun e w''=>∃o c,e=.returned (.tuple #[.slice o n c,.int .i64 0,.int .i64 0])/\Hd (EnS w'' (.slice o n c) (gU es)/\w'.grownBy w'' none)):=key T (gU es) hTs hrd (hrl.trans hn);have uX:Hd (∀w',w.grownBy w' none->Calls prog 6 #[.string s] w' fun e w''=>∃ve,e=.returned (.tuple #[ve,.int .i64 0,.int .i64 0])/\Hd (w'.grownBy w'' none)):=fun w' hg=>(CD w' hg).mono fun e w'' hh=>by
   obtain⟨ve,vs,he,-⟩:=hh.1 es hX;exact⟨ve,he,hh.2.2⟩
  have CP:Hd (∀v L w',EnS w' v L->(L=es\/L=gU es)->Calls prog 9 #[v] w' fun e w''=>e=.returned (.tuple #[.string T,.int .i64 0,.int .i64 0])/\Hd (w'.grownBy w'' none)):=fun v L w' h hL=>by
   rcases hL with rfl|rfl
   ·rw[<-Gh];exact Y2 h hok
   ·rw[<-Gh,<-ahY hok];exact Y2 h (Qv hok)
  have htt:(T.toList == T.toList)=true:=by simp
  have hnn:((n:Int) == (n:Int))=true:=by simp
  clear CR CD key hX G S hT hlen h1 h3 Gh hl hrd hTs hrl hn hok;go_enter func4,ntmps4;go_wp2_with (go_at_call 5;refine Rk.o.mono ?_);rintro e w1 ⟨o1,c1,rfl,h1⟩;have jC:Hd (EnS w1 (.slice o1 n c1) es):=h1.o.1;have ax:Hd (w.grownBy w1 none):=h1.o.2;clear h1;go_wp2_with (go_at_call 6;refine(uX.o _ ax.o).mono ?_);rintro e w2 ⟨vm,rfl,h2⟩;replace ax:Hd (w.grownBy w2 none):=ai ax.o h2.o;replace jC:Hd (EnS w2 (.slice o1 n c1) es):=jC.o.grow h2.o;clear h2;go_wp2_with (first|(go_at_call 8;refine(CM.o 0 _).mono ?_;rintro e w3 ⟨rfl,h3⟩)|(go_at_call 9;fail));replace ax:Hd (w.grownBy w3 none):=ai ax.o h3.o;replace jC:Hd (EnS w3 (.slice o1 n c1) es):=jC.o.grow h3.o;clear h3;go_wp2_with (go_at_call 9;refine(CP.o _ _ _ jC.o (Or.inl rfl)).mono ?_);rintro e w4 ⟨rfl,h4⟩;replace ax:Hd (w.grownBy w4 none):=ai ax.o h4.o
  clear h4 jC;go_wp2_with (go_at_call 5;refine(CR2.o _ ax.o).mono ?_);rintro e w5 ⟨o5,c5,rfl,h5⟩;have Hm:Hd (EnS w5 (.slice o5 n c5) (gU es)):=h5.o.1;replace ax:Hd (w.grownBy w5 none):=ai ax.o h5.o.2;clear h5;go_wp2_with (go_at_call 9;refine(CP.o _ _ _ Hm.o (Or.inr rfl)).mono ?_);rintro e w6 ⟨rfl,h6⟩;replace ax:Hd (w.grownBy w6 none):=ai ax.o h6.o;clear h6 Hm;go_wp2_with (go_at_call 8;refine(CM.o 0 _).mono ?_;rintro e wn ⟨rfl,hgn⟩;replace ax:Hd (w.grownBy wn none):=ai ax.o hgn.o;clear hgn);go_ret;exact⟨rfl,ax.o⟩
end Go.Proofs.YtnnbgjaphfhibaaGreatDoor
