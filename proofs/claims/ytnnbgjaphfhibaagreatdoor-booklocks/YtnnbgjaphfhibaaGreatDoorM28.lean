import Derived.Test.YtnnbgjaphfhibaaGreatDoorM26
import Derived.Test.YtnnbgjaphfhibaaGreatDoorM27
set_option linter.unusedVariables false
set_option linter.unusedSimpArgs false
set_option maxRecDepth 100000
set_option maxHeartbeats 6400000
open Go.Proofs.Tryz
namespace Go.Proofs.YtnnbgjaphfhibaaGreatDoor
open Go.RowKit Go.Maps Go.WideMaps Go.Joins
noncomputable def Ep(l:List UInt8):Rs (List En):=match jL l with | .error e=>.error e | .ok ns=>zM ns
def Wl(ns:List Tn):Option Nat->Rs (List En)
 | none=>.ok []
 | some p=>wR ns (ae ns p)
def Et(ns:List Tn):Option Nat->Rs (List En)
 | none=>.error (6,0)
 | some _=>Wl ns (ai ns 0 jk)
def OM(ns:List Tn):Rs Unit->Rs (List En)
 | .error e=>.error e
 | .ok _=>Et ns (ai ns 0 jV)
def OO(ns:List Tn)(A:List Nat):Option Nat->Rs (List En)
 | some y=>.error (6,iJ ns y)
 | none=>.ok (A.map (ja ns))
theorem aeF(ns:List Tn):zM ns=OM ns (lS ns (ns.length-1)):=by
 unfold zM OM Et Wl;rfl
theorem aeG{ns:List Tn}{i:Nat}(hi:i<ns.length):lS ns (ns.length-i)=if iZ ns i ns[i]=0 then lS ns (ns.length-(i+1)) else .error (iZ ns i ns[i],ns[i].pl):=by
 obtain⟨m,hm⟩:∃m,ns.length-i=m+1:=⟨ns.length-i-1,by omega⟩;rw[hm,show ns.length-(i+1)=m by omega];show(match ns[ns.length-(m+1)]? with|none=>_|some x=>_)=_;rw[show ns.length-(m+1)=i by omega,List.getElem?_eq_getElem hi]
theorem aeH{ns:List Tn}{A:List Nat}{i:Nat}(hi:i<A.length)(h1:∀t∈A.take i,jJ ns t=true)(h2:jJ ns A[i]=false):wR ns A=.error (6,iJ ns A[i]):=by
 unfold wR;rw[Hy (fun t=>!jJ ns t) A i hi (fun j hj hji=>by
  rw[h1 A[j] (List.mem_take_iff_getElem.2 ⟨j,by omega,rfl⟩)];rfl) (by rw[h2];rfl)]
theorem aeI{ns:List Tn}{A:List Nat}(h1:∀t∈A,jJ ns t=true):wR ns A=OO ns A ((A.flatMap (kl ns)).find? (fun y=>!aZ (A.map (ja ns)) (aT ns y))):=by
 unfold wR;have:A.find? (fun t=>!jJ ns t)=none:=by
  rw[List.find?_eq_none];intro t ht;rw[h1 t ht];decide
 rw[this];unfold OO;rfl
theorem aeJ{ns:List Tn}{t:Nat}:(∃a b c d,ai ns t fG=some a/\ai ns t iI=some b/\ai ns t iH=some c/\ai ns t dY=some d/\jJ ns t=true)\/(jJ ns t=false/\(ai ns t fG=none\/(∃a,ai ns t fG=some a)/\(ai ns t iI=none\/(∃b,ai ns t iI=some b)/\(ai ns t iH=none\/(∃c,ai ns t iH=some c)/\ai ns t dY=none)))):=by
 unfold jJ
 cases h1:ai ns t fG with
 | none=>exact Or.inr ⟨rfl,Or.inl rfl⟩
 | some a=>cases h2:ai ns t iI with
  | none=>exact Or.inr ⟨rfl,Or.inr ⟨⟨_,rfl⟩,Or.inl rfl⟩⟩
  | some b=>cases h3:ai ns t iH with
   | none=>exact Or.inr ⟨rfl,Or.inr ⟨⟨_,rfl⟩,Or.inr ⟨⟨_,rfl⟩,Or.inl rfl⟩⟩⟩
   | some c=>cases h4:ai ns t dY with
    | none=>exact Or.inr ⟨rfl,Or.inr ⟨⟨_,rfl⟩,Or.inr ⟨⟨_,rfl⟩,Or.inr ⟨⟨_,rfl⟩,rfl⟩⟩⟩⟩
    | some d=>exact Or.inl ⟨a,b,c,d,rfl,rfl,rfl,rfl,rfl⟩
theorem Ag{ns:List Tn}{t:Nat}{k:List UInt8}(h:ai ns t k=none):fK ns t k=-1:=by unfold fK;rw[h]
theorem qm{ns:List Tn}{t y:Nat}{k:List UInt8}(h:ai ns t k=some y):fK ns t k=(y:Int):=by unfold fK;rw[h]
theorem aeK{wS wr w3:World}{Y k g cap c4:Nat}{o4:Option Addr}{An Bn Cn TX:ByteArray}{ys:List Value}(hSY:wS.heap.size<=Y)(hg:wS.grownBy wr none)(hy:wr.heap[Y]?=some (.cells #[.string An,.string Bn,.string Cn,.slice o4 k c4] 47 (0,0)))(hrow:wr.ownsRow Y 9 1 (.slice o4 k c4) k ys)(hown:w3.ownsRow Y 9 1 (.slice (some ⟨g,0,none⟩) (k+1) cap) (k+1) (ys++[.string TX]))(hgrow:(wr.drew.alloc (.cells #[.string TX] 9)).grownBy w3 (Value.slice o4 k c4).ownBlock) :
  wS.grownBy (w3.setCell ⟨Y,3,none⟩ (.slice (some ⟨g,0,none⟩) (k+1) cap)) none/\(w3.setCell ⟨Y,3,none⟩ (.slice (some ⟨g,0,none⟩) (k+1) cap)).heap[Y]?=some (.cells #[.string An,.string Bn,.string Cn,.slice (some ⟨g,0,none⟩) (k+1) cap] 47 (0,0))/\(w3.setCell ⟨Y,3,none⟩ (.slice (some ⟨g,0,none⟩) (k+1) cap)).ownsRow Y 9 1 (.slice (some ⟨g,0,none⟩) (k+1) cap) (k+1) (ys++[.string TX]):=by
 have hne:some Y≠(Value.slice o4 k c4).ownBlock:=fun e=>by
  obtain⟨cc,hcc⟩:=(bz hrow e.symm).2;exact aP hy hcc (by decide) rfl
 have h1:=(bf (yK wr (.cells #[.string TX] 9))).blk hy;have h2:=(hgrow.block Y (aB h1) hne).trans h1;have hg3:wS.grownBy w3 none:=by
  have h3:=ah hg (yK wr (.cells #[.string TX] 9))
  cases hb:(Value.slice o4 k c4).ownBlock with
  | none=>rw[hb]at hgrow;exact ah h3 hgrow
  | some b=>rw[hb]at hgrow;exact mP h3 hgrow (Nat.le_trans hSY (bz hrow hb).1)
 exact⟨mP hg3 (iM w3 Y 3 _) hSY,block_setCell (i:=3) h2 _,(iP _ h2 (by decide)).row hown⟩
theorem aeL{w:World}{B B':Nat}{X:TypeId}{k n:Nat}{v:Value}{xs:List Value}(hB:B'<=B)(h:w.ownsRow B X k v n xs):w.ownsRow B' X k v n xs:=⟨h.1,h.2.imp id fun⟨g,cap,cu,e1,hb,r⟩=>⟨g,cap,cu,e1,by omega,r⟩⟩
theorem aeM(s:ByteArray)(w:World)(h0:0<w.heap.size)(hmx:s.size<2 ^ 62) :
  Calls prog 6 #[.string s] w (yI w (Ep s.data.toList)):=by
 have C0:=ac3 adR s w h0 hmx;obtain⟨R,hR⟩:=zN (Ep s.data.toList);rw[hR];unfold Ep at hR
 cases hns:jL s.data.toList with
 | error c0 =>
  obtain⟨z,p⟩:=c0;have hz:¬z=0:=by have:=N9 _ _ _ hns;omega
  have HY:Hd (R=.error (z,p)):=by show _=_;rw[<-hR,hns]
  have hzb:(z != 0)=true:=by simpa using hz
  have CP:Hd (Calls prog 12 #[.string s] w fun e w2=>e=.returned (.tuple #[.slice none 0 0,.int .i64 z,.int .i64 (p:Nat)])/\Hd (w.grownBy w2 none)):=C0.mono fun e w2 hh=>⟨hh.2.1 z p hns,hh.2.2⟩
  clear hns C0 hR hz;go_enter func6,ntmps6;go_wp2_with (go_at_call 12;refine CP.o.mono ?_);rintro e w2 ⟨rfl,hP⟩;go_wp2;refine bodyPost_ret (results_tmp3 (t:=2) (u:=3) (v:=4) rfl _ _ _) rfl ?_;rw[HY.o];exact Ej hP.o
 | ok ns =>
  have HR:Hd (zM ns=R):=by show _=_;rw[<-hR,hns]
  have CP:Hd (Calls prog 12 #[.string s] w fun e w2=>∃N c,e=.returned (.tuple #[.slice (some ⟨N,0,none⟩) ns.length c,.int .i64 0,.int .i64 0])/\Hd (Dc w2 N c ns/\w.grownBy w2 none)):=C0.mono fun e w2 hh=>by
   obtain⟨N,c,OV,xs,ks,own,m,he,hD⟩:=hh.1 ns hns;exact⟨N,c,he,aeq hD _ hns,hh.2.2⟩
  clear hns C0 hR;go_enter func6,ntmps6;go_wp2_with (first|(go_at_call 12;refine CP.o.mono ?_));rintro e w1 ⟨N,c,rfl,hP⟩;have HD:Hd (Dc w1 N c ns):=hP.o.1;have ay:Hd (w.grownBy w1 none):=hP.o.2;have hl:=HD.o.len;have hcap:=HD.o.cap;have hpos:0<ns.length:=HD.o.tv.choose_spec.root.1;obtain⟨C0,hC0⟩:=zN (lS ns (ns.length-1));have tC:Hd (lS ns (ns.length-1)=C0):=hC0;have OQ:Hd (R=OM ns C0):=by
   show _=_;rw[<-HR.o,<-hC0,aeF]
  have CN:Hd (∀i (hi:i<ns.length),0<i->∀w',w1.grownBy w' none->Calls prog 13 #[.slice (some ⟨N,0,none⟩) ns.length c,.int .i64 (i:Nat)] w' fun e w''=>e=.returned (.int .i64 (iZ ns i ns[i]))/\Hd (w'.grownBy w'' none)):=fun i hi h0 w' hg=>aet w' N c ns (HD.o.grow hg) i h0 hi
  have CK:Hd (∀q,q<ns.length->∀k w',w1.grownBy w' none->Calls prog 14 #[.slice (some ⟨N,0,none⟩) ns.length c,.int .i64 (q:Nat),.string ⟨k.toArray⟩] w' fun e w''=>e=.returned (.int .i64 (fK ns q k))/\w'=w''):=fun q hq k w' hg=>((HD.o.grow hg).cKid q hq k).mono fun e w'' hh=>⟨hh.1,hh.2.symm⟩
  obtain⟨L,hL⟩:=zN (ns.length);have HL:Hd (ns.length=L):=hL;rw[hL]at hl hcap hpos CK ⊢;clear CP hP HR hC0 hL;go_wp2;go_loopw [8] (fun v8 wr=>∃i:Nat,v8=.int .i64 (i:Nat)/\1<=i/\i<=L/\lS ns (ns.length-i)=C0/\w1.grownBy wr none) (fun v8 _=>L-(intOf v8).toNat)
  case atStart=>exact⟨1,rfl,Nat.le_refl _,by omega,tC.o,ax _ _⟩
  case round =>
   obtain⟨i,rfl,hi1,hi,hcc,hg⟩:=hrel;have OT:Hd (lS ns (ns.length-i)=C0):=hcc;have HG:Hd (w1.grownBy wr none):=hg;clear hcc
   by_cases hlt:i<L
   ·have hin:i<ns.length:=by rw[HL.o];exact hlt
    have IQ:=CN.o i hin (by omega) wr hg;have hst:=aeG hin;rw[OT.o]at hst;obtain⟨-,-,-,-,-,-,-,e5,-⟩:=(HD.o.grow hg).node hin;obtain⟨z,hz⟩:=zN (iZ ns i ns[i]);obtain⟨pl,hpl⟩:=zN (ns[i].pl);rw[hz]at IQ hst;rw[hpl]at e5 hst;rw[HL.o]at IQ;have CNh:Hd (Calls prog 13 #[.slice (some ⟨N,0,none⟩) L c,.int .i64 (i:Nat)] wr fun e w''=>e=.returned (.int .i64 z)/\Hd (wr.grownBy w'' none)):=IQ;have HST:Hd (C0=if z=0 then lS ns (ns.length-(i+1)) else .error (z,pl)):=hst;clear hst hz hpl IQ hg;go_wp2_with (go_at_call 13;refine CNh.o.mono ?_);rintro e w2 ⟨rfl,hg2⟩;have HG2:Hd (w1.grownBy w2 none):=ah HG.o hg2.o;have e52:=hg2.o.cell e5 (by simp);clear e5 hg2
    by_cases hz:z=0
    ·have iE:Hd (lS ns (ns.length-(i+1))=C0):=by show _=_;rw[HST.o,if_pos hz]
     subst hz;clear HST e52;go_wp2;refine⟨⟨i+1,by go_num,by omega,by omega,iE.o,HG2.o⟩,?_⟩;simp[intOf];omega
    ·have HY:Hd (R=.error (z,pl)):=by
      have hh:=HST.o;rw[if_neg hz]at hh;show _=_;rw[OQ.o,hh];rfl
     have hzb:(z != 0)=true:=by simpa using hz
     clear HST hz;go_wp2;go_quiet (fail);go_wp2;refine bodyPost_ret (results_tmp3 (t:=2) (u:=3) (v:=4) rfl _ _ _) rfl ?_;rw[HY.o];exact Ej (aj (ah ay.o HG2.o) nq)
   ·have hiL:i=L:=by omega
    have Ah:Hd (R=Et ns (ai ns 0 jV)):=by
     have hh:=OT.o;rw[hiL,HL.o,Nat.sub_self]at hh;have h2:C0=.ok ():=hh.symm;show _=_;rw[OQ.o,h2];rfl
    have CF:=CK.o 0 (by omega) jV wr hg;have CG:=CK.o 0 (by omega) jk wr hg;have iD:Hd (w.grownBy wr none):=ah ay.o hg;clear hiL OQ OT CN hi1 hi
    cases hF:ai ns 0 jV with
    | none =>
     have HY:Hd (R=.error (6,0)):=by show _=_;rw[Ah.o,hF];rfl
     rw[Ag hF]at CF;have lU:Hd (Calls prog 14 #[.slice (some ⟨N,0,none⟩) L c,.int .i64 0,.string ⟨#[102,111,114,109,97,116]⟩] wr fun e w''=>e=.returned (.int .i64 (-1))/\wr=w''):=CF;clear CF CG hF Ah hg;go_wp2_with (go_at_call 14;refine lU.o.mono ?_;rintro e w'' ⟨rfl,rfl⟩);refine bodyPost_ret (results_tmp3 (t:=2) (u:=3) (v:=4) rfl _ _ _) rfl ?_;rw[HY.o];exact Ej (p:=0) iD.o
    | some f =>
     rw[qm hF]at CF;have lU:Hd (Calls prog 14 #[.slice (some ⟨N,0,none⟩) L c,.int .i64 0,.string ⟨#[102,111,114,109,97,116]⟩] wr fun e w''=>e=.returned (.int .i64 (f:Nat))/\wr=w''):=CF
     cases hP:ai ns 0 jk with
     | none =>
      have HY:Hd (R=.ok []):=by show _=_;rw[Ah.o,hF];unfold Et;rw[hP];rfl
      rw[Ag hP]at CG;have Eu:Hd (Calls prog 14 #[.slice (some ⟨N,0,none⟩) L c,.int .i64 0,.string ⟨#[112,97,99,107,97,103,101]⟩] wr fun e w''=>e=.returned (.int .i64 (-1))/\wr=w''):=CG;clear CF CG hF hP Ah hg;go_wp2_with (go_at_call 14;refine lU.o.mono ?_);rintro e w'' ⟨rfl,rfl⟩;clear lU;go_wp2_with (go_at_call 14;refine Eu.o.mono ?_);rintro e w'' ⟨rfl,rfl⟩;clear Eu;go_wp2;refine bodyPost_ret (results_tmp3 (t:=2) (u:=3) (v:=4) rfl _ _ _) rfl ?_;rw[HY.o];exact V7 (V6 _ _) iD.o
     | some p =>
      have HY:Hd (R=wR ns (ae ns p)):=by show _=_;rw[Ah.o,hF];unfold Et;rw[hP];rfl
      rw[qm hP]at CG;have Eu:Hd (Calls prog 14 #[.slice (some ⟨N,0,none⟩) L c,.int .i64 0,.string ⟨#[112,97,99,107,97,103,101]⟩] wr fun e w''=>e=.returned (.int .i64 (p:Nat))/\wr=w''):=CG;have hpl:p<L:=by rw[<-HL.o];exact HD.o.tv.choose_spec.lt _ _ (iY hP).1
      clear CF CG hF hP Ah hg;go_wp2_with (go_at_call 14;refine lU.o.mono ?_);rintro e w'' ⟨rfl,rfl⟩;clear lU;go_wp2_with (go_at_call 14;refine Eu.o.mono ?_);rintro e w'' ⟨rfl,rfl⟩;clear Eu;obtain⟨S,T⟩:=HD.o.tv;have nX:ae ns p=(ns[p]'(by rw[HL.o];exact hpl)).ks:=by unfold ae;rw[List.getElem?_eq_getElem (by rw[HL.o];exact hpl)]
      have hAl:(ae ns p).length<=1000000:=by rw[nX];exact HD.o.kid p (by rw[HL.o];exact hpl)
      obtain⟨A,hA⟩:=zN (ae ns p);have HA:Hd (ae ns p=A):=hA;have cZ:Hd (∀k (hk:k<A.length),A[k]<ns.length):=fun k hk=>T.lt p _ (by rw[hA];exact List.getElem_mem hk)
      have uH:Hd (∀t k y,ai ns t k=some y->y<ns.length):=fun t k y h=>T.lt _ _ (iY h).1
      have Eg:Hd (∀y (hy:y<ns.length),∀w',w1.grownBy w' none->(ae ns y).length<=1000000/\∃oA mA,w'.cell? ⟨N,y*6+4,none⟩=some (.slice oA (ae ns y).length mA)/\∀k (hk:k<(ae ns y).length),∃g,oA=some ⟨g,0,none⟩/\w'.cell? ⟨g,k,none⟩=some (.int .i64 ((ae ns y)[k]:Nat))/\(ae ns y)[k]<ns.length):=fun y hy w' hg=>by
       have hky:ae ns y=(ns[y]'hy).ks:=by unfold ae;rw[List.getElem?_eq_getElem hy]
       obtain⟨o,m,-,-,-,-,h4,-,o',m',e,hn⟩:=(HD.o.grow hg).node hy;rw[<-hky]at h4 e hn;refine⟨by rw[hky];exact HD.o.kid y hy,o,m,h4,fun k hk=>?_⟩;injection e with e _ _
       rw[e];obtain⟨g,g1,g2⟩:=hn k hk;exact⟨g,g1,g2,T.lt y _ (List.getElem_mem hk)⟩
      have oP:Hd (∀q (hq:q<ns.length),∀w',w1.grownBy w' none->w'.cell? ⟨N,q*6+2,none⟩=some (.string (aT ns q))/\w'.cell? ⟨N,q*6+5,none⟩=some (.int .i64 (iJ ns q:Nat))):=fun q hq w' hg=>by
       obtain⟨-,-,-,-,h2,-,-,h5,-⟩:=(HD.o.grow hg).node hq;unfold aT iJ;rw[List.getElem?_eq_getElem hq];exact⟨h2,h5⟩
      obtain⟨n,hn⟩:=zN (A.length);have HN:Hd (A.length=n):=hn;have hnl:n<=1000000:=by rw[<-hn,<-hA];exact hAl
      have Wn:Hd (p<ns.length):=by rw[HL.o];exact hpl
      rw[hA]at HY;obtain⟨i0,hi0,hii⟩:=Option.map_eq_some_iff.1 aer;simp only[Prod.mk.injEq]at hii;obtain⟨hz0,hz1,hzb⟩:=hii;obtain⟨j0,hj0,hjj⟩:=Option.map_eq_some_iff.1 PI;simp only[Prod.mk.injEq]at hjj;obtain⟨hy0,hy1,hyb⟩:=hjj;clear T nX hAl hA hn;go_wp2;go_loopw [11,12] (fun v11 v12 wr=>∃(i:Nat) (vs:List Value),v12=.int .i64 (i:Nat)/\i<=n/\RnB w1.heap.size wr ((A.take i).map (ja ns)) v11 vs/\(∀t∈A.take i,jJ ns t=true)/\w1.grownBy wr none) (fun _ v12 _=>n-(intOf v12).toNat)
      case atStart=>exact⟨0,[],rfl,Nat.zero_le _,V6 _ _,fun t ht=>(by cases ht),HG.o⟩
      case round =>
       obtain⟨i,vs,rfl,hi,hrn,hall,hg⟩:=hrel;have OU:Hd (RnB w1.heap.size wr ((A.take i).map (ja ns)) u11 vs):=hrn;have o7:Hd (∀t∈A.take i,jJ ns t=true):=hall;have rG:Hd (w1.grownBy wr none):=hg;obtain⟨-,oA,mA,cA,hcA⟩:=Eg.o p Wn.o wr hg;rw[HA.o]at cA;rw[HN.o]at cA;clear hrn hall
       by_cases hlt:i<n
       ·have hiA:i<A.length:=by rw[HN.o];exact hlt
        obtain⟨g,rfl,cg,-⟩:=hcA i (by rw[HA.o];exact hiA);simp only[HA.o]at cg;have dN:=cZ.o i hiA;have Ew:A[i]<L:=by rw[<-HL.o];exact dN
        have C1:=CK.o _ Ew fG wr hg;have C2:=CK.o _ Ew iI wr hg;have C3:=CK.o _ Ew iH wr hg;have C4:=CK.o _ Ew dY wr hg;have cq:=(oP.o _ dN wr hg).2;obtain⟨t,ht⟩:=zN (A[i]);have HT:Hd (A[i]=t):=ht;rw[ht]at cg C1 C2 C3 C4 dN cq;rw[HL.o]at dN;have D1:Hd (Calls prog 14 #[.slice (some ⟨N,0,none⟩) L c,.int .i64 (t:Nat),.string ⟨#[110,97,109,101]⟩] wr fun e w''=>e=.returned (.int .i64 (fK ns t fG))/\wr=w''):=C1;have D2:Hd (Calls prog 14 #[.slice (some ⟨N,0,none⟩) L c,.int .i64 (t:Nat),.string ⟨#[118,101,114,115,105,111,110]⟩] wr fun e w''=>e=.returned (.int .i64 (fK ns t iI))/\wr=w''):=C2;have D3:Hd (Calls prog 14 #[.slice (some ⟨N,0,none⟩) L c,.int .i64 (t:Nat),.string ⟨#[100,105,103,101,115,116]⟩] wr fun e w''=>e=.returned (.int .i64 (fK ns t iH))/\wr=w''):=C3;have D4:Hd (Calls prog 14 #[.slice (some ⟨N,0,none⟩) L c,.int .i64 (t:Nat),.string ⟨#[110,101,101,100,115]⟩] wr fun e w''=>e=.returned (.int .i64 (fK ns t dY))/\wr=w''):=C4
        obtain⟨ka,hka⟩:∃z,fK ns t fG=z:=⟨_,rfl⟩;obtain⟨kb,hkb⟩:∃z,fK ns t iI=z:=⟨_,rfl⟩;obtain⟨kc,hkc⟩:∃z,fK ns t iH=z:=⟨_,rfl⟩;obtain⟨kd,hkd⟩:∃z,fK ns t dY=z:=⟨_,rfl⟩;rw[hka]at D1;rw[hkb]at D2;rw[hkc]at D3;rw[hkd]at D4;have kF:Hd (fK ns t fG=ka/\fK ns t iI=kb/\fK ns t iH=kc/\fK ns t dY=kd):=⟨hka,hkb,hkc,hkd⟩;have OW:Hd (wr.cell? ⟨N,t*6+5,none⟩=some (.int .i64 (iJ ns t:Nat))):=cq;clear C1 C2 C3 C4 hka hkb hkc hkd ht hcA hg cq Ew;go_wp2_with (go_at_call 14;refine D1.o.mono ?_);rintro e w'' ⟨rfl,rfl⟩;clear cA cg D1;go_wp2_with (go_at_call 14;refine D2.o.mono ?_);rintro e w'' ⟨rfl,rfl⟩;clear D2;go_wp2_with (go_at_call 14;refine D3.o.mono ?_);rintro e w'' ⟨rfl,rfl⟩;clear D3;go_wp2_with (go_at_call 14;refine D4.o.mono ?_);rintro e w'' ⟨rfl,rfl⟩;clear D4
        rcases aeJ (ns:=ns) (t:=t) with⟨a,b,cc,d,ha,hb,hc,hd,hF⟩|⟨hF,hlk⟩
        ·obtain⟨k1,k2,k3,k4⟩:=kF.o;rw[qm ha]at k1;rw[qm hb]at k2;rw[qm hc]at k3;rw[qm hd]at k4;have hal:=uH.o t fG a ha;have hbl:=uH.o t iI b hb;have hcl:=uH.o t iH cc hc;have hdl:=uH.o t dY d hd;have Wp:Hd (d<ns.length):=hdl;have ta:=(oP.o a hal wr rG.o).1;have tb:=(oP.o b hbl wr rG.o).1;have tc:=(oP.o cc hcl wr rG.o).1;obtain⟨An,hAn⟩:∃x,aT ns a=x:=⟨_,rfl⟩;obtain⟨Bn,hBn⟩:∃x,aT ns b=x:=⟨_,rfl⟩;obtain⟨Cn,OX⟩:∃x,aT ns cc=x:=⟨_,rfl⟩;have fH:Hd (ja ns t=⟨An,Bn,Cn,(ae ns d).map (aT ns)⟩):=by
          show _=_;unfold ja kx kl;rw[ha,hb,hc,hd];simp only[hAn,hBn,OX]
         rw[hAn]at ta;rw[hBn]at tb;rw[OX]at tc;rw[HL.o]at hal hbl hcl hdl;have jF:Hd (jJ ns t=true):=hF;have p1:¬(a:Int)<0:=by omega
         have p2:¬(b:Int)<0:=by omega
         have p3:¬(cc:Int)<0:=by omega
         have p4:¬(d:Int)<0:=by omega
         subst k1 k2 k3 k4;clear kF OW ha hb hc hd hF hAn hBn OX;obtain⟨wS,hwS⟩:∃wS,wS=wr:=⟨_,rfl⟩;subst hwS;have ta':(wS.alloc (.cells #[.string ⟨#[]⟩,.string ⟨#[]⟩,.string ⟨#[]⟩,.slice none 0 0] 47)).cell? ⟨N,a*6+2,none⟩=some (.string An):=(World.grownBy_alloc wS _ none).cell ta (by simp);have tb':(wS.alloc (.cells #[.string ⟨#[]⟩,.string ⟨#[]⟩,.string ⟨#[]⟩,.slice none 0 0] 47)).cell? ⟨N,b*6+2,none⟩=some (.string Bn):=(World.grownBy_alloc wS _ none).cell tb (by simp);have tc':(wS.alloc (.cells #[.string ⟨#[]⟩,.string ⟨#[]⟩,.string ⟨#[]⟩,.slice none 0 0] 47)).cell? ⟨N,cc*6+2,none⟩=some (.string Cn):=(World.grownBy_alloc wS _ none).cell tc (by simp);go_upto_region 26 with fail
         go_region
         obtain⟨Y,hY⟩:=zN (wS.heap.size);obtain⟨W,hW⟩:=zN ((wS.alloc (.cells #[.string An,.string Bn,.string Cn,.slice none 0 0] 47)).drew);have aeN:Hd (wS.grownBy W none):=hW ▸ aj (dw (ax wS none) _) 1;have HYW:Hd (W.heap[Y]?=some (.cells #[.string An,.string Bn,.string Cn,.slice none 0 0] 47 (0,0))):=by
          rw[<-hW,<-hY];exact heap_alloc_new _ _
         have oH:Hd (wS.heap.size=Y):=hY;rw[hY,hW];clear hY hW ta tb tc ta' tb' tc';obtain⟨K,hK⟩:=zN (ae ns d);have HK:Hd (ae ns d=K):=hK;obtain⟨M,hM⟩:=zN (K.length);have HM:Hd (K.length=M):=hM;have Ik:M<=1000000:=by rw[<-hM,<-hK];exact(Eg.o d Wp.o wS rG.o).1
         clear hK hM;go_wp2;go_loopw [19] (fun v19 wr=>∃(k:Nat) (nv:Value),v19=.int .i64 (k:Nat)/\k<=M/\wS.grownBy wr none/\wr.heap[Y]?=some (.cells #[.string An,.string Bn,.string Cn,nv] 47 (0,0))/\wr.ownsRow Y 9 1 nv k ((K.take k).map fun q=>.string (aT ns q))) (fun v19 _=>M-(intOf v19).toNat)
         case atStart=>exact⟨0,.slice none 0 0,rfl,Nat.zero_le _,aeN.o,HYW.o,World.ownsRow_nil _ _ _ _⟩
         case round =>
          obtain⟨k,nv,rfl,hk,hg,uX,hrow⟩:=hrel;have IJ:Hd (wS.grownBy wr none):=hg;have OY:Hd (wr.heap[Y]?=some (.cells #[.string An,.string Bn,.string Cn,nv] 47 (0,0))):=uX;obtain⟨o4,c4,hnv⟩:=lL hrow;subst hnv;obtain⟨-,oK,mK,cK,hcK⟩:=Eg.o d Wp.o wr (ah rG.o hg);simp only[HK.o]at hcK;rw[HK.o,HM.o]at cK;have y0:wr.cell? ⟨Y,0,none⟩=some (.string An):=by rw[af uX];rfl
          have y1:wr.cell? ⟨Y,1,none⟩=some (.string Bn):=by rw[af uX];rfl
          have y2:wr.cell? ⟨Y,2,none⟩=some (.string Cn):=by rw[af uX];rfl
          have y3:wr.cell? ⟨Y,3,none⟩=some (.slice o4 k c4):=by rw[af uX];rfl
          have hfz:wr.frozen? ⟨Y,3,none⟩=false:=Lib.frozen_of_heap uX 3;obtain⟨Kz,OZ⟩:=zN (wr.heap.size);have hBY:Y<Kz:=by rw[<-OZ];exact aB uX
          by_cases rD:k<M
          ·have Eh:(k:Int)<(M:Int):=by omega
           have nZ:k<K.length:=by rw[HM.o];exact rD
           obtain⟨gk,rfl,cgk,hzl⟩:=hcK k nZ;have ctx:=(oP.o _ hzl wr (ah rG.o hg)).1;obtain⟨z,hz⟩:=zN (K[k]);obtain⟨TX,eu⟩:∃x,aT ns z=x:=⟨_,rfl⟩;have HZ:Hd ((K.take (k+1)).map (fun q=>Value.string (aT ns q))=(K.take k).map (fun q=>Value.string (aT ns q))++[.string TX]):=by
            show _=_;rw[List.take_succ_eq_append_getElem nZ,List.map_append,hz,<-eu];rfl
           rw[hz]at cgk ctx hzl;rw[eu]at ctx;rw[HL.o]at hzl;obtain⟨ys,hys⟩:=zN ((K.take k).map (fun q=>Value.string (aT ns q)));rw[hys]at hrow HZ;have O0:Hd (wr.ownsRow Y 9 1 (.slice o4 k c4) k ys):=hrow;have dP:Hd (some Y≠(Value.slice o4 k c4).ownBlock):=fun e=>by
            obtain⟨cc,hcc⟩:=(bz hrow e.symm).2;exact aP OY.o hcc (by decide) rfl
           have hone:∀u∈([.string TX]:List Value),u.oneCell'=true:=by simp[Value.oneCell']
           have dQ:Hd ((wr.drew.alloc (.cells #[.string TX] 9)).heap[Kz]?=some (.cells #[.string TX] 9 (0,0))):=by
            have:=heap_alloc_new wr.drew (.cells #[.string TX] 9);rw[show wr.drew.heap.size=Kz from OZ]at this;exact this
           have y3A:(wr.alloc (.cells #[.string TX] 9)).cell? ⟨Y,3,none⟩=some (.slice o4 k c4):=(World.grownBy_alloc wr _ none).cell y3 (by simp);clear hg uX hcK hz eu hys y0 y1 y2;go_upto_region 30 with fail
           go_region_law (refine step_append_lies _ (by rfl) _ _ _ (by rfl) Y 9 j0 _ 1 16 underlying31 hj0 hy0 hy1 hyb (by rfl) (by decide) (.slice o4 k c4) k ys (by rfl) (hrow.drew.alloc _) ⟨Kz,0,none⟩ 1 1 [.string TX] (by rfl) (by rfl) (World.news_of_block dQ.o) hone (by omega) (by unfold maxLen;omega) (by omega) (by simp;omega) _ rfl ?_;intro g cap w3 hown3 hgrow hat hlt3;have hc3:w3.cell? ⟨Y,3,none⟩=some (.slice o4 k c4):=nz y3 hgrow dP.o;have oM:w3.frozen? ⟨Y,3,none⟩=false:=qV OY.o hgrow dP.o)
           all_goals (
            obtain⟨n1,n2,n3⟩:=aeK (Nat.le_of_eq oH.o) IJ.o OY.o O0.o hown3 hgrow;have kL:Hd (wS.grownBy (w3.setCell ⟨Y,3,none⟩ (.slice (some ⟨g,0,none⟩) (k+1) cap)) none/\(w3.setCell ⟨Y,3,none⟩ (.slice (some ⟨g,0,none⟩) (k+1) cap)).heap[Y]?=some (.cells #[.string An,.string Bn,.string Cn,.slice (some ⟨g,0,none⟩) (k+1) cap] 47 (0,0))/\(w3.setCell ⟨Y,3,none⟩ (.slice (some ⟨g,0,none⟩) (k+1) cap)).ownsRow Y 9 1 (.slice (some ⟨g,0,none⟩) (k+1) cap) (k+1) (ys++[.string TX])):=⟨n1,n2,n3⟩;clear n1 n2 n3;go_wp2;refine⟨⟨k+1,.slice (some ⟨g,0,none⟩) (k+1) cap,by go_num,by omega,kL.o.1,kL.o.2.1,by rw[HZ.o];exact kL.o.2.2⟩,?_⟩;simp[intOf];omega)
          ·have Eh:¬(k:Int)<(M:Int):=by omega
           have O3:k=M:=by omega
           have O0:Hd (wr.ownsRow Y 9 1 (.slice o4 k c4) ((ae ns d).map (aT ns)).length (((ae ns d).map (aT ns)).map Value.string)):=by
            have h1:=hrow;rw[O3,<-HM.o,List.take_length,<-HK.o]at h1;rw[O3,<-HM.o,<-HK.o,List.length_map,List.map_map];exact h1
           have HRk:Hd (RnB w1.heap.size wr ((A.take i).map (ja ns)) u11 vs):=OU.o.grow hg;have Wq:Hd (w1.grownBy wr none):=ah rG.o hg;obtain⟨m0,hm0⟩:=zN (((A.take i).map (ja ns)).length);have afQ:m0<=1000000:=by rw[<-hm0,List.length_map,List.length_take];omega
           have HRW:Hd (wr.ownsRow w1.heap.size 47 4 u11 m0 (tV ((A.take i).map (ja ns)) vs)):=by have:=HRk.o.row;rw[hm0]at this;exact this
           have vV:Hd (((A.take i).map (ja ns)).length=m0):=hm0;have hone:∀u∈oW ⟨An,Bn,Cn,(ae ns d).map (aT ns)⟩ (.slice o4 k c4),u.oneCell'=true:=Xp _ _ rfl;have hbs:=Wq.o.size;clear hg uX hcK hrow hm0 hfz rD O3 OZ hBY;go_wp2_with (first|(at_builtin;refine wpList_append_own _ rfl _ _ 26 rfl w1.heap.size 47 i0 (.agg #[.string ⟨#[]⟩,.string ⟨#[]⟩,.string ⟨#[]⟩,.slice none 0 0]) 4 72 underlying26 hi0 hz0 hz1 hzb rfl (by decide) _ _ _ rfl (HRW.o.alloc _) _ 1 1 (oW ⟨An,Bn,Cn,(ae ns d).map (aT ns)⟩ (.slice o4 k c4)) rfl rfl (World.news_of_block (heap_alloc_new _ _)) hone (by unfold maxLen;omega) (by omega) (by simp;omega) ?_;intro v9 w9 hown9 hgrow9 _));have iE:Hd (RnB w1.heap.size w9 ((A.take (i+1)).map (ja ns)) v9 (vs++[.slice o4 k c4])):=by
            have gA:=dw (ax wr none) (.cells #[.string An,.string Bn,.string Cn,.slice o4 k c4] 47);have:=(HRk.o.grow gA).push (x:=ja ns t) (nv:=.slice o4 k c4) (w':=w9) (v':=v9) (by rw[vV.o,fH.o];exact hown9) hgrow9 (by
             rw[fH.o];exact aeL (by have:=oH.o;have:=rG.o.size;omega) ((bf gA).row O0.o))
            rw[List.take_succ_eq_append_getElem hiA,List.map_append,HT.o];exact this
           have DN:Hd (w1.grownBy w9 none):=OL (dw Wq.o _) (HRW.o.alloc _) hgrow9;have aeO:Hd (∀t∈A.take (i+1),jJ ns t=true):=fun t' ht'=>by
            rw[List.take_succ_eq_append_getElem hiA,List.mem_append,List.mem_singleton]at ht'
            rcases ht' with h1|h1
            ·exact o7.o t' h1
            ·rw[h1,HT.o];exact jF.o
           clear hown9 hgrow9;go_wp2;refine⟨⟨i+1,vs++[.slice o4 k c4],by go_num,by omega,iE.o,aeO.o,DN.o⟩,?_⟩;simp[intOf];omega
        ·have HBAD:Hd (R=.error (6,iJ ns t)):=by
          show _=_;rw[HY.o,aeH hiA o7.o (by rw[HT.o];exact hF),HT.o]
         have cq:=OW.o;obtain⟨pq,hpq⟩:=zN (iJ ns t);rw[hpq]at HBAD cq;have hor:ka<0\/(¬ka<0/\kb<0)\/(¬ka<0/\¬kb<0/\kc<0)\/(¬ka<0/\¬kb<0/\¬kc<0/\kd<0):=by
          obtain⟨k1,k2,k3,k4⟩:=kF.o
          rcases hlk with h1|⟨⟨a,h1⟩,h2|⟨⟨b,h2⟩,h3|⟨⟨cc,h3⟩,h4⟩⟩⟩
          ·rw[Ag h1]at k1;exact Or.inl (by omega)
          ·rw[qm h1]at k1;rw[Ag h2]at k2;exact Or.inr (Or.inl (by omega))
          ·rw[qm h1]at k1;rw[qm h2]at k2;rw[Ag h3]at k3;exact Or.inr (Or.inr (Or.inl (by omega)))
          ·rw[qm h1]at k1;rw[qm h2]at k2;rw[qm h3]at k3;rw[Ag h4]at k4;exact Or.inr (Or.inr (Or.inr (by omega)))
         clear hF hlk hpq kF OW
         rcases hor with h1|⟨h1,h2⟩|⟨h1,h2,h3⟩|⟨h1,h2,h3,h4⟩
         all_goals (
          go_wp2;go_quiet (fail);go_wp2;refine bodyPost_ret (results_tmp3 (t:=2) (u:=3) (v:=4) rfl _ _ _) rfl ?_;rw[HBAD.o];exact Ej (aj (ah ay.o rG.o) nq))
       ·have hin:i=n:=by omega
        have Ws:Hd (RnB w1.heap.size wr (A.map (ja ns)) u11 vs):=by
         have:=OU.o;rw[hin,<-HN.o,List.take_length]at this;exact this
        have Wu:Hd (∀t∈A,jJ ns t=true):=by
         have:=o7.o;rw[hin,<-HN.o,List.take_length]at this;exact this
        obtain⟨F,hF⟩:=zN ((A.flatMap (kl ns)).find? (fun y=>!aZ (A.map (ja ns)) (aT ns y)));have HRR:Hd (R=OO ns A F):=by
         show _=_;rw[HY.o,aeI Wu.o,hF]
        have CW:Hd (Calls prog 15 #[.slice (some ⟨N,0,none⟩) L c,.int .i64 (p:Nat),u11] wr fun e w'=>∃v z q,e=.returned (.tuple #[v,z,q])/\Hd ((∀y,F=some y->e=.returned (.tuple #[.slice none 0 0,.int .i64 6,.int .i64 (iJ ns y:Nat)]))/\(F=none->e=.returned (.tuple #[u11,.int .i64 0,.int .i64 0]))/\wr.grownBy w' none)):=by
         have:=aeo wr N c ns (HD.o.grow hg) p Wn.o u11 (A.map (ja ns)) Ws.o.ens (by rw[HA.o]) (fun t ht=>by
          have h1:=Wu.o t (by rw[<-HA.o];exact ht);unfold jJ at h1;simp only[Bool.and_eq_true]at h1;exact h1.2) F (by rw[HA.o];exact hF)
         rw[HL.o]at this;refine this.mono fun e w' hh=>?_
         rcases F with _|y
         ·exact⟨_,_,_,hh.2.1 rfl,hh⟩
         ·exact⟨_,_,_,hh.1 y rfl,hh⟩
        clear hcA hg hF hin OU o7;go_wp2_with (go_at_call 15;refine CW.o.mono ?_;rintro e w9 ⟨v9,z9,q9,rfl,h9⟩);refine bodyPost_ret (results_tmp3 (t:=2) (u:=3) (v:=4) rfl _ _ _) rfl ?_
        rcases F with _|y
        ·have he:=h9.o.2.1 rfl;rw[HRR.o];show yI w _ (.returned (.tuple #[v9,z9,q9])) w9;rw[he];exact V7 ((Ws.o.grow h9.o.2.2).up ay.o.size) (ah ay.o (ah rG.o h9.o.2.2))
        ·have he:=h9.o.1 y rfl;rw[HRR.o];show yI w _ (.returned (.tuple #[v9,z9,q9])) w9;rw[he];exact Ej (ah ay.o (ah rG.o h9.o.2.2))
end Go.Proofs.YtnnbgjaphfhibaaGreatDoor
