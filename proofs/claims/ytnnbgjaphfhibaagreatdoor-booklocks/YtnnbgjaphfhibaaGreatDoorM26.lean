import Derived.Test.YtnnbgjaphfhibaaGreatDoorM25
import Derived.Test.YtnnbgjaphfhibaaGreatDoorM24
set_option linter.unusedVariables false
set_option linter.unusedSimpArgs false
set_option maxRecDepth 100000
set_option maxHeartbeats 6400000
open Go.Proofs.Tryz
namespace Go.Proofs.YtnnbgjaphfhibaaGreatDoor
open Go.RowKit Go.Maps Go.WideMaps Go.Joins
theorem aei{x:Tn}{is:ByteArray->Bool}(h3:x.kd=3):takeD x is=if is (dn x)=true then 0 else 2:=by unfold takeD;rw[if_neg (by simpa using h3)]
theorem VV(w:World)(x:Tn)(o:Option Addr)(m c:Nat)(what:Int)(is:ByteArray->Bool)(hw:(what=0/\is=nameB)\/(what=1/\is=okV)\/(what=2/\is=pF))(htx:x.tx.length<=100000) :
  Calls prog 57 #[.agg (dL x (.slice o m c)),.int .i64 what] w fun e w'=>e=.returned (.int .i64 (takeD x is))/\w.grownBy w' none:=by
 obtain⟨kd,ky,tx,nu,ks,pl⟩:=x;unfold dL;simp only[]at htx ⊢;have hsz:(⟨tx.toArray⟩:ByteArray).size<=100000:=by
  show tx.toArray.size<=_;rw[List.size_toArray];exact htx
 obtain⟨TX,eu⟩:∃t:ByteArray,⟨tx.toArray⟩=t:=⟨_,rfl⟩;have nI:Hd ((⟨tx.toArray⟩:ByteArray)=TX):=eu;rw[eu]at hsz ⊢;obtain⟨W,hW⟩:=zN (w.alloc (.cells #[.int .i64 kd,.string ⟨ky.toArray⟩,.string TX,.int .i64 nu,.slice o m c,.int .i64 (pl:Nat)] 45));have HG:Hd (w.grownBy W none):=hW ▸ dw (ax w none) _;have hB:W.heap[w.heap.size]?=some (.cells #[.int .i64 kd,.string ⟨ky.toArray⟩,.string TX,.int .i64 nu,.slice o m c,.int .i64 (pl:Nat)] 45 (0,0)):=by rw[<-hW];exact heap_alloc_new _ _
 have c0:W.cell? ⟨w.heap.size,0,none⟩=some (.int .i64 kd):=by rw[af hB];rfl
 have c2:W.cell? ⟨w.heap.size,2,none⟩=some (.string TX):=by rw[af hB];rfl
 have CN:Hd (Calls prog 85 #[.string TX] W fun e w'=>e=.returned (.bool (nameB TX))/\Hd (W.grownBy w' none)):=(XE TX W (by omega)).mono fun e w' h=>⟨h.1,h.2 ▸ ax _ none⟩
 have CV:Hd (Calls prog 86 #[.string TX] W fun e w'=>e=.returned (.bool (okV TX))/\Hd (W.grownBy w' none)):=Yo TX W (by omega);have CD:Hd (Calls prog 87 #[.string TX] W fun e w'=>e=.returned (.bool (pF TX))/\Hd (W.grownBy w' none)):=(XB TX W (by unfold maxLen;omega)).mono fun e w' h=>⟨h.1,h.2 ▸ ax _ none⟩
 clear hB hsz
 by_cases h3:kd=3
 ·obtain⟨z,hz⟩:=zN (takeD ⟨kd,ky,tx,nu,ks,pl⟩ is);have HZ:Hd ((is TX=true->z=0)/\(is TX=false->z=2)):=by
   have:=aei (x:=⟨kd,ky,tx,nu,ks,pl⟩) (is:=is) h3;rw[hz,show dn ⟨kd,ky,tx,nu,ks,pl⟩=TX from eu]at this;exact⟨fun h=>by rw[this,if_pos h],fun h=>by rw[this,if_neg (by rw[h];decide)]⟩
  rw[hz];subst h3;clear hz eu htx
  rcases hw with⟨rfl,rfl⟩|⟨rfl,rfl⟩|⟨rfl,rfl⟩
  ·go_enter func57,ntmps57;go_wp2_with (go_at_call 85;refine CN.o.mono ?_);rintro e w2 ⟨rfl,hg2⟩
   cases hb:nameB TX with
   | true=>go_wp2;go_ret;exact⟨dD (HZ.o.1 hb).symm,ah HG.o hg2.o⟩
   | false=>go_wp2;go_ret;exact⟨dD (HZ.o.2 hb).symm,ah HG.o hg2.o⟩
  ·go_enter func57,ntmps57;go_wp2_with (go_at_call 86;refine CV.o.mono ?_);rintro e w2 ⟨rfl,hg2⟩
   cases hb:okV TX with
   | true=>go_wp2;go_ret;exact⟨dD (HZ.o.1 hb).symm,ah HG.o hg2.o⟩
   | false=>go_wp2;go_ret;exact⟨dD (HZ.o.2 hb).symm,ah HG.o hg2.o⟩
  ·go_enter func57,ntmps57;go_wp2_with (go_at_call 87;refine CD.o.mono ?_);rintro e w2 ⟨rfl,hg2⟩
   cases hb:pF TX with
   | true=>go_wp2;go_ret;exact⟨dD (HZ.o.1 hb).symm,ah HG.o hg2.o⟩
   | false=>go_wp2;go_ret;exact⟨dD (HZ.o.2 hb).symm,ah HG.o hg2.o⟩
 ·have hb:(kd != 3)=true:=by simpa using h3
  have hz:takeD ⟨kd,ky,tx,nu,ks,pl⟩ is=7:=by unfold takeD;rw[if_pos h3]
  rw[hz];clear hz eu htx hw;go_enter func57,ntmps57;go_wp2;go_ret;exact⟨rfl,HG.o⟩
theorem VW{α:Type}(p:α->Bool)(l:List α)(k:Nat)(hk:k<l.length):(l.take (k+1)).any p=((l.take k).any p || p l[k]):=by
 rw[List.take_succ_eq_append_getElem hk,List.any_append];simp
theorem Ov:∀(l:List Nat) (n:Nat),n∈l->∃h:(dV l n).length<l.length,l[(dV l n).length]=n/\dV l n=l.take (dV l n).length/\∀j (hj:j<l.length),j<(dV l n).length->¬l[j]=n
 | a :: r,n,hm=>by
  by_cases e:a=n
  ·have h0:dV (a :: r) n=[]:=by unfold dV;rw[List.takeWhile_cons,decide_eq_false (by simpa using e)];rfl
   simp only[h0,List.length_nil,List.take_zero,true_and];exact⟨by simp,by simpa using e,fun j hj hlt=>absurd hlt (by omega)⟩
  ·have hr:n∈r:=by rcases List.mem_cons.1 hm with h|h;exact absurd h.symm e;exact h
   obtain⟨h1,h2,h3,h4⟩:=Ov r n hr;have h0:dV (a :: r) n=a :: dV r n:=by unfold dV;rw[List.takeWhile_cons,decide_eq_true (by simpa using e)];rfl
   simp only[h0,List.length_cons,List.take_succ_cons];refine⟨by omega,by simpa using h2,by rw[<-h3],fun j hj hlt=>?_⟩
   cases j with
   | zero=>simpa using e
   | succ j=>simpa using h4 j (by simpa using hj) (by omega)
theorem aej(w:World)(N c:Nat)(ns:List Tn)(h:Dc w N c ns)(al t i:Nat)(hi:i<ns.length)(ht:t∈ae ns al) :
  Calls prog 33 #[.slice (some ⟨N,0,none⟩) ns.length c,.int .i64 (al:Nat),.int .i64 (t:Nat),.int .i64 (i:Nat)] w fun e w'=>e=.returned (.int .i64 (mF ns al t ns[i]))/\w.grownBy w' none:=by
 have HD:Hd (Dc w N c ns):=h;obtain⟨S,T⟩:=h.tv;have hal:=xP ht;have nX:ae ns al=(ns[al]'hal).ks:=by unfold ae;rw[List.getElem?_eq_getElem hal]
 obtain⟨hK,hK1,hK2,hK3⟩:=Ov (ae ns al) t ht;obtain⟨K,jg⟩:=zN ((dV (ae ns al) t).length);have HA:Hd ((dV (ae ns al) t).length=K/\K<(ae ns al).length/\(∀h:K<(ae ns al).length,(ae ns al)[K]=t)/\dV (ae ns al) t=(ae ns al).take K/\(∀j (hj:j<(ae ns al).length),j<K->¬(ae ns al)[j]=t)):=by
  subst jg;exact⟨rfl,hK,fun _=>hK1,hK2,hK3⟩
 have cZ:Hd (∀k (hk:k<(ae ns al).length),(ae ns al)[k]<ns.length):=fun k hk=>T.lt al _ (List.getElem_mem hk)
 have lm:Hd (∀w',w.grownBy w' none->∃oA mA,w'.cell? ⟨N,al*6+4,none⟩=some (.slice oA (ae ns al).length mA)/\∀k (hk:k<(ae ns al).length),∃g,oA=some ⟨g,0,none⟩/\w'.cell? ⟨g,k,none⟩=some (.int .i64 ((ae ns al)[k]:Nat))):=fun w' hg=>by
  obtain⟨o,m,-,-,-,-,h4,-,o',m',e,hn⟩:=(h.grow hg).node hal;rw[<-nX]at h4 e hn;refine⟨o,m,h4,fun k hk=>?_⟩;injection e with e _ _
  rw[e];exact hn k hk
 have hAl:(ae ns al).length<=1000000:=by rw[nX];exact h.kid al hal
 have CK:Hd (∀q,q<ns.length->∀w',w.grownBy w' none->Calls prog 14 #[.slice (some ⟨N,0,none⟩) ns.length c,.int .i64 (q:Nat),.string ⟨#[110,97,109,101]⟩] w' fun e w''=>e=.returned (.int .i64 (fK ns q fG))/\w'=w''):=fun q hq w' hg=>((h.grow hg).cKid q hq fG).mono fun e w'' hh=>⟨hh.1,hh.2.symm⟩
 have oP:Hd (∀q (hq:q<ns.length),∀w',w.grownBy w' none->w'.cell? ⟨N,q*6+2,none⟩=some (.string (aT ns q))):=fun q hq w' hg=>by
  obtain⟨-,-,-,-,h2,-⟩:=(h.grow hg).node hq;show _=_;unfold aT;rw[List.getElem?_eq_getElem hq];exact h2
 obtain⟨o,m,e0,e1,e2,e3,e4,e5,-⟩:=h.node hi;have htx:=(T.txt _ (List.getElem_mem hi)).2.1;obtain⟨x,hx⟩:=zN (ns[i]);rw[hx]at e0 e1 e2 e3 e4 e5 htx ⊢;have hc:=h.cap;have hl:=h.len;obtain⟨L,hL⟩:=zN (ns.length);have HL:Hd (ns.length=L):=hL;have CP:Hd (∀w' (what:Int) (is:ByteArray->Bool),((what=0/\is=nameB)\/(what=1/\is=okV)\/(what=2/\is=pF))->Calls prog 57 #[.agg (dL x (.slice o x.ks.length m)),.int .i64 what] w' fun e w''=>e=.returned (.int .i64 (takeD x is))/\Hd (w'.grownBy w'' none)):=fun w' what is hw=>VV w' x o _ m what is hw htx
 obtain⟨R,hR⟩:=zN (mF ns al t x);have HR:Hd (mF ns al t x=R):=hR;rw[hR];obtain⟨kd,ky,tx,nu,ks,pl⟩:=x;obtain⟨KY,iC⟩:∃t:ByteArray,⟨ky.toArray⟩=t:=⟨_,rfl⟩;obtain⟨TX,eu⟩:∃t:ByteArray,⟨tx.toArray⟩=t:=⟨_,rfl⟩;have eP:Hd ((⟨ky.toArray⟩:ByteArray)=KY):=iC;have nI:Hd (dn ⟨kd,ky,tx,nu,ks,pl⟩=TX):=eu;obtain⟨M,hM⟩:=zN (ks.length);unfold dL at CP;simp only[]at e0 e1 e2 e3 e4 e5 CP;rw[hL]at hi hal hc hl CK ⊢;rw[iC,hM]at CP;rw[eu]at CP e2;rw[iC]at e1;rw[hM]at e4;obtain⟨bx,hbx⟩:=zN (w.heap.size);obtain⟨W,hW⟩:=zN (w.alloc (.cells #[.int .i64 kd,.string KY,.string TX,.int .i64 nu,.slice o M m,.int .i64 (pl:Nat)] 45));have HG:Hd (w.grownBy W none):=hW ▸ dw (ax w none) _;have hB:W.heap[bx]?=some (.cells #[.int .i64 kd,.string KY,.string TX,.int .i64 nu,.slice o M m,.int .i64 (pl:Nat)] 45 (0,0)):=by rw[<-hW,<-hbx];exact heap_alloc_new _ _
 have b0:W.cell? ⟨bx,0,none⟩=some (.int .i64 kd):=by rw[af hB];rfl
 have b1:W.cell? ⟨bx,1,none⟩=some (.string KY):=by rw[af hB];rfl
 have b2:W.cell? ⟨bx,2,none⟩=some (.string TX):=by rw[af hB];rfl
 have b3:W.cell? ⟨bx,3,none⟩=some (.int .i64 nu):=by rw[af hB];rfl
 have b4:W.cell? ⟨bx,4,none⟩=some (.slice o M m):=by rw[af hB];rfl
 have b5:W.cell? ⟨bx,5,none⟩=some (.int .i64 (pl:Nat)):=by rw[af hB];rfl
 have HW:Hd (w.alloc (.cells #[.int .i64 kd,.string KY,.string TX,.int .i64 nu,.slice o M m,.int .i64 (pl:Nat)] 45)=W/\w.heap.size=bx):=⟨hW,hbx⟩;have VY:=CP.o W 0 nameB (Or.inl ⟨rfl,rfl⟩);have uw:=CP.o W 1 okV (Or.inr (Or.inl ⟨rfl,rfl⟩));have xq:=CP.o W 2 pF (Or.inr (Or.inr ⟨rfl,rfl⟩));have tC:Hd (Calls prog 57 #[.agg #[.int .i64 kd,.string KY,.string TX,.int .i64 nu,.slice o M m,.int .i64 (pl:Nat)],.int .i64 0] W fun e w''=>e=.returned (.int .i64 (takeD ⟨kd,ky,tx,nu,ks,pl⟩ nameB))/\Hd (W.grownBy w'' none)):=VY;have lG:Hd (Calls prog 57 #[.agg #[.int .i64 kd,.string KY,.string TX,.int .i64 nu,.slice o M m,.int .i64 (pl:Nat)],.int .i64 1] W fun e w''=>e=.returned (.int .i64 (takeD ⟨kd,ky,tx,nu,ks,pl⟩ okV))/\Hd (W.grownBy w'' none)):=uw;have HC2:Hd (Calls prog 57 #[.agg #[.int .i64 kd,.string KY,.string TX,.int .i64 nu,.slice o M m,.int .i64 (pl:Nat)],.int .i64 2] W fun e w''=>e=.returned (.int .i64 (takeD ⟨kd,ky,tx,nu,ks,pl⟩ pF))/\Hd (W.grownBy w'' none)):=xq
 clear h T nX hK hK1 hK2 hK3 jg hR hx hL iC eu hM hB hbx hW CP VY uw xq htx ht
 by_cases k1:ky=fG
 ·have hb1:(KY.toList == [110,97,109,101])=true:=(jr eP.o).1 k1;obtain⟨z0,hz0⟩:=zN (takeD ⟨kd,ky,tx,nu,ks,pl⟩ nameB);rw[hz0]at tC;have HR1:Hd (R=if z0=0 then(if(dV (ae ns al) t).any (kC ns TX)=true then 5 else 0) else z0):=by
   show _=_;rw[<-HR.o];unfold mF;rw[if_pos k1,hz0,nI.o]
  clear k1 hz0 HR lG HC2;go_enter func33,ntmps33;go_upto_region 2 with fail
  try rw[HW.o.1]
  try rw[HW.o.2]
  go_wp2_with (go_at_call 57;refine tC.o.mono ?_);rintro e w2 ⟨rfl,hg2⟩;have HG2:Hd (w.grownBy w2 none):=ah HG.o hg2.o;have b22:=hg2.o.cell b2 (by simp);have HB2:Hd (w2.cell? ⟨bx,2,none⟩=some (.string TX)):=b22;clear b0 b1 b2 b3 b4 b5 e0 e1 e2 e3 e4 e5 hg2 b22 HG tC
  by_cases hz:z0=0
  ·subst hz;go_wp2;go_loopw [10,11] (fun v10 v11 wr=>∃k:Nat,v11=.int .i64 (k:Nat)/\k<=K/\((v10=.int .i64 0/\((ae ns al).take k).any (kC ns TX)=false)\/(v10=.int .i64 5/\((ae ns al).take K).any (kC ns TX)=true))/\w.grownBy wr none/\wr.cell? ⟨bx,2,none⟩=some (.string TX)) (fun v10 v11 _=>if intOf v10=0 then K-(intOf v11).toNat+1 else 0)
   case atStart=>exact⟨0,rfl,Nat.zero_le _,Or.inl ⟨rfl,rfl⟩,HG2.o,HB2.o⟩
   case round =>
    obtain⟨k,rfl,hk,hv,hg,hb2⟩:=hrel;have nY:Hd (w.grownBy wr none):=hg;have Oy:Hd (wr.cell? ⟨bx,2,none⟩=some (.string TX)):=hb2
    rcases hv with⟨rfl,hno⟩|⟨rfl,hyes⟩
    ·have qL:Hd (((ae ns al).take k).any (kC ns TX)=false):=hno;obtain⟨oA,mA,cA,hA⟩:=lm.o wr hg;have hkl:k<(ae ns al).length:=Nat.lt_of_le_of_lt hk HA.o.2.1;obtain⟨g,rfl,cg⟩:=hA k hkl;obtain⟨q,hq⟩:=zN ((ae ns al)[k]);obtain⟨lA,hlA⟩:=zN ((ae ns al).length);have HQ:Hd ((ae ns al)[k]=q):=hq;have dN:=cZ.o k hkl;have aek:lA<=1000000:=by rw[<-hlA];exact hAl
     have hkl':k<lA:=by rw[<-hlA];exact hkl
     rw[hq]at cg;rw[hlA]at cA;rw[hq,HL.o]at dN;have zn:Hd (q<L):=dN
     by_cases nZ:k=K
     ·have jX:q=t:=by rw[<-hq];subst nZ;exact HA.o.2.2.1 hkl
      have hb:((q:Int) != (t:Int))=false:=by rw[jX];simp
      have HF:Hd (R=0):=by
       show _=_;rw[HR1.o,if_pos (by trivial),HA.o.2.2.2.1,<-nZ,qL.o];rfl
      clear hno hg hb2 hA hq nZ jX hlA hAl;go_wp2;go_ret;exact⟨dD HF.o.symm,nY.o⟩
     ·have jX:¬q=t:=by rw[<-hq];exact HA.o.2.2.2.2 k hkl (by omega)
      have hb:((q:Int) != (t:Int))=true:=by simpa using(show ¬(q:Int)=(t:Int) by omega)
      have ael:k<K:=by omega
      have HST:Hd (((ae ns al).take (k+1)).any (kC ns TX)=kC ns TX q):=by
       show _=_;rw[VW _ _ _ hkl,qL.o,Bool.false_or,HQ.o]
      have IG:Hd (kC ns TX q=true->((ae ns al).take K).any (kC ns TX)=true):=fun hh=>by
       rw[List.any_eq_true];exact⟨q,List.mem_take_iff_getElem.2 ⟨k,by omega,HQ.o⟩,hh⟩
      have uU:=CK.o q dN wr hg
      cases hko:ai ns q fG with
      | none =>
       have hx0:kC ns TX q=false:=by unfold kC;rw[hko]
       have yH:Hd (Calls prog 14 #[.slice (some ⟨N,0,none⟩) L c,.int .i64 (q:Nat),.string ⟨#[110,97,109,101]⟩] wr fun e w''=>e=.returned (.int .i64 (-1))/\wr=w''):=uU.mono fun e w'' hh=>by
        refine⟨?_,hh.2⟩;rw[hh.1];unfold fK;rw[hko]
       have iE:Hd (((ae ns al).take (k+1)).any (kC ns TX)=false):=by show _=_;rw[HST.o,hx0]
       clear hno hg hb2 hA hq nZ jX hlA hAl hko hx0 uU HST IG;go_wp2_with (go_at_call 14;refine yH.o.mono ?_;rintro e w'' ⟨rfl,rfl⟩);go_quiet (fail);go_wp2;refine⟨⟨k+1,by go_num,by omega,Or.inl ⟨rfl,iE.o⟩,aj nY.o nq,(aj (ax wr none) nq).cell Oy.o (by simp)⟩,?_⟩;simp[intOf];omega
      | some y =>
       have hyl:y<ns.length:=HD.o.tv.choose_spec.lt _ _ (iY hko).1;have hx0:kC ns TX q=decide (aT ns y=TX):=by unfold kC;rw[hko]
       have cy:=oP.o y hyl wr hg;rw[HL.o]at hyl;have yH:Hd (Calls prog 14 #[.slice (some ⟨N,0,none⟩) L c,.int .i64 (q:Nat),.string ⟨#[110,97,109,101]⟩] wr fun e w''=>e=.returned (.int .i64 (y:Nat))/\wr=w''):=uU.mono fun e w'' hh=>by
        refine⟨?_,hh.2⟩;rw[hh.1];unfold fK;rw[hko]
       obtain⟨Y,hY⟩:=zN (aT ns y);rw[hY]at cy hx0;have hyg:decide ((y:Int) ≥ 0)=true:=by simp
       by_cases hYT:Y=TX
       ·have hs:(Y.toList == TX.toList)=true:=by rw[hYT];simp
        have FN:Hd (((ae ns al).take K).any (kC ns TX)=true):=IG.o (by rw[hx0];exact decide_eq_true hYT);clear hno hg hA hq nZ jX hlA hAl hko hx0 uU HST IG hY hYT;go_wp2_with (go_at_call 14;refine yH.o.mono ?_;rintro e w'' ⟨rfl,rfl⟩);go_quiet (fail);go_wp2;refine⟨⟨k+1,by go_num,by omega,Or.inr ⟨rfl,FN.o⟩,aj nY.o nq,(aj (ax wr none) nq).cell Oy.o (by simp)⟩,?_⟩;simp[intOf]
       ·have hs:(Y.toList == TX.toList)=false:=Ee hYT;have iE:Hd (((ae ns al).take (k+1)).any (kC ns TX)=false):=by show _=_;rw[HST.o,hx0];exact decide_eq_false hYT
        clear hno hg hA hq nZ jX hlA hAl hko hx0 uU HST IG hY hYT;go_wp2_with (go_at_call 14;refine yH.o.mono ?_;rintro e w'' ⟨rfl,rfl⟩);go_quiet (fail);go_wp2;refine⟨⟨k+1,by go_num,by omega,Or.inl ⟨rfl,iE.o⟩,aj nY.o nq,(aj (ax wr none) nq).cell Oy.o (by simp)⟩,?_⟩;simp[intOf];omega
    ·have HF:Hd (R=5):=by
      show _=_;rw[HR1.o,if_pos (by trivial),HA.o.2.2.2.1,if_pos hyes]
     clear hyes hg hb2 hAl;go_wp2;go_ret;exact⟨dD HF.o.symm,nY.o⟩
  ·have hb:(z0 == 0)=false:=by simpa using hz
   have HF:Hd (R=z0):=by show _=_;rw[HR1.o,if_neg hz]
   clear hAl;go_wp2;go_loopw [10,11] (fun v10 v11 wr=>v10=.int .i64 z0/\v11=.int .i64 0/\w.grownBy wr none) (fun _ _ _=>0)
   case atStart=>exact⟨rfl,rfl,HG2.o⟩
   case round =>
    obtain⟨rfl,rfl,hg⟩:=hrel;have nY:Hd (w.grownBy wr none):=hg;clear hg hz;go_wp2;go_ret;exact⟨dD HF.o.symm,nY.o⟩
 ·have hb1:(KY.toList == [110,97,109,101])=false:=(jr eP.o).2 k1;clear hAl
  by_cases k2:ky=iI
  ·have hb2:(KY.toList == [118,101,114,115,105,111,110])=true:=(jr eP.o).1 k2;have HF:Hd (takeD ⟨kd,ky,tx,nu,ks,pl⟩ okV=R):=by
    show _=_;rw[<-HR.o];unfold mF;rw[if_neg k1,if_pos k2]
   rw[HF.o]at lG;clear k1 k2 HR tC HC2;go_enter func33,ntmps33;go_upto_region 2 with fail
   try rw[HW.o.1]
   try rw[HW.o.2]
   go_wp2_with (go_at_call 57;refine lG.o.mono ?_;rintro e w2 ⟨rfl,hg2⟩);go_ret;exact⟨rfl,ah HG.o hg2.o⟩
  ·have hb2:(KY.toList == [118,101,114,115,105,111,110])=false:=(jr eP.o).2 k2
   by_cases k3:ky=iH
   ·have hb3:(KY.toList == [100,105,103,101,115,116])=true:=(jr eP.o).1 k3;have HF:Hd (takeD ⟨kd,ky,tx,nu,ks,pl⟩ pF=R):=by
     show _=_;rw[<-HR.o];unfold mF;rw[if_neg k1,if_neg k2,if_pos k3]
    rw[HF.o]at HC2;clear k1 k2 k3 HR tC lG;go_enter func33,ntmps33;go_upto_region 2 with fail
    try rw[HW.o.1]
    try rw[HW.o.2]
    go_wp2_with (go_at_call 57;refine HC2.o.mono ?_;rintro e w2 ⟨rfl,hg2⟩);go_ret;exact⟨rfl,ah HG.o hg2.o⟩
   ·have hb3:(KY.toList == [100,105,103,101,115,116])=false:=(jr eP.o).2 k3;have vS:Hd (R=if ky=dY/\kd=1 then 0 else 7):=by
     show _=_;rw[<-HR.o];unfold mF;rw[if_neg k1,if_neg k2,if_neg k3]
    by_cases k4:ky=dY
    ·have hb4:(KY.toList == [110,101,101,100,115])=true:=(jr eP.o).1 k4
     by_cases k5:kd=1
     ·have hb5:(kd == 1)=true:=by simpa using k5
      have HF:Hd (R=0):=by show _=_;rw[vS.o,if_pos ⟨k4,k5⟩]
      clear k1 k2 k3 k4 k5 HR tC lG HC2 vS;go_enter func33,ntmps33;go_upto_region 2 with fail
      try rw[HW.o.1]
      try rw[HW.o.2]
      go_wp2;go_ret;exact⟨dD HF.o.symm,HG.o⟩
     ·have hb5:(kd == 1)=false:=by simpa using k5
      have HF:Hd (R=7):=by show _=_;rw[vS.o,if_neg (fun h=>k5 h.2)]
      clear k1 k2 k3 k4 k5 HR tC lG HC2 vS;go_enter func33,ntmps33;go_upto_region 2 with fail
      try rw[HW.o.1]
      try rw[HW.o.2]
      go_wp2;go_ret;exact⟨dD HF.o.symm,HG.o⟩
    ·have hb4:(KY.toList == [110,101,101,100,115])=false:=(jr eP.o).2 k4;have HF:Hd (R=7):=by show _=_;rw[vS.o,if_neg (fun h=>k4 h.1)]
     clear k1 k2 k3 k4 HR tC lG HC2 vS;go_enter func33,ntmps33;go_upto_region 2 with fail
     try rw[HW.o.1]
     try rw[HW.o.2]
     go_wp2;go_ret;exact⟨dD HF.o.symm,HG.o⟩
open Go.RowKit Go.Maps Go.WideMaps Go.Joins
theorem aem{A:List Nat}{f:Nat->List Nat}{P:Nat->Bool}{i:Nat}(hi:i<A.length){k:Nat}(hk:k<(f A[i]).length)(h1:∀y∈(A.take i).flatMap f,P y=false)(h2:∀j (hj:j<(f A[i]).length),j<k->P (f A[i])[j]=false)(h3:P (f A[i])[k]=true):(A.flatMap f).find? P=some (f A[i])[k]:=by
 have hA:A.flatMap f=(A.take i).flatMap f++(f A[i]++(A.drop (i+1)).flatMap f):=by
  conv=>lhs;rw[<-List.take_append_drop i A,List.drop_eq_getElem_cons hi,List.flatMap_append,List.flatMap_cons]
 have e1:((A.take i).flatMap f).find? P=none:=by rw[List.find?_eq_none];intro y hy;rw[h1 y hy];simp
 rw[hA,List.find?_append,e1,Option.none_or,List.find?_append,Hy P _ k hk h2 h3];rfl
theorem aen{A:List Nat}{f:Nat->List Nat}{P:Nat->Bool}{i:Nat}(hi:i<A.length)(h1:∀y∈(A.take i).flatMap f,P y=false)(h2:∀j (hj:j<(f A[i]).length),P (f A[i])[j]=false):∀y∈(A.take (i+1)).flatMap f,P y=false:=fun y hy=>by
 rw[List.take_succ_eq_append_getElem hi,List.flatMap_append,List.mem_append,List.flatMap_singleton]at hy
 rcases hy with hy|hy
 ·exact h1 y hy
 ·obtain⟨j,hj,rfl⟩:=List.getElem_of_mem hy;exact h2 j hj
theorem aeo(w:World)(N c:Nat)(ns:List Tn)(h:Dc w N c ns)(p:Nat)(hp:p<ns.length)(vo:Value)(es:List En)(hE:EnS w vo es)(hes:es=(ae ns p).map (ja ns))(hF:∀t∈ae ns p,(ai ns t dY).isSome=true)(F:Option Nat)(hFF:((ae ns p).flatMap (kl ns)).find? (fun y=>!aZ es (aT ns y))=F) :
  Calls prog 15 #[.slice (some ⟨N,0,none⟩) ns.length c,.int .i64 (p:Nat),vo] w fun e w'=>(∀y,F=some y->e=.returned (.tuple #[.slice none 0 0,.int .i64 6,.int .i64 (iJ ns y:Nat)]))/\(F=none->e=.returned (.tuple #[vo,.int .i64 0,.int .i64 0]))/\w.grownBy w' none:=by
 obtain⟨S,T⟩:=h.tv;have nX:ae ns p=(ns[p]'hp).ks:=by unfold ae;rw[List.getElem?_eq_getElem hp]
 have hel:es.length=(ae ns p).length:=by rw[hes,List.length_map]
 have hAl:(ae ns p).length<=1000000:=by rw[nX];exact h.kid p hp
 obtain⟨A,hA⟩:=zN (ae ns p);have cZ:Hd (∀k (hk:k<A.length),A[k]<ns.length):=fun k hk=>T.lt p _ (by rw[hA];exact List.getElem_mem hk)
 have lm:Hd (∀w',w.grownBy w' none->∃oA mA,w'.cell? ⟨N,p*6+4,none⟩=some (.slice oA A.length mA)/\∀k (hk:k<A.length),∃g,oA=some ⟨g,0,none⟩/\w'.cell? ⟨g,k,none⟩=some (.int .i64 (A[k]:Nat))):=fun w' hg=>by
  obtain⟨o,m,-,-,-,-,h4,-,o',m',e,hn⟩:=(h.grow hg).node hp;rw[<-nX,hA]at h4 e hn;refine⟨o,m,h4,fun k hk=>?_⟩;injection e with e _ _
  rw[e];exact hn k hk
 have DX:Hd (∀k (hk:k<A.length),∃y,ai ns A[k] dY=some y/\y<ns.length/\kl ns A[k]=ae ns y):=fun k hk=>by
  have:=hF A[k] (by rw[hA];exact List.getElem_mem hk);obtain⟨y,hy⟩:=Option.isSome_iff_exists.1 this;exact⟨y,hy,T.lt _ _ (iY hy).1,by unfold kl;rw[hy]⟩
 have Eg:Hd (∀y (hy:y<ns.length),∀w',w.grownBy w' none->∃oA mA,w'.cell? ⟨N,y*6+4,none⟩=some (.slice oA (ae ns y).length mA)/\∀k (hk:k<(ae ns y).length),∃g,oA=some ⟨g,0,none⟩/\w'.cell? ⟨g,k,none⟩=some (.int .i64 ((ae ns y)[k]:Nat))/\(ae ns y)[k]<ns.length/\w'.cell? ⟨N,(ae ns y)[k]*6+5,none⟩=some (.int .i64 (iJ ns (ae ns y)[k]:Nat))):=fun y hy w' hg=>by
  have hky:ae ns y=(ns[y]'hy).ks:=by unfold ae;rw[List.getElem?_eq_getElem hy]
  obtain⟨o,m,-,-,-,-,h4,-,o',m',e,hn⟩:=(h.grow hg).node hy;rw[<-hky]at h4 e hn;refine⟨o,m,h4,fun k hk=>?_⟩;injection e with e _ _
  rw[e];obtain⟨g,g1,g2⟩:=hn k hk;have hl:=T.lt y _ (List.getElem_mem hk);obtain⟨-,-,-,-,-,-,-,h5,-⟩:=(h.grow hg).node hl;refine⟨g,g1,g2,hl,?_⟩;unfold iJ;rw[List.getElem?_eq_getElem hl];exact h5
 have qO:Hd (∀y (hy:y<ns.length),(ae ns y).length<=1000000):=fun y hy=>by
  have:ae ns y=(ns[y]'hy).ks:=by unfold ae;rw[List.getElem?_eq_getElem hy]
  rw[this];exact h.kid y hy
 have CK:Hd (∀q,q<ns.length->∀w',w.grownBy w' none->Calls prog 14 #[.slice (some ⟨N,0,none⟩) ns.length c,.int .i64 (q:Nat),.string ⟨#[110,101,101,100,115]⟩] w' fun e w''=>e=.returned (.int .i64 (fK ns q dY))/\w'=w''):=fun q hq w' hg=>((h.grow hg).cKid q hq dY).mono fun e w'' hh=>⟨hh.1,hh.2.symm⟩
 have qM:Hd (∀w',w.grownBy w' none->EnS w' vo es):=fun w' hg=>hE.grow hg
 obtain⟨o,co,rfl⟩:=xA hE;have CE:Hd (∀n w',w.grownBy w' none->Calls prog 35 #[.slice o es.length co,.string n] w' fun e w''=>∃z:Int,e=.returned (.int .i64 z)/\Hd (EntI es n z/\w'.grownBy w'' none)):=fun n w' hg=>(ad1 _ es n w' (hE.grow hg) (by omega)).mono fun e w'' ⟨z,a1,a2,a3⟩=>⟨z,a1,a2,a3⟩
 have wW:Hd (∀i (hi:i<es.length) (hi':i<A.length),es[i].nd=(kl ns A[i]).map (aT ns)):=fun i hi hi'=>by
  subst hA;simp only[hes,List.getElem_map];rfl
 have kN:Hd ((A.flatMap (kl ns)).find? (fun y=>!aZ es (aT ns y))=F):=by rw[<-hA];exact hFF
 have hc:=h.cap;have hl:=h.len;obtain⟨n,hn⟩:=zN (es.length);have HN:Hd (es.length=n/\A.length=n):=⟨hn,by rw[<-hA,<-hel,hn]⟩;obtain⟨L,hL⟩:=zN (ns.length);have HL:Hd (ns.length=L):=hL;have hnl:n<=1000000:=by omega
 rw[hL]at hp hc hl CK ⊢;rw[hn]at CE ⊢;clear h T nX hel hAl hA hn hL hE hes hF hFF;go_enter func15,ntmps15;go_wp2;go_loopw [9] (fun v9 wr=>∃i:Nat,v9=.int .i64 (i:Nat)/\i<=n/\(∀y∈(A.take i).flatMap (kl ns),(fun y=>!aZ es (aT ns y)) y=false)/\w.grownBy wr none) (fun v9 _=>n-(intOf v9).toNat)
 case atStart=>exact⟨0,rfl,Nat.zero_le _,fun y hy=>(by cases hy),ax _ _⟩
 case round =>
  obtain⟨i,rfl,hi,hpre,hg⟩:=hrel;have HP:Hd (∀y∈(A.take i).flatMap (kl ns),(fun y=>!aZ es (aT ns y)) y=false):=hpre;have HG:Hd (w.grownBy wr none):=hg;clear hpre
  by_cases hlt:i<n
  ·have hiA:i<A.length:=by rw[HN.o.2];exact hlt
   have II:i<es.length:=by rw[HN.o.1];exact hlt
   obtain⟨oA,mA,cA,hcA⟩:=lm.o wr hg;obtain⟨g,rfl,cg⟩:=hcA i hiA;obtain⟨y,hy,hyl,hkl⟩:=DX.o i hiA;have uU:=CK.o A[i] (by rw[<-HL.o];exact cZ.o i hiA) wr hg;have dN:=cZ.o i hiA;obtain⟨q,hq⟩:=zN (A[i]);have HQ:Hd (A[i]=q/\kl ns q=ae ns y):=⟨hq,by rw[<-hq];exact hkl⟩;rw[hq]at cg uU hy dN;rw[HL.o]at dN;rw[HN.o.2]at cA;have yH:Hd (Calls prog 14 #[.slice (some ⟨N,0,none⟩) L c,.int .i64 (q:Nat),.string ⟨#[110,101,101,100,115]⟩] wr fun e w''=>e=.returned (.int .i64 (y:Nat))/\wr=w''):=uU.mono fun e w'' hh=>by
    refine⟨?_,hh.2⟩;rw[hh.1];unfold fK;rw[hy]
   have VZ:Hd (y<ns.length):=hyl;rw[HL.o]at hyl;clear hcA hq hkl uU hy hg;go_wp2_with (go_at_call 14;refine yH.o.mono ?_;rintro e w'' ⟨rfl,rfl⟩);clear cA cg yH;obtain⟨wo,hwo⟩:∃wo,wo=wr:=⟨_,rfl⟩;subst hwo;obtain⟨M,hM⟩:=zN ((ae ns y).length);have HM:Hd ((ae ns y).length=M):=hM;have Ik:M<=1000000:=by rw[<-hM];exact qO.o y VZ.o
   clear hM;go_loopw [11] (fun v11 wr=>∃k:Nat,v11=.int .i64 (k:Nat)/\k<=M/\(∀j (hj:j<(ae ns y).length),j<k->(fun y=>!aZ es (aT ns y)) (ae ns y)[j]=false)/\w.grownBy wr none) (fun v11 _=>M-(intOf v11).toNat)
   case atStart=>exact⟨0,rfl,Nat.zero_le _,fun j hj h=>absurd h (by omega),HG.o⟩
   case round =>
    obtain⟨k,rfl,hk,hpre,hg⟩:=hrel;have Oz:Hd (∀j (hj:j<(ae ns y).length),j<k->(fun y=>!aZ es (aT ns y)) (ae ns y)[j]=false):=hpre;have IJ:Hd (w.grownBy wr none):=hg;have hEr:=qM.o wr hg;obtain⟨a,ho,hca,hat⟩:=Ol hEr II;have hEi:=hat i II;obtain⟨-,-,-,sv,e3,htx⟩:=hEi;have IK:es[i].nd.length=M:=by
     rw[wW.o i II hiA,List.length_map];simp only[HQ.o.1];rw[HQ.o.2,HM.o]
    have aep:Hd (es[i].nd=(ae ns y).map (aT ns)):=by
     show _=_;rw[wW.o i II hiA];simp only[HQ.o.1];rw[HQ.o.2]
    obtain⟨so,sc,rfl⟩:=Am htx;rw[IK]at e3;rw[HN.o.1]at hca;subst ho;clear hpre hat hEr
    by_cases rD:k<M
    ·have Eh:(k:Int)<(M:Int):=by omega
     have V4:k<(ae ns y).length:=by rw[HM.o];exact rD
     obtain⟨oY,mY,cY,V5⟩:=Eg.o y VZ.o wr hg;obtain⟨gy,rfl,cgy,hzl,cz⟩:=V5 k V4;have hkd:k<es[i].nd.length:=by rw[IK];exact rD
     have ctx:∃a2,so=some a2/\M<=sc/\wr.cell? (a2.add k)=some (.string (aT ns (ae ns y)[k])):=by
      rcases htx with⟨e1,e2⟩|⟨a2,cap2,e1,e2,e3'⟩
      ·rw[e2]at hkd;exact absurd hkd (by simp)
      ·injection e1 with e4 e5 e6
       refine⟨a2,e4,by omega,?_⟩;have:=e3' k hkd;rw[this];simp only[aep.o,List.getElem_map]
     obtain⟨a2,rfl,hsc,ct⟩:=ctx;have IL:=CE.o (aT ns (ae ns y)[k]) wr hg;obtain⟨z,hz⟩:=zN ((ae ns y)[k]);have HZ:Hd ((ae ns y)[k]=z):=hz;rw[hz]at cgy cz hzl ct IL;rw[HL.o]at hzl;rw[HM.o]at cY;obtain⟨TX,eu⟩:∃t,aT ns z=t:=⟨_,rfl⟩;have nI:Hd (aT ns z=TX):=eu;rw[eu]at ct IL;have CEh:Hd (Calls prog 35 #[.slice (some a) n co,.string TX] wr fun e w''=>∃z:Int,e=.returned (.int .i64 z)/\Hd (EntI es TX z/\wr.grownBy w'' none)):=IL;have IM:Hd (wr.cell? ⟨N,y*6+4,none⟩=some (.slice (some ⟨gy,0,none⟩) M mY)/\wr.cell? ⟨gy,k,none⟩=some (.int .i64 (z:Nat))/\wr.cell? ⟨N,z*6+5,none⟩=some (.int .i64 (iJ ns z:Nat))):=⟨cY,cgy,cz⟩;clear hg V5 hz eu htx IL IK cY cgy cz hkd;go_wp2_with (go_at_call 35;refine CEh.o.mono ?_);rintro e w5 x5 rfl h5;have iy:Hd (w.grownBy w5 none):=ah IJ.o h5.o.2;have f1:=h5.o.2.cell IM.o.1 (by simp)
     have f2:=h5.o.2.cell IM.o.2.1 (by simp);have f3:=h5.o.2.cell IM.o.2.2 (by simp);have OA:Hd ((fun y=>!aZ es (aT ns y)) (ae ns y)[k]=!aZ es TX):=by
      show(!aZ es (aT ns (ae ns y)[k]))=_;rw[HZ.o,nI.o]
     clear e3 ct IM
     by_cases hx5:x5<0
     ·have hb:decide (x5<0)=true:=decide_eq_true hx5;have hno:=(h5.o.1.neg).1 hx5;obtain⟨Z,hZ⟩:∃Z:Nat,iJ ns z=Z:=⟨_,rfl⟩;have Ei:Hd (F=some z/\iJ ns z=Z):=by
       refine⟨?_,hZ⟩;have h1:=aem (A:=A) (f:=kl ns) (P:=fun y=>!aZ es (aT ns y)) hiA (k:=k) (by simp only[HQ.o.1];rw[HQ.o.2];exact V4) HP.o (fun j hj hjk=>by
        simp only[HQ.o.1,HQ.o.2];exact Oz.o j (by simp only[HQ.o.1,HQ.o.2]at hj;exact hj) hjk) (by;simp only[HQ.o.1,HQ.o.2];rw[HZ.o,nI.o,hno];rfl)
       rw[kN.o]at h1;rw[h1];simp only[HQ.o.1,HQ.o.2,HZ.o]
      rw[hZ]at f3;clear hno hZ h5 OA;go_wp2;go_quiet (fail);go_wp2;refine bodyPost_ret (results_tmp3 (t:=6) (u:=7) (v:=8) rfl _ _ _) rfl ?_;refine⟨fun y hy=>?_,fun hn=>?_,aj iy.o nq⟩
      ·rw[Ei.o.1]at hy
       cases hy
       rw[Ei.o.2];rfl
      ·rw[Ei.o.1]at hn
       cases hn
     ·have hb:decide (x5<0)=false:=decide_eq_false hx5;have hyes:aZ es TX=true:=by
       cases hh:aZ es TX with
       | true=>rfl
       | false=>exact absurd ((h5.o.1.neg).2 hh) hx5
      have HP2:Hd (∀j (hj:j<(ae ns y).length),j<k+1->(fun y=>!aZ es (aT ns y)) (ae ns y)[j]=false):=fun j hj hjk=>by
       by_cases hj':j<k
       ·exact Oz.o j hj hj'
       ·have e':j=k:=by omega
        subst e';rw[OA.o,hyes];rfl
      clear hyes h5 OA f1 f2 f3;go_wp2;refine⟨⟨k+1,by go_num,by omega,HP2.o,iy.o⟩,?_⟩;simp[intOf];omega
    ·have Eh:¬(k:Int)<(M:Int):=by omega
     have iE:Hd (∀y∈(A.take (i+1)).flatMap (kl ns),(fun y=>!aZ es (aT ns y)) y=false):=aen hiA HP.o (fun j hj=>by
      simp only[HQ.o.1,HQ.o.2]at hj ⊢;exact Oz.o j hj (by rw[HM.o]at hj;omega))
     clear hg htx IK;go_wp2;refine⟨⟨i+1,by go_num,by omega,iE.o,IJ.o⟩,?_⟩;simp[intOf];omega
  ·have hin:i=n:=by omega
   have Ei:Hd (F=none):=by
    show _=_;rw[<-kN.o,List.find?_eq_none];intro y hy;have:=HP.o y (by rw[hin,<-HN.o.2,List.take_length];exact hy);simpa using this
   clear hg hin;go_wp2;refine bodyPost_ret (results_tmp3 (t:=6) (u:=7) (v:=8) rfl _ _ _) rfl ?_;exact⟨fun y hy=>(by rw[Ei.o]at hy;cases hy),fun _=>rfl,HG.o⟩
open Go.RowKit Go.Maps Go.WideMaps Go.Joins
structure RnB(B:Nat)(w:World)(es:List En)(ve:Value)(vs:List Value):Prop where
 len:vs.length=es.length
 row:w.ownsRow B 47 4 ve es.length (tV es vs)
 nee:∀j (hj:j<es.length),w.ownsRow B 9 1 (vs[j]'(by rw[len];exact hj)) es[j].nd.length (es[j].nd.map Value.string)
section
variable {B:Nat} {w w':World} {es:List En} {ve:Value} {vs:List Value}
theorem RnB.ens(h:RnB B w es ve vs):EnS w ve es:=by
 rcases h.row.2 with⟨e1,e2⟩|⟨g,cap,cu,e1,hb,hgg,hn,hm,hs,ht⟩
 ·exact Or.inl ⟨e1,List.eq_nil_of_length_eq_zero (by omega)⟩
 ·refine Or.inr ⟨⟨g,0,none⟩,cap,e1,hn,fun i hi=>?_⟩;have hr:=h.row;rw[e1]at hr;have key:∀k u,(oW es[i] (vs[i]'(by rw[h.len];exact hi)))[k]?=some u->w.cell? ⟨g,i*4+k,none⟩=some u:=fun k u hu=>by
   have:=hr.cells (g:=g) rfl (i*4+k) u (PH es vs h.len.symm i hi k u hu);rw[ni]at this;exact this
  unfold EnAt;rw[ni];exact⟨key 0 _ rfl,key 1 _ rfl,key 2 _ rfl,_,key 3 _ rfl,Ja (base:=B) rfl (h.nee i hi)⟩
theorem RnB.grow(h:RnB B w es ve vs)(hg:w.grownBy w' none):RnB B w' es ve vs:=⟨h.len,(bf hg).row h.row,fun j hj=>(bf hg).row (h.nee j hj)⟩
theorem RnB.spf{b0 b1:Nat}(h:RnB B w es ve vs)(hf:SpF b0 b1 w w')(hB:b1<=B):RnB B w' es ve vs :=
 ⟨h.len,bP h.row fun g cur hh _=>hf.block g (Or.inr (by have:=(bz h.row hh).1;omega)),fun j hj=>bP (h.nee j hj) fun g cur hh _=>hf.block g (Or.inr (by have:=(bz (h.nee j hj) hh).1;omega))⟩
theorem V6(B:Nat)(w:World):RnB B w [] (.slice none 0 0) []:=⟨rfl,World.ownsRow_nil _ _ _ _,fun j hj=>absurd hj (by simp)⟩
theorem RnB.push(h:RnB B w es ve vs){v' nv:Value}{x:En}(ho:w'.ownsRow B 47 4 v' (es.length+1) (tV es vs++oW x nv))(hg:w.grownBy w' ve.ownBlock)(hn:w.ownsRow B 9 1 nv x.nd.length (x.nd.map Value.string)):RnB B w' (es++[x]) v' (vs++[nv]):=by
 have kt:Kt 9 w w':=yG h.row hg (by decide);refine⟨by simp[h.len],?_,fun j hj=>?_⟩
 ·rw[Xn es vs x nv h.len.symm,List.length_append];exact ho
 ·by_cases e:j<es.length
  ·have e1:(es++[x])[j]=es[j]:=List.getElem_append_left e;have e2:(vs++[nv])[j]'(by simp[h.len];omega)=vs[j]'(by rw[h.len];exact e):=List.getElem_append_left (by rw[h.len];exact e);rw[e1,e2];exact kt.row (h.nee j e)
  ·have hl:j=es.length:=by simp at hj;omega
   have e1:(es++[x])[j]=x:=by subst hl;simp
   have e2:(vs++[nv])[j]'(by simp[h.len];omega)=nv:=by subst hl;simp[<-h.len]
   rw[e1,e2];exact kt.row hn
theorem RnB.up{B':Nat}(h:RnB B w es ve vs)(hB:B'<=B):RnB B' w es ve vs:=by
 have up:∀{X:TypeId} {k n:Nat} {v:Value} {xs:List Value},w.ownsRow B X k v n xs->w.ownsRow B' X k v n xs:=fun h=>⟨h.1,h.2.imp id fun⟨g,cap,cu,e1,hb,r⟩=>⟨g,cap,cu,e1,by omega,r⟩⟩
 exact⟨h.len,up h.row,fun j hj=>up (h.nee j hj)⟩
end
def yI(w:World)(r:Rs (List En))(e:Ending)(w':World):Prop :=
 (∀es,r=.ok es->∃ve vs,e=.returned (.tuple #[ve,.int .i64 0,.int .i64 0])/\RnB w.heap.size w' es ve vs)/\(∀c,r=.error c->e=.returned (.tuple #[.slice none 0 0,.int .i64 c.1,.int .i64 (c.2:Nat)]))/\w.grownBy w' none
theorem V7{w w':World}{es:List En}{ve:Value}{vs:List Value}(h:RnB w.heap.size w' es ve vs)(hg:w.grownBy w' none):yI w (.ok es) (.returned (.tuple #[ve,.int .i64 0,.int .i64 0])) w' :=
 ⟨fun es' e=>(by cases e;exact⟨ve,vs,rfl,h⟩),fun c e=>(by cases e),hg⟩
theorem Ej{w w':World}{z:Int}{p:Nat}(hg:w.grownBy w' none):yI w (.error (z,p)) (.returned (.tuple #[.slice none 0 0,.int .i64 z,.int .i64 (p:Nat)])) w' :=
 ⟨fun es' e=>(by cases e),fun c e=>(by cases e;rfl),hg⟩
theorem aeq{w':World}{B N c m:Nat}{ns:List Tn}{own:List Nat}{OV:Value}{xs:List Value}{ks:Nat->Value}(h:DtD w' B 0 ns m own (.slice (some ⟨N,0,none⟩) ns.length c) OV xs ks)(l:List UInt8)(hl:jL l=.ok ns):Dc w' N c ns:=by
 obtain⟨T,own',W,hn⟩:=Hg l ns hl;refine⟨⟨B,0,[],.slice none 0 0,xs,ks,⟨h.row,h.cel,h.kid,h.apart,World.ownsRow_nil _ _ _ _,h.far,h.hP⟩,⟨W.par,W.lt,fun q hq=>(by cases hq),W.len⟩⟩,⟨_,T⟩,by omega,?_,fun i hi=>Uk hl i hi⟩
 rcases h.row.2 with⟨e1,_⟩|⟨g,cap,cu,e1,hb,hgg,hn',_⟩
 ·cases e1
 ·cases e1;exact hn'
theorem aer:(prog.info? 47).map (fun i=>(i.zero,i.size,i.bytes))=some (some (.agg #[.string ⟨#[]⟩,.string ⟨#[]⟩,.string ⟨#[]⟩,.slice none 0 0]),4,72):=by kernel_rfl
open Go.RowKit Go.Maps Go.WideMaps Go.Joins
theorem aes(w:World)(N c:Nat)(ns:List Tn)(h:Dc w N c ns)(al i:Nat)(hi:i<ns.length)(ht:i∈ae ns al) :
  Calls prog 34 #[.slice (some ⟨N,0,none⟩) ns.length c,.int .i64 (al:Nat),.int .i64 (i:Nat)] w fun e w'=>e=.returned (.int .i64 (pY ns al i ns[i]))/\w.grownBy w' none:=by
 obtain⟨S,T⟩:=h.tv;have hal:=xP ht;have nX:ae ns al=(ns[al]'hal).ks:=by unfold ae;rw[List.getElem?_eq_getElem hal]
 obtain⟨hK,hK1,hK2,hK3⟩:=Ov (ae ns al) i ht;obtain⟨K,jg⟩:=zN ((dV (ae ns al) i).length);have HA:Hd ((dV (ae ns al) i).length=K/\K<(ae ns al).length/\(∀h:K<(ae ns al).length,(ae ns al)[K]=i)/\dV (ae ns al) i=(ae ns al).take K/\(∀j (hj:j<(ae ns al).length),j<K->¬(ae ns al)[j]=i)):=by
  subst jg;exact⟨rfl,hK,fun _=>hK1,hK2,hK3⟩
 have cZ:Hd (∀k (hk:k<(ae ns al).length),(ae ns al)[k]<ns.length):=fun k hk=>T.lt al _ (List.getElem_mem hk)
 have lm:Hd (∀w',w.grownBy w' none->∃oA mA,w'.cell? ⟨N,al*6+4,none⟩=some (.slice oA (ae ns al).length mA)/\∀k (hk:k<(ae ns al).length),∃g,oA=some ⟨g,0,none⟩/\w'.cell? ⟨g,k,none⟩=some (.int .i64 ((ae ns al)[k]:Nat))):=fun w' hg=>by
  obtain⟨o,m,-,-,-,-,h4,-,o',m',e,hn⟩:=(h.grow hg).node hal;rw[<-nX]at h4 e hn;refine⟨o,m,h4,fun k hk=>?_⟩;injection e with e _ _
  rw[e];exact hn k hk
 have hAl:(ae ns al).length<=1000000:=by rw[nX];exact h.kid al hal
 have oP:Hd (∀q (hq:q<ns.length),∀w',w.grownBy w' none->w'.cell? ⟨N,q*6+2,none⟩=some (.string (aT ns q))):=fun q hq w' hg=>by
  obtain⟨-,-,-,-,h2,-⟩:=(h.grow hg).node hq;show _=_;unfold aT;rw[List.getElem?_eq_getElem hq];exact h2
 obtain⟨o,m,e0,e1,e2,e3,e4,e5,-⟩:=h.node hi;have htx:=(T.txt _ (List.getElem_mem hi)).2.1;have OB:Hd (aT ns i=dn ns[i]):=by show _=_;unfold aT;rw[List.getElem?_eq_getElem hi]
 obtain⟨x,hx⟩:=zN (ns[i]);rw[hx]at e0 e1 e2 e3 e4 e5 htx OB ⊢;have hc:=h.cap;have hl:=h.len;obtain⟨L,hL⟩:=zN (ns.length);have HL:Hd (ns.length=L):=hL;have CP:Calls prog 57 #[.agg (dL x (.slice o x.ks.length m)),.int .i64 0] w fun e w''=>e=.returned (.int .i64 (takeD x nameB))/\Hd (w.grownBy w'' none):=VV w x o _ m 0 nameB (Or.inl ⟨rfl,rfl⟩) htx
 obtain⟨R,hR⟩:=zN (pY ns al i x);obtain⟨z0,hz0⟩:=zN (takeD x nameB);obtain⟨TX,eu⟩:∃t:ByteArray,dn x=t:=⟨_,rfl⟩;rw[eu]at OB;have HR1:Hd (R=if z0=0 then(if((ae ns al).take K).any (fun k=>decide (aT ns k=TX))=true then 5 else if 20<=K then 4 else 0) else z0):=by
  show _=_;rw[<-hR];unfold pY;rw[hz0,HA.o.1,HA.o.2.2.2.1,eu]
 rw[hR];rw[hz0]at CP;obtain⟨kd,ky,tx,nu,ks,pl⟩:=x;unfold dL at CP;simp only[]at e0 e1 e2 e3 e4 e5 CP;have V8:Hd (Calls prog 57 #[.agg #[.int .i64 kd,.string ⟨ky.toArray⟩,.string ⟨tx.toArray⟩,.int .i64 nu,.slice o ks.length m,.int .i64 (pl:Nat)],.int .i64 0] w fun e w''=>e=.returned (.int .i64 z0)/\Hd (w.grownBy w'' none)):=CP;rw[hL]at hi hal hc hl ⊢;clear h T nX hK hK1 hK2 hK3 jg hR hx hL eu CP htx ht hz0;go_enter func34,ntmps34;go_wp2_with (go_at_call 57;refine V8.o.mono ?_);rintro e w2 ⟨rfl,hg2⟩;have HG2:Hd (w.grownBy w2 none):=hg2.o;clear e0 e1 e2 e3 e4 e5 hg2 V8;go_wp2;go_loopw [7,8] (fun v7 v8 wr=>∃(k:Nat) (z:Int),v8=.int .i64 (k:Nat)/\k<=K/\v7=.int .i64 z/\z=(if z0=0 then(if((ae ns al).take k).any (fun k=>decide (aT ns k=TX))=true then 5 else 0) else z0)/\w.grownBy wr none) (fun _ v8 _=>K-(intOf v8).toNat)
 case atStart =>
  refine⟨0,z0,rfl,Nat.zero_le _,rfl,?_,HG2.o⟩
  by_cases e:z0=0
  ·rw[if_pos e,e];rfl
  ·rw[if_neg e]
 case round =>
  obtain⟨k,z,rfl,hk,rfl,hz,hg⟩:=hrel;have HZ:Hd (z=(if z0=0 then(if((ae ns al).take k).any (fun k=>decide (aT ns k=TX))=true then 5 else 0) else z0)):=hz;have nY:Hd (w.grownBy wr none):=hg;obtain⟨oA,mA,cA,hA⟩:=lm.o wr hg;have hkl:k<(ae ns al).length:=Nat.lt_of_le_of_lt hk HA.o.2.1;obtain⟨g,rfl,cg⟩:=hA k hkl;obtain⟨q,hq⟩:=zN ((ae ns al)[k]);obtain⟨lA,hlA⟩:=zN ((ae ns al).length);have HQ:Hd ((ae ns al)[k]=q):=hq;have dN:=cZ.o k hkl;have cq:=oP.o _ dN wr hg;have aek:lA<=1000000:=by rw[<-hlA];exact hAl
  have hkl':k<lA:=by rw[<-hlA];exact hkl
  rw[hq]at cg cq;rw[hlA]at cA;rw[hq,HL.o]at dN;have ci:=oP.o i (by rw[HL.o];exact hi) wr hg;rw[OB.o]at ci;obtain⟨Y,hY⟩:=zN (aT ns q);rw[hY]at cq
  by_cases nZ:k=K
  ·have jX:q=i:=by rw[<-hq];subst nZ;exact HA.o.2.2.1 hkl
   have hb:((q:Int) != (i:Int))=false:=by rw[jX];simp
   have HF:Hd (R=if z=0/\20<=k then 4 else z):=by
    show _=_;rw[HR1.o,HZ.o,<-nZ]
    by_cases e1:z0=0
    ·rw[if_pos e1,if_pos e1]
     by_cases e2:((ae ns al).take k).any (fun k=>decide (aT ns k=TX))=true
     ·rw[if_pos e2,if_pos e2,if_neg (fun h=>absurd h.1 (by decide))]
     ·rw[if_neg e2,if_neg e2]
      by_cases e3:20<=k
      ·rw[if_pos e3,if_pos ⟨rfl,e3⟩]
      ·rw[if_neg e3,if_neg (fun h=>e3 h.2)]
    ·rw[if_neg e1,if_neg e1,if_neg (fun h=>e1 h.1)]
   clear hz hg hA hq nZ jX hlA hAl hY cq ci HZ
   by_cases e1:z=0
   ·by_cases e2:20<=k
    ·have hb2:decide ((k:Int) ≥ 20)=true:=decide_eq_true (by omega);have HF2:Hd (R=4):=by show _=_;rw[HF.o,if_pos ⟨e1,e2⟩]
     have h20:(20:Int)<=(k:Int):=by omega
     subst e1;clear HF;go_wp2;go_ret;exact⟨dD HF2.o.symm,nY.o⟩
    ·have hb2:decide ((k:Int) ≥ 20)=false:=decide_eq_false (by omega);have HF2:Hd (R=0):=by show _=_;rw[HF.o,if_neg (fun h=>e2 h.2),e1]
     have h20:¬(20:Int)<=(k:Int):=by omega
     subst e1;clear HF;go_wp2;go_ret;exact⟨dD HF2.o.symm,nY.o⟩
   ·have hbz:(z == 0)=false:=by simpa using e1
    have HF2:Hd (R=z):=by show _=_;rw[HF.o,if_neg (fun h=>e1 h.1)]
    clear HF e1;go_wp2;go_ret;exact⟨dD HF2.o.symm,nY.o⟩
  ·have jX:¬q=i:=by rw[<-hq];exact HA.o.2.2.2.2 k hkl (by omega)
   have hb:((q:Int) != (i:Int))=true:=by simpa using(show ¬(q:Int)=(i:Int) by omega)
   have ael:k<K:=by omega
   have HST:Hd (((ae ns al).take (k+1)).any (fun k=>decide (aT ns k=TX))=(((ae ns al).take k).any (fun k=>decide (aT ns k=TX)) || decide (Y=TX))):=by
    show _=_;rw[VW _ _ _ hkl,HQ.o,hY]
   clear hz hg hA hq nZ jX hlA hAl hY
   by_cases e1:z=0
   ·have hz0:z0=0/\((ae ns al).take k).any (fun k=>decide (aT ns k=TX))=false:=by
     have hh:=HZ.o;rw[e1]at hh
     by_cases e:z0=0
     ·rw[if_pos e]at hh;refine⟨e,?_⟩
      cases hc:((ae ns al).take k).any (fun k=>decide (aT ns k=TX)) with
      | false=>rfl
      | true=>rw[hc]at hh;exact absurd hh (by decide)
     ·rw[if_neg e]at hh;exact absurd hh.symm e
    by_cases hYT:Y=TX
    ·have hs:(Y.toList == TX.toList)=true:=by rw[hYT];simp
     have iE:Hd (5=(if z0=0 then(if((ae ns al).take (k+1)).any (fun k=>decide (aT ns k=TX))=true then 5 else 0) else z0)):=by
      show _=_;rw[if_pos hz0.1,HST.o,hz0.2,decide_eq_true hYT];rfl
     subst e1;clear hz0 hYT HST HZ;go_wp2;go_quiet (fail);go_wp2;refine⟨⟨k+1,5,by go_num,by omega,rfl,iE.o,aj nY.o nq⟩,?_⟩;simp[intOf];omega
    ·have hs:(Y.toList == TX.toList)=false:=Ee hYT;have iE:Hd (0=(if z0=0 then(if((ae ns al).take (k+1)).any (fun k=>decide (aT ns k=TX))=true then 5 else 0) else z0)):=by
      show _=_;rw[if_pos hz0.1,HST.o,hz0.2,decide_eq_false hYT];rfl
     subst e1;clear hz0 hYT HST HZ;go_wp2;go_quiet (fail);go_wp2;refine⟨⟨k+1,0,by go_num,by omega,rfl,iE.o,aj nY.o nq⟩,?_⟩;simp[intOf];omega
   ·have hbz:(z == 0)=false:=by simpa using e1
    have iE:Hd (z=(if z0=0 then(if((ae ns al).take (k+1)).any (fun k=>decide (aT ns k=TX))=true then 5 else 0) else z0)):=by
     have hh:=HZ.o
     by_cases e:z0=0
     ·rw[if_pos e]at hh;show _=_;rw[if_pos e,HST.o]
      cases hc:((ae ns al).take k).any (fun k=>decide (aT ns k=TX)) with
      | false=>rw[hc]at hh;exact absurd hh e1
      | true=>rw[hc]at hh;exact hh
     ·show _=_;rw[if_neg e]at hh ⊢;exact hh
    clear HST HZ e1;go_wp2;go_quiet (fail);go_wp2;refine⟨⟨k+1,z,by go_num,by omega,rfl,iE.o,aj nY.o nq⟩,?_⟩;simp[intOf];omega
open Go.RowKit Go.Maps Go.WideMaps Go.Joins
theorem aet(w:World)(N c:Nat)(ns:List Tn)(h:Dc w N c ns)(i:Nat)(h0:0<i)(hi:i<ns.length) :
  Calls prog 13 #[.slice (some ⟨N,0,none⟩) ns.length c,.int .i64 (i:Nat)] w fun e w'=>e=.returned (.int .i64 (iZ ns i ns[i]))/\w.grownBy w' none:=by
 obtain⟨S,T⟩:=h.tv;obtain⟨p,hp⟩:=T.par i h0 hi;have hpl:=xP hp;have hpi:=T.gt _ _ hp;have hpn:=uF T hp;have C1:Hd (Calls prog 31 #[.slice (some ⟨N,0,none⟩) ns.length c,.int .i64 (i:Nat)] w fun e w'=>e=.returned (.int .i64 (p:Nat))/\w=w'):=(VP w N c ns h i p hp).mono fun e w' hh=>⟨hh.1,hh.2.symm⟩
 obtain⟨o,m,e0,e1,e2,e3,e4,e5,-⟩:=h.node hi;obtain⟨R,hR⟩:=zN (iZ ns i ns[i]);rw[hR];unfold iZ at hR;rw[hpn]at hR;obtain⟨x,hx⟩:=zN (ns[i]);rw[hx]at e0 e1 e2 e3 e4 e5 hR;obtain⟨kd,ky,tx,nu,ks,pl⟩:=x;simp only[]at e0 e1 e2 e3 e4 e5;obtain⟨KY,iC⟩:∃t:ByteArray,⟨ky.toArray⟩=t:=⟨_,rfl⟩;have eP:Hd ((⟨ky.toArray⟩:ByteArray)=KY):=iC;rw[iC]at e1;obtain⟨bx,hbx⟩:=zN (w.heap.size);obtain⟨W,hW⟩:=zN (w.alloc (.cells #[.int .i64 kd,.string KY,.string ⟨tx.toArray⟩,.int .i64 nu,.slice o ks.length m,.int .i64 (pl:Nat)] 45));have hG:w.grownBy W none:=hW ▸ dw (ax w none) _;have HG:Hd (w.grownBy W none):=hG;have hB:W.heap[bx]?=some (.cells #[.int .i64 kd,.string KY,.string ⟨tx.toArray⟩,.int .i64 nu,.slice o ks.length m,.int .i64 (pl:Nat)] 45 (0,0)):=by rw[<-hW,<-hbx];exact heap_alloc_new _ _
 have b0:W.cell? ⟨bx,0,none⟩=some (.int .i64 kd):=by rw[af hB];rfl
 have b1:W.cell? ⟨bx,1,none⟩=some (.string KY):=by rw[af hB];rfl
 have b3:W.cell? ⟨bx,3,none⟩=some (.int .i64 nu):=by rw[af hB];rfl
 have HW:Hd (w.alloc (.cells #[.int .i64 kd,.string KY,.string ⟨tx.toArray⟩,.int .i64 nu,.slice o ks.length m,.int .i64 (pl:Nat)] 45)=W/\w.heap.size=bx):=⟨hW,hbx⟩;have hc:=h.cap;have hl:=h.len;obtain⟨L,hL⟩:=zN (ns.length)
 -- where it is no kid of the root
 have PR:Hd (¬p=0->∃(r op mp:Nat) (ox:Option Addr) (kp:Int) (Lp Ia:Nat),((p:Int) == 0)=false/\Calls prog 31 #[.slice (some ⟨N,0,none⟩) L c,.int .i64 (p:Nat)] W (fun e w'=>e=.returned (.int .i64 (r:Nat))/\W=w')/\W.cell? ⟨N,p*6,none⟩=some (.int .i64 kp)/\W.cell? ⟨N,p*6+4,none⟩=some (.slice ox Lp mp)/\Lp<=1000000/\Calls prog 32 #[.slice ox Lp mp,.int .i64 (i:Nat)] W (fun e w'=>e=.returned (.int .i64 (Ia:Nat))/\W=w')/\Calls prog 33 #[.slice (some ⟨N,0,none⟩) L c,.int .i64 (r:Nat),.int .i64 (p:Nat),.int .i64 (i:Nat)] W (fun e w'=>e=.returned (.int .i64 (mF ns r p ⟨kd,ky,tx,nu,ks,pl⟩))/\Hd (W.grownBy w' none))/\Calls prog 34 #[.slice (some ⟨N,0,none⟩) L c,.int .i64 (p:Nat),.int .i64 (i:Nat)] W (fun e w'=>e=.returned (.int .i64 (pY ns p i ⟨kd,ky,tx,nu,ks,pl⟩))/\Hd (W.grownBy w' none))/\(if r=0/\kp=2 then(if 50<=Ia then 4 else 0) else if kp=0 then mF ns r p ⟨kd,ky,tx,nu,ks,pl⟩ else pY ns p i ⟨kd,ky,tx,nu,ks,pl⟩)=R):=fun hp0=>by
  rw[if_neg hp0]at hR;obtain⟨r,hr⟩:=T.par p (by omega) hpl;rw[uF T hr]at hR;have IP:=h.grow hG;obtain⟨op,mp,f0,-,-,-,f4,-,hn⟩:=IP.node hpl;have kAt:ae ns p=(ns[p]'hpl).ks:=by unfold ae;rw[List.getElem?_eq_getElem hpl]
  have hkp:ak ns p=(ns[p]'hpl).kd:=by unfold ak;rw[List.getElem?_eq_getElem hpl]
  rw[hkp]at hR;have P1:=aej W N c ns IP r p i hi hr;have P2:=aes W N c ns IP p i hi hp;have P3:=VP W N c ns IP p r hr;rw[hx,hL]at P1 P2;rw[hL]at P3;refine⟨r,0,mp,op,(ns[p]'hpl).kd,(ns[p]'hpl).ks.length,(dV (ae ns p) i).length,by simpa using(show ¬(p:Int)=0 by omega),P3.mono fun e w' hh=>⟨hh.1,hh.2.symm⟩,f0,f4,h.kid p hpl,(VO W op mp _ (ns[p]'hpl).ks i rfl hn (h.kid p hpl)).mono fun e w' hh=>?_,P1,P2,hR⟩;refine⟨?_,hh.2.symm⟩;rw[hh.1,kAt];unfold rE;rw[if_pos (by rw[<-kAt];exact hp)]
 have HR0:Hd (p=0->uC ⟨kd,ky,tx,nu,ks,pl⟩=R):=fun e=>by rw[if_pos e]at hR;exact hR
 rw[hL]at hi hpl hc hl C1 ⊢;clear h T hp hpi hpn hR hx iC hbx hW hG hB hL;go_enter func13,ntmps13;go_wp2_with (go_at_call 31;refine C1.o.mono ?_);rintro e w' ⟨rfl,rfl⟩;go_upto_region 3 with fail
 try rw[HW.o.1]
 try rw[HW.o.2]
 clear e0 e1 e2 e3 e4 e5 C1 HW
 by_cases hp0:p=0
 ·have HR:Hd (uC ⟨kd,ky,tx,nu,ks,pl⟩=R):=HR0.o hp0;subst hp0;clear PR HR0
  by_cases k1:ky=jV
  ·have hb1:(KY.toList == [102,111,114,109,97,116])=true:=(jr eP.o).1 k1
   by_cases k2:kd=4
   ·have hb2:(kd != 4)=false:=by rw[k2];rfl
    by_cases k3:nu=1
    ·have hb3:(nu != 1)=false:=by rw[k3];rfl
     have HF:Hd (R=0):=by show _=_;rw[<-HR.o];unfold uC;rw[if_pos k1,if_neg (by simpa using k2),if_neg (by simpa using k3)]
     clear k1 k2 k3 HR;go_wp2;go_ret;exact⟨dD HF.o.symm,HG.o⟩
    ·have hb3:(nu != 1)=true:=by simpa using k3
     have HF:Hd (R=3):=by show _=_;rw[<-HR.o];unfold uC;rw[if_pos k1,if_neg (by simpa using k2),if_pos k3]
     clear k1 k2 k3 HR;go_wp2;go_ret;exact⟨dD HF.o.symm,HG.o⟩
   ·have hb2:(kd != 4)=true:=by simpa using k2
    have HF:Hd (R=7):=by show _=_;rw[<-HR.o];unfold uC;rw[if_pos k1,if_pos k2]
    clear k1 k2 HR;go_wp2;go_ret;exact⟨dD HF.o.symm,HG.o⟩
  ·have hb1:(KY.toList == [102,111,114,109,97,116])=false:=(jr eP.o).2 k1;have HR2:Hd (R=if ky=jk/\kd=2 then 0 else 7):=by show _=_;rw[<-HR.o];unfold uC;rw[if_neg k1]
   by_cases k2:ky=jk
   ·have hb2:(KY.toList == [112,97,99,107,97,103,101])=true:=(jr eP.o).1 k2
    by_cases k3:kd=2
    ·have hb3:(kd == 2)=true:=by simpa using k3
     have HF:Hd (R=0):=by show _=_;rw[HR2.o,if_pos ⟨k2,k3⟩]
     clear k1 k2 k3 HR HR2;go_wp2;go_ret;exact⟨dD HF.o.symm,HG.o⟩
    ·have hb3:(kd == 2)=false:=by simpa using k3
     have HF:Hd (R=7):=by show _=_;rw[HR2.o,if_neg (fun h=>k3 h.2)]
     clear k1 k2 k3 HR HR2;go_wp2;go_ret;exact⟨dD HF.o.symm,HG.o⟩
   ·have hb2:(KY.toList == [112,97,99,107,97,103,101])=false:=(jr eP.o).2 k2;have HF:Hd (R=7):=by show _=_;rw[HR2.o,if_neg (fun h=>k2 h.1)]
    clear k1 k2 HR HR2;go_wp2;go_ret;exact⟨dD HF.o.symm,HG.o⟩
 ·obtain⟨r,-,mp,ox,kp,Lp,Ia,hbp,P3,f0,f4,hLp,P4,P1,P2,hRR⟩:=PR.o hp0;have C2:Hd (Calls prog 31 #[.slice (some ⟨N,0,none⟩) L c,.int .i64 (p:Nat)] W fun e w'=>e=.returned (.int .i64 (r:Nat))/\W=w'):=P3;have CI:Hd (Calls prog 32 #[.slice ox Lp mp,.int .i64 (i:Nat)] W fun e w'=>e=.returned (.int .i64 (Ia:Nat))/\W=w'):=P4;have Em:Hd (Calls prog 33 #[.slice (some ⟨N,0,none⟩) L c,.int .i64 (r:Nat),.int .i64 (p:Nat),.int .i64 (i:Nat)] W fun e w'=>e=.returned (.int .i64 (mF ns r p ⟨kd,ky,tx,nu,ks,pl⟩))/\Hd (W.grownBy w' none)):=P1;have Eo:Hd (Calls prog 34 #[.slice (some ⟨N,0,none⟩) L c,.int .i64 (p:Nat),.int .i64 (i:Nat)] W fun e w'=>e=.returned (.int .i64 (pY ns p i ⟨kd,ky,tx,nu,ks,pl⟩))/\Hd (W.grownBy w' none)):=P2;have HR:Hd ((if r=0/\kp=2 then(if 50<=Ia then 4 else 0) else if kp=0 then mF ns r p ⟨kd,ky,tx,nu,ks,pl⟩ else pY ns p i ⟨kd,ky,tx,nu,ks,pl⟩)=R):=hRR
  clear PR HR0 P1 P2 P3 P4 hRR hp0 b0 b1 b3;go_wp2_with (go_at_call 31;refine C2.o.mono ?_);rintro e w' ⟨rfl,rfl⟩;clear C2
  by_cases q:r=0/\kp=2
  ·obtain⟨q1,q2⟩:=q;subst q1;have hb2:(kp == 2)=true:=by simpa using q2
   by_cases q3:50<=Ia
   ·have hb3:(50:Int)<=(Ia:Int):=by omega
    have HF:Hd (R=4):=by show _=_;rw[<-HR.o,if_pos ⟨rfl,q2⟩,if_pos q3]
    clear q2 q3 HR Em Eo;go_wp2_with (go_at_call 32;refine CI.o.mono ?_;rintro e w' ⟨rfl,rfl⟩);go_ret;exact⟨dD HF.o.symm,HG.o⟩
   ·have hb3:¬(50:Int)<=(Ia:Int):=by omega
    have HF:Hd (R=0):=by show _=_;rw[<-HR.o,if_pos ⟨rfl,q2⟩,if_neg q3]
    clear q2 q3 HR Em Eo;go_wp2_with (go_at_call 32;refine CI.o.mono ?_;rintro e w' ⟨rfl,rfl⟩);go_ret;exact⟨dD HF.o.symm,HG.o⟩
  ·have HR2:Hd ((if kp=0 then mF ns r p ⟨kd,ky,tx,nu,ks,pl⟩ else pY ns p i ⟨kd,ky,tx,nu,ks,pl⟩)=R):=by show _=_;rw[<-HR.o,if_neg q]
   have hq:(((r:Int) == 0)=true/\(kp == 2)=false)\/((r:Int) == 0)=false:=by
    by_cases q1:r=0
    ·exact Or.inl ⟨by rw[q1];rfl,by simpa using fun e=>q ⟨q1,e⟩⟩
    ·exact Or.inr (by simpa using(show ¬(r:Int)=0 by omega))
   clear q HR CI
   by_cases q3:kp=0
   ·have hb3:(kp == 0)=true:=by simpa using q3
    have HF:Hd (mF ns r p ⟨kd,ky,tx,nu,ks,pl⟩=R):=by show _=_;rw[<-HR2.o,if_pos q3]
    rw[HF.o]at Em;clear q3 HR2 Eo
    rcases hq with⟨hq1,hq2⟩|hq1
    all_goals (
     go_wp2_with (go_at_call 33;refine Em.o.mono ?_;rintro e w' ⟨rfl,hg⟩);go_ret;exact⟨rfl,ah HG.o hg.o⟩)
   ·have hb3:(kp == 0)=false:=by simpa using q3
    have HF:Hd (pY ns p i ⟨kd,ky,tx,nu,ks,pl⟩=R):=by show _=_;rw[<-HR2.o,if_neg q3]
    rw[HF.o]at Eo;clear q3 HR2 Em
    rcases hq with⟨hq1,hq2⟩|hq1
    all_goals (
     go_wp2_with (go_at_call 34;refine Eo.o.mono ?_;rintro e w' ⟨rfl,hg⟩);go_ret;exact⟨rfl,ah HG.o hg.o⟩)
open Go.RowKit Go.Maps
theorem aeu(x:En)(o:Option Addr)(n c B:Nat)(t:ByteArray)(w:World)(hB:w.cell? ⟨B,0,none⟩=some (.string t)) :
  Calls prog 117 #[.agg #[.string x.nm,.string x.ve,.string x.dg,.slice o n c],.pointer (some ⟨B,0,none⟩)] w fun e w'=>e=.returned (.bool (decide (x.nm=t)))/\w.grownBy w' none:=by
 have hA:=(World.grownBy_alloc w (.cells #[.string x.nm,.string x.ve,.string x.dg,.slice o n c] 33) none).cell hB (by simp);have hg:=World.grownBy_alloc w (.cells #[.string x.nm,.string x.ve,.string x.dg,.slice o n c] 33) none;have HG:Hd (w.grownBy (w.alloc (.cells #[.string x.nm,.string x.ve,.string x.dg,.slice o n c] 33)) none):=hg;clear hg
 by_cases h:x.nm=t
 ·have q:=Oj h;rw[decide_eq_true h];clear h;go_enter func117,ntmps117;go_wp2;go_ret;exact⟨by first|rfl|exact bV q,HG.o⟩
 ·have q:=Ee h;rw[decide_eq_false h];clear h;go_enter func117,ntmps117;go_wp2;go_ret;exact⟨by first|rfl|exact bV q,HG.o⟩
theorem aev(o:Option Addr)(n c B:Nat)(t:ByteArray)(L:List En)(w:World)(hn:n=L.length)(h:EnS w (.slice o n c) L)(hL:L.length<=1048576)(hB:w.cell? ⟨B,0,none⟩=some (.string t)) :
  Calls prog 159 #[.slice o n c,.func (.func 117) #[] #[.pointer (some ⟨B,0,none⟩)]] w fun e w'=>∃k:Int,e=.returned (.int .i64 k)/\w.grownBy w' none/\(0<=k↔aZ L t=true):=by
 subst hn;have H1:Hd (EnS w (.slice o L.length c) L):=h;have CN:Hd (∀(x:En) o' n' c' w',w.grownBy w' none->Calls prog 117 #[.agg #[.string x.nm,.string x.ve,.string x.dg,.slice o' n' c'],.pointer (some ⟨B,0,none⟩)] w' fun e w''=>e=.returned (.bool (decide (x.nm=t)))/\w'.grownBy w'' none):=fun x o' n' c' w' hg=>aeu x o' n' c' B t w' (hg.cell hB (by simp))
 have HN:Hd (aZ (L.take L.length) t=false->aZ L t=false):=fun h=>by rwa [List.take_length]at h
 clear h hB;go_enter func159,ntmps159;go_wp2;go_loopw [8] (fun vi wr=>∃i:Nat,vi=.int .i64 i/\i<=L.length/\aZ (L.take i) t=false/\w.grownBy wr none) (fun vi _=>L.length-(intOf vi).toNat)
 case atStart=>exact⟨0,rfl,Nat.zero_le _,rfl,ax _ _⟩
 case round =>
  obtain⟨i,rfl,hi,hf,hg⟩:=hrel;have HF:Hd (aZ (L.take i) t=false):=hf;have HG:Hd (w.grownBy wr none):=hg
  by_cases hlt:i<L.length
  ·obtain⟨a,rfl,hcv,hat⟩:=Ol (H1.o.grow hg) hlt;obtain⟨e0,e1,e2,sv,e3,hsv⟩:=hat i hlt;obtain⟨so,sc,rfl⟩:=Am hsv;obtain⟨y,hy⟩:=zN (L[i]);rw[hy]at e0 e1 e2 e3;have HY:Hd (L[i]=y):=hy;have CY:Hd (Calls prog 117 #[.agg #[.string y.nm,.string y.ve,.string y.dg,.slice so y.nd.length sc],.pointer (some ⟨B,0,none⟩)] wr fun e w''=>e=.returned (.bool (decide (y.nm=t)))/\wr.grownBy w'' none):=CN.o y so _ sc wr hg;clear hf hg hy hsv hat
   by_cases hxy:y.nm=t
   ·rw[decide_eq_true hxy]at CY;have HT:Hd (aZ L t=true):=by
     show _=_;unfold aZ;rw[List.any_eq_true];exact⟨L[i],List.getElem_mem _,by rw[HY.o];simp[hxy]⟩
    clear hxy;go_wp2_with (go_at_call 117;refine CY.o.mono ?_);rintro e w2 ⟨rfl,hg2⟩;have HG2:Hd (w.grownBy w2 none):=ah HG.o hg2;clear hg2;go_wp2;go_ret;exact⟨(i:Int),rfl,HG2.o,fun _=>HT.o,fun _=>by omega⟩
   ·rw[decide_eq_false hxy]at CY;have HT:Hd (aZ (L.take (i+1)) t=false):=by
     show _=_;rw[JM L t i hlt,HF.o,HY.o];simpa using hxy
    clear hxy;go_wp2_with (go_at_call 117;refine CY.o.mono ?_);rintro e w2 ⟨rfl,hg2⟩;have HG2:Hd (w.grownBy w2 none):=ah HG.o hg2;clear hg2;go_wp2;exact⟨⟨i+1,by go_num,by omega,HT.o,HG2.o⟩,by simp[intOf];omega⟩
  ·have hil:i=L.length:=by omega
   have HT:Hd (aZ L t=false):=HN.o (by rw[<-hil];exact hf);clear hf hg hil hi;go_wp2;go_ret;exact⟨-1,rfl,HG.o,fun h=>by omega,fun h=>by rw[HT.o]at h;cases h⟩
theorem aew(o:Option Addr)(n c B:Nat)(t:ByteArray)(L:List En)(w:World)(hn:n=L.length)(h:EnS w (.slice o n c) L)(hL:L.length<=1048576)(hB:w.cell? ⟨B,0,none⟩=some (.string t)) :
  Calls prog 116 #[.slice o n c,.func (.func 117) #[] #[.pointer (some ⟨B,0,none⟩)]] w fun e w'=>e=.returned (.bool (aZ L t))/\w.grownBy w' none:=by
 have CI:Hd (Calls prog 159 #[.slice o n c,.func (.func 117) #[] #[.pointer (some ⟨B,0,none⟩)]] w fun e w'=>∃k:Int,e=.returned (.int .i64 k)/\w.grownBy w' none/\(0<=k↔aZ L t=true)):=aev o n c B t L w hn h hL hB;obtain⟨q,hq⟩:=zN (aZ L t);rw[hq]at CI ⊢;clear h hq hL hn hB
 cases q with
 | true =>
  have CJ:Hd (Calls prog 159 #[.slice o n c,.func (.func 117) #[] #[.pointer (some ⟨B,0,none⟩)]] w fun e w'=>(∃k:Int,e=.returned (.int .i64 k)/\0<=k)/\w.grownBy w' none):=CI.o.mono fun e w' ⟨k,h1,h2,h3⟩=>⟨⟨k,h1,h3.2 rfl⟩,h2⟩
  clear CI;go_enter func116,ntmps116;go_wp2_with (go_at_call 159;refine CJ.o.mono ?_);rintro e w1 ⟨⟨k,rfl,hk⟩,hg⟩;go_wp2;go_ret;exact⟨bV (by first|rfl|(simp;done)|(simp;omega)),hg⟩
 | false =>
  have CJ:Hd (Calls prog 159 #[.slice o n c,.func (.func 117) #[] #[.pointer (some ⟨B,0,none⟩)]] w fun e w'=>(∃k:Int,e=.returned (.int .i64 k)/\k<0)/\w.grownBy w' none):=CI.o.mono fun e w' ⟨k,h1,h2,h3⟩=>⟨⟨k,h1,Int.not_le.1 (fun h=>by have:=h3.1 h;cases this)⟩,h2⟩
  clear CI;go_enter func116,ntmps116;go_wp2_with (go_at_call 159;refine CJ.o.mono ?_);rintro e w1 ⟨⟨k,rfl,hk⟩,hg⟩;go_wp2;go_ret;exact⟨bV (by first|rfl|(simp;done)|(simp;omega)),hg⟩
end Go.Proofs.YtnnbgjaphfhibaaGreatDoor
