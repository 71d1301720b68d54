import Derived.Test.YtiinliaoojfjaaaGreatDoorF44
import Derived.Test.YtiinliaoojfjaaaGreatDoorF43
set_option linter.all false
set_option maxRecDepth 100000
set_option maxHeartbeats 0
open Go.Proofs.Tryz
namespace Go.Proofs.YtiinliaoojfjaaaGreatDoor
open Go.RowKit
theorem Gt{w w':World}(h:w.grownBy w' none)(S:Nat):w.grownBy w' (some S):=⟨h.os,h.tape,h.output,h.size,fun k hk _=>h.block k hk (by simp)⟩
theorem ai4(N:List Nd)(L:List Re)(O:List En)(no lo oo:Option Addr)(nc lc oc:Nat)(S:Nat)(w0:World)(hS0:w0.heap.size<=S)(hn:NdS w0 (.slice no N.length nc) N)(h:ReS w0 (.slice lo L.length lc) L)(ho:EnS w0 (.slice oo O.length oc) O)(hN:N.length<=1040000)(hL:L.length<=64)(hLN:∀x∈L,x.nd.length<=64)(hO:O.length<=1048576)(hrN:∀y∈N,okR y.r=true/\y.r.size<2 ^ 60)(hrL:∀x∈L,∀y∈x.nd,okR y.r=true/\y.r.size<2 ^ 60)(hV:∀x∈L,x.ve.size<2 ^ 60)(hOV:∀x∈O,x.ve.size<2 ^ 60) :
  ∀(d:Nat) (row:List ByteArray) (ch:List Nat) (ro co:Option Addr) (rc cc:Nat) (f:Int) (w:World),L.length+1-ch.length=d->SInv N L row ch->row.length<=N.length+64*ch.length->f<9223372036854775808->Sx w S (.slice no N.length nc) (.slice lo L.length lc) (.slice oo O.length oc) f false->w0.grownBy w none->TxS w (.slice ro row.length rc) row->Nb S ro->IS w (.slice co ch.length cc) (ch.map fun(k:Nat)=>(k:Int))->Nb S co →
   Calls prog 32 #[.pointer (some ⟨S,0,none⟩),.slice ro row.length rc,.slice co ch.length cc] w (O9 (dC (dL L O) (dG N L) (bG L) d row ch f.toNat) f S (.slice no N.length nc) (.slice lo L.length lc) (.slice oo O.length oc) w):=by
 intro d
 induction d with
 | zero =>
  intro row ch ro co rc cc f w hd hI;exact absurd hI.few (by omega)
 | succ d ih =>
 intro row ch ro co rc cc f w hd hI hrl hf hs hg0 hr hrS hc hcS;have IH:=ae ih;have HI:=ae hI;have Js:=ae hs;have hfew:=hI.few;have hle:=hI.le;have mQ:=ae hg0;clear ih
 by_cases hl:ch.length=row.length
 ·have HR1:Hd (dC (dL L O) (dG N L) (bG L) (d+1) row ch f.toNat=.yes ch):=by
   show dC (dL L O) (dG N L) (bG L) (d+1) row ch f.toNat=.yes ch;rw[dC,if_pos hl]
  obtain⟨R,hR⟩:=zN (dC (dL L O) (dG N L) (bG L) (d+1) row ch f.toNat);rw[hR]at HR1 ⊢;have hl2:((ch.length:Int) == (row.length:Int))=true:=by simp[hl]
  have HC:=ae hc;clear hR hl hI hs hg0 hr hc hle hd hrl hn h ho hrN hrL hV hOV hLN;go_enter func32,ntmps32;go_wp2;refine bodyPost_ret (results_tmp2 (t:=6) (u:=7) rfl _ _ _) rfl ?_;exact⟨_,true,rfl,ai _ _,f,Int.le_refl _,Or.inr (Or.inr ⟨ch,co,cc,HR1.o,rfl,rfl,HC.o,Js.o⟩)⟩
 ·have hlt0:ch.length<row.length:=by omega
  have hl2:((ch.length:Int) == (row.length:Int))=false:=by simp;omega
  obtain⟨ar,har,hcr,Zg⟩:=aeN hr hlt0;have e0:=Zg ch.length hlt0;have HX:Hd (row[ch.length]?=some row[ch.length]):=List.getElem?_eq_getElem hlt0;have aA:Hd (eu (fun k f=>dC (dL L O) (dG N L) (bG L) d (aU row (bG L k)) (ch++[k]) f) (dG N L ch) (dL L O row[ch.length]) f.toNat=dC (dL L O) (dG N L) (bG L) (d+1) row ch f.toNat):=by
   show _=dC (dL L O) (dG N L) (bG L) (d+1) row ch f.toNat;rw[dC,if_neg hl,List.getD_eq_getElem?_getD,List.getElem?_eq_getElem hlt0];rfl
  obtain⟨R,hR⟩:=zN (dC (dL L O) (dG N L) (bG L) (d+1) row ch f.toNat);obtain⟨go,hgo⟩:∃go:Nat->Nat->Fd,(fun k f=>dC (dL L O) (dG N L) (bG L) d (aU row (bG L k)) (ch++[k]) f)=go:=⟨_,rfl⟩;have Fq:Hd (∀k f,go k f=dC (dL L O) (dG N L) (bG L) d (aU row (bG L k)) (ch++[k]) f):=fun k f=>by rw[<-hgo]
  rw[hR,hgo]at aA;rw[hR];obtain⟨x,hx⟩:=zN (row[ch.length]);rw[hx]at e0 HX aA;have C1:=ae (ahD S lo oo lc oc (.slice no N.length nc) f false L O x w hs (h.grow hg0) (ho.grow hg0) (by omega) (fun y hy=>by have:=hV y hy;omega) hO (fun y hy=>by have:=hOV y hy;omega));have Zh:∀k∈ch,k<L.length:=fun k hk=>by
   obtain⟨i,hi⟩:=List.getElem?_of_mem hk;exact(hI.nm i k hi).1
  have HSw:Hd (S<w.heap.size):=(aC hs);have CF:=ae (fun(w':World) (F:Int) (k:Nat) (hs':Sx w' S (.slice no N.length nc) (.slice lo L.length lc) (.slice oo O.length oc) F false) (hg:w.grownBy w' (some S)) (hk:k<L.length)=>ahL S no lo co nc lc cc (.slice oo O.length oc) F false N L ch k w' hs' (hn.grow (sK hg0 hg (fun q e=>by cases e;exact hS0))) (h.grow (sK hg0 hg (fun q e=>by cases e;exact hS0))) (XZ hc hg hcS) hN hL hLN (by omega) Zh hk hI.one hrN hrL hV);have gq:=ae (fun(w':World) (hg:w.grownBy w' (some S)) k (hk:k<L.length)=>lq (h.grow (sK hg0 hg (fun q e=>by cases e;exact hS0))) hk);have HEW:=ae (fun k (hk:k<L.length)=>lq h hk);have CMO:=ae (fun(w':World) (hg:w.grownBy w' (some S)) (no:Option Addr) (nc:Nat) (M:List Nd) (hM:NdS w' (.slice no M.length nc) M) (hml:M.length<=64)=>XE ro no rc nc row M w' (ahQ hr hg hrS) hM (by omega) (by omega))
  have F8:=ae (fun(w':World) (hg:w.grownBy w' (some S))=>ahR (XZ hc hg hcS));have xQ:=ae (fun k (hk:k<L.length)=>Df L k hk);have bW:=ae (fun k (hk:k<L.length)=>hLN L[k] (List.getElem_mem hk));have HD:=ae hd;have nY:=ae hrl;obtain⟨i0,hi0,hii⟩:=Option.map_eq_some_iff.1 FC;simp only[Prod.mk.injEq]at hii;obtain⟨hz0,hz1,hzb⟩:=hii;subst har;clear hR hgo hl hI hs hg0 hr hc hle hd hrl hn h ho hrN hrL hV hOV hLN hx Zg Zh;go_enter func32,ntmps32;go_wp2_with (go_at_call 66;refine C1.o.mono ?_);rintro e w1 ⟨v,cs,rfl,hown,hb,Zi,hcl⟩;have hcd:=zG Zi;have IK:Hd (∀k∈cs,k<L.length/\aF L k=x):=fun k hk=>yB (by rw[hcd];exact hk)
  have hrs:=aA.o;rw[hcd]at hrs;have ai5:=ae hrs;have HCM:Hd (∀k∈cs,k∈dL L O x):=fun k hk=>by rw[hcd];exact hk
  have hg1:w.grownBy w1 none:=gz hb;have pF:=ae (Js.o.grow hg1);have bg:=ae (Gt hg1 S);obtain⟨o1,c1,rfl,-⟩:=F6 hown;obtain⟨base,hbase⟩:=zN (w.heap.size);rw[hbase]at hown;have HOW:=ae hown;have WJ:Hd (S<base):=by rw[<-hbase];exact HSw.o
  clear hown hb Zi hcd hrs hg1 e0 hbase;go_wp2;go_loopw [9] (fun vi wr=>∃(i:Nat) (F:Int) (b:Bool),vi=.int .i64 i/\i<=cs.length/\F<=f/\(b=false->eu go (dG N L ch) (cs.drop i) F.toNat=R)/\(b=true->R=.dry)/\Sx wr S (.slice no N.length nc) (.slice lo L.length lc) (.slice oo O.length oc) F b/\w.grownBy wr (some S)/\wr.ownsRow base 3 1 (.slice o1 cs.length c1) cs.length (nI cs)) (fun vi _=>cs.length-(intOf vi).toNat)
  case atStart=>exact⟨0,f,false,rfl,Nat.zero_le _,Int.le_refl _,fun _=>ai5.o,fun h=>(by cases h),pF.o,bg.o,HOW.o⟩
  case round =>
   obtain⟨i,F,b,rfl,hi,hF,hb0,hb1,hsx,hg,hown⟩:=hrel;have lC:=ae hsx;have HG:=ae hg;have HOR:=ae hown;obtain⟨-,s1,-,s3,s4,sf⟩:=hsx.cells;have sf3:=sf 3;have sf4:=sf 4;obtain⟨wo,hwo⟩:∃wo,wo=wr:=⟨_,rfl⟩;subst hwo;clear sf hsx
   cases b with
   | true =>
    have HZ:=ae (hb1 rfl);clear hb0 hb1 hg hown
    by_cases hlt:i<cs.length
    ·go_wp2;refine bodyPost_ret (results_tmp2 (t:=6) (u:=7) rfl _ _ _) rfl ?_;exact⟨_,false,rfl,HG.o,F,hF,Or.inl ⟨HZ.o,rfl,lC.o⟩⟩
    ·go_wp2;refine bodyPost_ret (results_tmp2 (t:=6) (u:=7) rfl _ _ _) rfl ?_;exact⟨_,false,rfl,HG.o,F,hF,Or.inl ⟨HZ.o,rfl,lC.o⟩⟩
   | false =>
    have hrr:=hb0 rfl;clear hb0 hb1
    by_cases hlt:i<cs.length
    ·rw[List.drop_eq_getElem_cons hlt]at hrr;obtain⟨o1',c1',eo,lG⟩:=F6 hown;injection eo with eo1 _ eo2
     subst eo1 eo2;obtain⟨g,hg0,hcap,hck⟩:=lG i hlt;have Gh:=IK.o cs[i] (List.getElem_mem hlt);have Zj:=HCM.o cs[i] (List.getElem_mem hlt);obtain⟨k,hk⟩:=zN (cs[i]);rw[hk]at hck hrr Gh Zj;obtain⟨bK,hkx⟩:=Gh;have HKX:=ae hkx;have HRR:=ae hrr;have hic:i<c1:=by omega
     subst hg0;clear lG hk hrr hkx Zj
     by_cases hF0:F<=0
     ·have HZ:Hd (R=.dry):=by
       show R=.dry;rw[<-HRR.o,show F.toNat=0 by omega];rfl
      have HE:=ae (And.intro (bI hg 4 (.bool true)) lC.o.outS);clear hg hown;go_wp2;refine bodyPost_ret (results_tmp2 (t:=6) (u:=7) rfl _ _ _) rfl ?_;exact⟨_,false,rfl,HE.o.1,F,hF,Or.inl ⟨HZ.o,rfl,HE.o.2⟩⟩
     ·have HR2:Hd ((if dG N L ch k=true then(match go k (F-1).toNat with | .no f''=>eu go (dG N L ch) (cs.drop (i+1)) f''|z=>z) else eu go (dG N L ch) (cs.drop (i+1)) (F-1).toNat)=R):=by
       show _=R;rw[<-HRR.o,show F.toNat=(F-1).toNat+1 by omega];rfl
      have hF1:0<F:=by omega
      have hF2:F<9223372036854775808:=by omega
      have DL:=ae (lC.o.fuel (F-1));have je:=ae (bI hg 3 (.int .i64 (F-1)));have qR:Hd (¬g=S):=fun e=>by
       have h1:=(hown.lt g rfl).1;have h2:=WJ.o;omega
      have jY:Hd ((wo.setCell ⟨S,3,none⟩ (.int .i64 (F-1))).ownsRow base 3 1 (.slice (some ⟨g,0,none⟩) cs.length c1) cs.length (nI cs)):=hown.kept (bI (ai wo _) 3 _) (Or.inr fun e=>qR.o (Option.some.inj e));have Zk:=(bI (ai wo (some S)) 3 (.int .i64 (F-1))).cell hck (fun e=>qR.o (Option.some.inj e));have hcf:=CF.o _ (F-1) k DL.o je.o bK;obtain⟨q,hq⟩:=zN (dG N L ch k);rw[hq]at hcf HR2;have HQ:=ae hq;have C5:=ae hcf;clear hg hown hcf hq;go_wp2_with (first|(go_at_call 67;refine C5.o.mono ?_));rintro e w6 rfl dP;have P9:=ae (DL.o.grow dP);have jq:=ae (ag je.o (Gt dP S));have dZ:=ae (dV jY.o dP);have Zl:=ae (dP.cell Zk (by simp));clear dP s1 s3 s4 sf3 sf4 hck hF0 Zk
      cases q with
      | false =>
       have Gj:Hd (eu go (dG N L ch) (cs.drop (i+1)) (F-1).toNat=R):=by
        have:=HR2.o;rw[if_neg (by simp)]at this;exact this
       go_wp2;exact⟨⟨i+1,F-1,false,by go_num,by omega,by omega,fun _=>Gj.o,fun h=>(by cases h),P9.o,jq.o,dZ.o⟩,by simp[intOf];omega⟩
      | true =>
       have HR3:Hd ((match go k (F-1).toNat with | .no f''=>eu go (dG N L ch) (cs.drop (i+1)) f''|z=>z)=R):=by
        have:=HR2.o;rw[if_pos rfl]at this;exact this
       have ai6:=ae (F8.o w6 jq.o);obtain⟨b6,hb6⟩:=zN (w6.heap.size);have JM:=ae hb6;clear hb6;go_upto_region 15 with(first|(at_builtin;refine IL (base:=b6) rfl _ _ 31 rfl i0 (.int .i64 0) 8 underlying31 hi0 hz0 hz1 hzb rfl (by decide) rfl co ch.length cc (nI ch) rfl ai6.o (by unfold maxLen;omega) (by omega) (by rw[JM.o];exact Nat.le_refl _) ?_;intro o7 c7 w7 hown7 iw))
       have hs7:=iw.size;rw[JM.o]at hs7;have hck:=iw.cell Zl.o (by simp);go_wp2_with (first|(at_builtin;refine wpList_append_lies _ rfl _ _ 31 rfl b6 3 i0 (.int .i64 0) 1 8 underlying31 hi0 hz0 hz1 hzb rfl (by decide) _ _ _ rfl (hown7.alloc _) _ 1 1 [.int .i64 (k:Int)] rfl rfl (World.news_of_block (heap_alloc_new _ _)) (F7 [k]) (by decide) (by unfold maxLen;omega) (by omega) (by simp;omega) _ rfl ?_;intro g8 cap8 w8 tJ hgrow8 hat8 hlt8));have Gu:w6.grownBy w8 none:=sK (ak iw _) hgrow8 (fun q hq=>by rw[JM.o];exact(hown7.lt q hq).1);have ai7:=ae Gu;have nH:Hd (w8.ownsRow b6 3 1 (.slice (some ⟨g8,0,none⟩) (ch++[k]).length cap8) (ch++[k]).length (nI (ch++[k]))):=by
        show World.ownsRow _ _ _ _ _ _ _;rw[nI,List.map_append,List.length_append];exact tJ
       have Qa:=ae (P9.o.grow Gu);have Dn:=ae (ag jq.o (Gt Gu S));have HC8:=ae (dV dZ.o Gu);have hsb:S<b6:=by
        have h1:=(aC P9.o);rw[JM.o]at h1;exact h1
       obtain⟨a2,ho2,hcp2,gu⟩:=gq.o w8 Dn.o k bK;obtain⟨a3,ho3,-,iI⟩:=HEW.o k bK;obtain rfl:a2=a3:=Option.some.inj (ho2.symm.trans ho3);have hblk:(a2.add (k*4)).block<w0.heap.size:=qP (iI k bK).1;obtain⟨-,-,⟨sv,q2,q2'⟩,-⟩:=gu k bK;have hml:=bW.o k bK;have hns:=xQ.o k bK;obtain⟨y,hy⟩:=zN (L[k]);rw[hy]at q2' hml hns;obtain⟨so,sc,rfl⟩:=Jp q2';have CM:=ae (CMO.o w8.drew (ag Dn.o (Gt (yD w8) S)) so sc y.nd (q2'.grow (yD w8)) hml);rw[<-hns]at CM;have Dp:=ae hns;obtain⟨R',hR'⟩:=zN (aU row (bG L k));have hsi:SInv N L R' (ch++[k]):=by
        rw[<-hR',wU];exact HI.o.step bK (by rw[HX.o,HKX.o]) (rq.1 HQ.o)
       have Zm:R'.length<=N.length+64*(ch++[k]).length:=by
        have h1:=xP (bG L k) row;rw[hR',hns,List.length_map]at h1;have h2:=nY.o;rw[List.length_append,List.length_singleton];omega
       have jv:Hd (go k (F-1).toNat=dC (dL L O) (dG N L) (bG L) d R' (ch++[k]) (F-1).toNat):=by
        show go k (F-1).toNat=_;rw[Fq.o,hR']
       rw[hR']at CM;have C9:Hd (∀o9 c9 w9,w9.ownsRow w8.drew.heap.size 9 1 (.slice o9 R'.length c9) R'.length (R'.map Value.string)->Below w8.drew.heap.size w8.drew w9->Calls prog 32 #[.pointer (some ⟨S,0,none⟩),.slice o9 R'.length c9,.slice (some ⟨g8,0,none⟩) (ch.length+1) cap8] w9 (O9 (go k (F-1).toNat) (F-1) S (.slice no N.length nc) (.slice lo L.length lc) (.slice oo O.length oc) w9)):=fun o9 c9 w9 h1 h2=>by
        have ji:w8.grownBy w9 none:=ag (yD w8) (gz h2);have hs8:S<w8.heap.size:=(aC Qa.o);have h3:=IH.o R' (ch++[k]) o9 (some ⟨g8,0,none⟩) c9 cap8 (F-1) w9 (by have:=HD.o;rw[List.length_append,List.length_singleton];omega) hsi Zm (by omega) (Qa.o.grow ji) (ag (sK mQ.o Dn.o (fun q e=>by cases e;exact hS0)) ji) (O8 h1) (O7 h1 hs8) ((wX nH.o).grow ji) (O7 nH.o hsb);rw[List.length_append,List.length_singleton]at h3;rw[jv.o];exact h3
       have HAB:Hd (¬(⟨g,i,none⟩:Addr).block=S/\¬(⟨(a2.add (k*4)).block,(a2.add (k*4)).off+2,none⟩:Addr).block=S):=⟨qR.o,by show ¬(a2.add (k*4)).block=S;omega⟩;have ai8:=ai7.o.cell Zl.o (by simp);obtain⟨-,s1,-⟩:=Qa.o.cells;have hkc:k<lc:=by omega
       subst ho2;clear hown7 iw hs7 tJ hgrow8 hat8 hlt8 Gu hck gu iI ho3 hblk q2' hy hns hR' hsi Zm hcp2;go_wp2
       go_region_held3 (fun u=>u.cell? ⟨S,1,none⟩=some (.slice (some a2) L.length lc)/\u.cell? ⟨g,i,none⟩=some (.int .i64 (k:Int))/\u.cell? ⟨(a2.add (k*4)).block,(a2.add (k*4)).off+2,none⟩=some (.slice so y.nd.length sc)) ((first|exact Oe (by assumption) (by assumption)|exact ahS (Hd.o (by assumption)) HAB.o.1 HAB.o.2 (by assumption)|go_keep)) (first|(go_at_call 33;refine CM.o.mono ?_;rintro e w9 ⟨vr,rfl,hor,hbr⟩;have hgm:w8.drew.grownBy w9 none:=gz hbr;obtain⟨o9,c9,rfl,-⟩:=Jo hor)|(go_at_call 32;refine(C9.o o9 c9 w9 hor hbr).mono ?_;rintro e w10 ⟨vo,bo,rfl,hp⟩))
       obtain⟨mi,F',hF',hres⟩:=hp.o;have lK:w8.grownBy w9 none:=ag (yD w8) hgm;have yJ:=ae (ag Dn.o (ag (Gt lK S) mi));have ai9:Hd (w10.ownsRow base 3 1 (.slice (some ⟨g,0,none⟩) cs.length c1) cs.length (nI cs)):=(dV HC8.o lK).kept mi (Or.inr fun e=>qR.o (Option.some.inj e));have jO:=ae hres;clear mi lK hp hgm hor hbr ai8 s1 q2 hres
       cases bo with
       | true =>
        obtain⟨ch',o,c,hr,oD,his,hsx⟩:∃(ch':List Nat) (o:Option Addr) (c:Nat),go k (F-1).toNat=.yes ch'/\vo=.slice o ch'.length c/\IS w10 (.slice o ch'.length c) (ch'.map fun(k:Nat)=>(k:Int))/\Sx w10 S (.slice no N.length nc) (.slice (some a2) L.length lc) (.slice oo O.length oc) F' false:=by
         rcases jO.o with⟨-,h,-⟩|⟨-,h,-⟩|⟨ch',o,c,h1,-,h2,h3,h4⟩
         ·cases h
         ·cases h
         ·exact⟨ch',o,c,h1,h2,h3,h4⟩
        have HZ:Hd (R=.yes ch'):=by
         show R=_;rw[<-HR3.o,hr]
        have HE:=ae (And.intro oD (And.intro his hsx));clear hr oD his hsx;go_wp2;refine bodyPost_ret (results_tmp2 (t:=6) (u:=7) rfl _ _ _) rfl ?_;exact⟨_,true,rfl,yJ.o,F',by omega,Or.inr (Or.inr ⟨ch',o,c,HZ.o,rfl,HE.o.1,HE.o.2.1,HE.o.2.2⟩)⟩
       | false =>
        obtain⟨b',hz0',hz1',hsx⟩:∃b':Bool,(b'=false->eu go (dG N L ch) (cs.drop (i+1)) F'.toNat=R)/\(b'=true->R=.dry)/\Sx w10 S (.slice no N.length nc) (.slice (some a2) L.length lc) (.slice oo O.length oc) F' b':=by
         have h3:=HR3.o
         rcases jO.o with⟨hr,-,h⟩|⟨hr,-,h⟩|⟨ch',o,c,-,h,-⟩
         ·rw[hr]at h3;exact⟨true,fun h=>(by cases h),fun _=>h3.symm,h⟩
         ·rw[hr]at h3;exact⟨false,fun _=>h3,fun h=>(by cases h),h⟩
         ·cases h
        have HE:=ae (And.intro hz0' (And.intro hz1' hsx));clear hz0' hz1' hsx;go_wp2;exact⟨⟨i+1,F',b',by go_num,by omega,by omega,HE.o.1,HE.o.2.1,HE.o.2.2,yJ.o,ai9.o⟩,by simp[intOf];omega⟩
    ·have HZ:Hd (R=.no F.toNat):=by
      show R=_;rw[<-hrr,List.drop_eq_nil_of_le (by omega)];rfl
     clear hrr hg hown;go_wp2;refine bodyPost_ret (results_tmp2 (t:=6) (u:=7) rfl _ _ _) rfl ?_;exact⟨_,false,rfl,HG.o,F,hF,Or.inr (Or.inl ⟨HZ.o,rfl,lC.o⟩)⟩
open Go.RowKit
theorem aja(N:List Nd)(L:List Re)(O:List En)(fu:Int):dC (dL L O) (dG N L) (bG L) (L.length+1) (aU [] (N.map (·.n))) [] fu.toNat=jB N L O fu:=by
 unfold jB;rw[show(max fu 0).toNat=fu.toNat by omega]
theorem Gw(no lo oo:Option Addr)(nc lc oc:Nat)(N:List Nd)(L:List Re)(O:List En)(fu:Int)(w:World)(h:NdS w (.slice no N.length nc) N)(h':ReS w (.slice lo L.length lc) L)(ho:EnS w (.slice oo O.length oc) O)(hN:N.length<=1040000)(hL:L.length<=1048576)(hLN:∀x∈L,x.nd.length<=1048576)(hS:∀y∈N,y.n.size<2 ^ 60/\y.r.size<2 ^ 60)(hSS:∀x∈L,∀y∈x.nd,y.n.size<2 ^ 60/\y.r.size<2 ^ 60)(hV:∀x∈L,x.nm.size<2 ^ 60/\x.ve.size<2 ^ 60)(hO:O.length<=1048576)(hOV:∀x∈O,x.ve.size<2 ^ 60)(hfu:fu<9223372036854775808) :
  Calls prog 12 #[.slice no N.length nc,.slice lo L.length lc,.slice oo O.length oc,.int .i64 fu] w (Xy N L O fu w):=by
 have C1:=ae (OV _ L w h' hL hV hLN hSS);have C2:=ae (fun w' (hg:w.grownBy w' none)=>OB _ N w' (h.grow hg) (by omega) hS);have HF:Hd (fE N L=if(bQ L L.length).1=0 then bY N else 7):=rfl;have Ae:=ae (fun hk:(bQ L L.length).1=0=>uN L hk);have HWZ:=ae (fun hk:bY N=0=>Dx hk);have CG:Hd ((bQ L L.length).1=0->bY N=0->∀w2 W3 w4 o4 c4,w.grownBy w2 none->w2.alloc (.cells #[.slice no N.length nc,.slice lo L.length lc,.slice oo O.length oc,.int .i64 fu,.bool false] 79)=W3->w4.ownsRow W3.heap.size 9 1 (.slice o4 (aU [] (N.map (·.n))).length c4) (aU [] (N.map (·.n))).length ((aU [] (N.map (·.n))).map Value.string)->Below W3.heap.size W3 w4->Calls prog 32 #[.pointer (some ⟨w2.heap.size,0,none⟩),.slice o4 (aU [] (N.map (·.n))).length c4,.slice none 0 0] w4 (O9 (jB N L O fu) fu w2.heap.size (.slice no N.length nc) (.slice lo L.length lc) (.slice oo O.length oc) w4)):=fun k1 k2 w2 W3 w4 o4 c4 hg hW hown hb=>by
  obtain⟨q1,q2⟩:=uN L k1;have hs3:Sx W3 w2.heap.size (.slice no N.length nc) (.slice lo L.length lc) (.slice oo O.length oc) fu false:=by rw[<-hW];exact heap_alloc_new w2 _
  have hg3:w2.grownBy W3 none:=by rw[<-hW];exact ak (ai w2 none) _
  have hg4:W3.grownBy w4 none:=gz hb;have hlt:w2.heap.size<W3.heap.size:=(aC hs3);have hml:=xP (N.map (·.n)) [];rw[List.length_map,List.length_nil]at hml;have:=ai4 N L O no lo oo nc lc oc w2.heap.size w2 (Nat.le_refl _) (h.grow hg) (h'.grow hg) (ho.grow hg) hN (by omega) (fun x hx=>by have:=(q2 x hx).1;omega) hO (fun y hy=>⟨by
   have:=Dx k2 y hy;unfold iC at this;rw[Bool.and_eq_true]at this;exact this.2,(hS y hy).2⟩) (fun x hx y hy=>⟨(q2 x hx).2.2 y hy,(hSS x hx y hy).2⟩) (fun x hx=>(hV x hx).2) hOV (L.length+1) (aU [] (N.map (·.n))) [] o4 none c4 0 fu w4 rfl (Dz N L) (by simp only[List.length_nil];omega) hfu (hs3.grow hg4) (ag hg3 hg4) (O8 hown) (O7 hown hlt) (Or.inl ⟨rfl,rfl⟩) (fun a ha=>by cases ha)
  rw[aja]at this;exact this
 have CM:=ae (fun w' (hg:w.grownBy w' none)=>XE none no 0 nc [] N w' (Or.inl ⟨rfl,rfl⟩) (h.grow hg) (by simp) (by omega));have CB:=ae (fun(k1:(bQ L L.length).1=0) (ch:List Nat) (hr:jB N L O fu=.yes ch) w' (hg:w.grownBy w' none) (o:Option Addr) (c:Nat) (his:IS w' (.slice o ch.length c) (ch.map fun(k:Nat)=>(k:Int)))=>(show Calls prog 34 #[.slice lo L.length lc,.slice o ch.length c] w' fun e w''=>∃(o:Option Addr) (c:Nat) (C:List Nat),e=.returned (.slice o C.length c)/\Hd (w'.grownBy w'' none/\w''.ownsRow w.heap.size 3 1 (.slice o C.length c) C.length (nI C)/\C.Perm ch/\(C.Pairwise fun a b=>cT (aF L a) (aF L b)<=0)/\(C.map (aF L)).Nodup/\C.length<=64/\∀k∈C,k<L.length) from by
  obtain⟨q1,q2⟩:=uN L k1;obtain⟨row',hs',-⟩:=XG _ _ _ _ (Dz N L) hr;have hfew:=hs'.few;have hlt:∀k∈ch,k<L.length:=fun k hk=>by
   obtain⟨i,hi⟩:=List.getElem?_of_mem hk;exact(hs'.nm i k hi).1
  refine(ahV lo o lc c L ch w' (h'.grow hg) his (by omega) (by omega) hlt hs'.one).mono ?_;rintro e w'' ⟨o',c',C,rfl,e1,e2,e3,e4⟩;exact⟨o',c',C,rfl,e1,MX e2 hg.size,e3,e4,(e3.map (aF L)).nodup_iff.2 hs'.one,by rw[e3.length_eq];omega,fun k hk=>hlt k (e3.subset hk)⟩))
 have hml:=xP (N.map (·.n)) [];rw[List.length_map,List.length_nil]at hml;have hmo:=CM;obtain⟨F,hF⟩:=zN ((bQ L L.length).1);obtain⟨P,hP⟩:=zN ((bQ L L.length).2);obtain⟨M,hM⟩:=zN (bY N);obtain⟨Q,hQ⟩:=zN (aU [] (N.map (·.n)));rw[hF,hP]at C1;rw[hM]at C2;rw[hF,hM]at HF;rw[hF,hM,hQ]at CG;rw[hQ]at CM;rw[hF]at CB;clear h h' ho hLN hS hSS hV hOV hF hP hM hQ hmo hml Ae HWZ;go_enter func12,ntmps12;go_wp2_with (go_at_call 20;refine C1.o.mono ?_);rintro e w1 ⟨rfl,hg1⟩;have bg:=ae hg1;have C3:=ae (C2.o w1 hg1);clear hg1
 by_cases hF0:F=0
 ·subst hF0;go_wp2_with (go_at_call 31;refine C3.o.mono ?_);rintro e w2 ⟨rfl,hg2⟩;have HG2:=ae (ag bg.o hg2);clear hg2
  by_cases hM0:M=0
  ·subst hM0;have Qb:Hd (fE N L=0):=HF.o;obtain⟨S,hS⟩:=zN (w2.heap.size);obtain⟨W3,hW3⟩:=zN (w2.alloc (.cells #[.slice no N.length nc,.slice lo L.length lc,.slice oo O.length oc,.int .i64 fu,.bool false] 79));have hg3:w2.grownBy W3 none:=by rw[<-hW3];exact ak (ai w2 none) _
   have C4:=ae (CM.o W3 (ag HG2.o hg3));have C5:=ae (fun w4 o4 c4=>CG.o (by trivial) (by trivial) w2 W3 w4 o4 c4 HG2.o hW3);rw[hS]at C5;have HSW:Hd (w.heap.size<=S):=by rw[<-hS];exact HG2.o.size
   have dD:=ae (ag HG2.o hg3);clear hg3;go_wp2_with (first|(go_at_call 33;refine C4.o.mono ?_));rintro e w4 ⟨vr,rfl,hor,hbr⟩;obtain⟨o4,c4,rfl,-⟩:=Jo hor;have C6:=ae (C5.o w4 o4 c4 hor hbr);have eX:=ae (ag dD.o (gz hbr));clear hor hbr hW3 hS;go_wp2_with (go_at_call 32;refine C6.o.mono ?_);rintro e w5 ⟨vo,bo,rfl,hp⟩;obtain⟨hg5,F',hF',hres⟩:=hp.o;have je:Hd (w.grownBy w5 none):=sK eX.o hg5 (fun q e=>by cases e;exact HSW.o);clear hp hg5
   rcases hres with⟨hr,rfl,hsx⟩|⟨hr,rfl,hsx⟩|⟨ch',o,c,hr,rfl,oD,his,hsx⟩
   ·have HR:=ae hr;obtain⟨-,-,-,-,s4,-⟩:=hsx.cells;clear hr hsx;go_wp2;refine bodyPost_ret (results_tmp2 (t:=8) (u:=9) rfl _ _ _) rfl ?_;exact⟨je.o,none,0,[],10,rfl,World.ownsRow_nil _ _ _ _,Or.inr (Or.inl ⟨Qb.o,HR.o,rfl,rfl⟩)⟩
   ·have HR:=ae hr;obtain⟨-,-,-,-,s4,-⟩:=hsx.cells;clear hr hsx;go_wp2;refine bodyPost_ret (results_tmp2 (t:=8) (u:=9) rfl _ _ _) rfl ?_;exact⟨je.o,none,0,[],8,rfl,World.ownsRow_nil _ _ _ _,Or.inr (Or.inr (Or.inl ⟨Qb.o,⟨_,HR.o⟩,rfl,rfl⟩))⟩
   ·have HR:=ae hr;obtain⟨-,-,-,-,s4,-⟩:=hsx.cells;have C7:=ae (CB.o (by trivial) ch' hr w5 je.o o c his);rw[oD];clear hr hsx his oD;go_wp2_with (go_at_call 34;refine C7.o.mono ?_);rintro e w6 ⟨o6,c6,C,rfl,hfin⟩;go_wp2;refine bodyPost_ret (results_tmp2 (t:=8) (u:=9) rfl _ _ _) rfl ?_;exact⟨ag je.o hfin.o.1,o6,c6,C,0,rfl,hfin.o.2.1,Or.inr (Or.inr (Or.inr ⟨Qb.o,rfl,⟨ch',HR.o,hfin.o.2.2.1⟩,hfin.o.2.2.2⟩))⟩
  ·have hM1:(M != 0)=true:=by simp[hM0]
   have Zn:Hd (fE N L=M):=HF.o;have HM0:=ae hM0;clear hM0;go_wp2;refine bodyPost_ret (results_tmp2 (t:=8) (u:=9) rfl _ _ _) rfl ?_;exact⟨HG2.o,none,0,[],M,rfl,World.ownsRow_nil _ _ _ _,Or.inl ⟨by rw[Zn.o];exact HM0.o,Zn.o.symm,rfl⟩⟩
 ·have hF1:(F != 0)=true:=by simp[hF0]
  have Zo:Hd (fE N L=7):=by
   have:=HF.o;rw[if_neg hF0]at this;exact this
  clear hF0;go_wp2;refine bodyPost_ret (results_tmp2 (t:=8) (u:=9) rfl _ _ _) rfl ?_;exact⟨bg.o,none,0,[],7,rfl,World.ownsRow_nil _ _ _ _,Or.inl ⟨by rw[Zo.o];decide,Zo.o.symm,rfl⟩⟩
end Go.Proofs.YtiinliaoojfjaaaGreatDoor
