import Derived.Test.YtmkjelchiacogaaGreatDoorM12
import Derived.Test.YtmkjelchiacogaaGreatDoorM02
import Derived.Laws.BytesString
import Derived.Test.YtmkjelchiacogaaGreatDoorM03
set_option linter.unusedVariables false
set_option linter.unusedSimpArgs false
set_option maxRecDepth 100000
set_option maxHeartbeats 6400000
open Go.Proofs.Tryz
namespace Go.Proofs.YtmkjelchiacogaaGreatDoor
open Go.RowKit Go.Maps Go.WideMaps Go.Joins Go.Shelf
attribute [local go_sem] Oper.semAt_some
theorem Ub{ops:Array Oper}(h:(ops.toList.all fun o=>match o.op with | .defer _=>false|_=>true)=true):∀(i:Nat) (o:Oper),ops[i]?=some o->∀c,o.op≠.defer c:=fun i o ho c e=>by
 have hm:o∈ops.toList:=by
  rw[<-Array.getElem?_toList]at ho;exact List.mem_of_getElem? ho
 have:=List.all_eq_true.1 h o hm;rw[e]at this
 cases this
theorem Uc{w0:World}{p N c:Nat}{NV:Value}{ns:List Tn}{own:List Nat}(E:Ev w0 NV N c ns own)(out path:List UInt8)(t:Nat)(td:List Vt)(tv:Value)(w:World)(ht:t<ns.length)(hkd:KD ns t)(hP:Pn w w0.heap.size p NV out path)(hg:w0.grownBy w none)(hrow:w.ownsRow w0.heap.size 116 4 tv td.length (bQ td))(htd:td.length<=900000) :
  Calls prog 52 #[.pointer (some ⟨p,0,none⟩),.int .i64 (t:Nat),tv] w fun e w'=>∃v,e=.returned v/\w'.ownsRow w0.heap.size 116 4 v (td++dm ns t path.length).length (bQ (td++dm ns t path.length))/\VF w0.heap.size w w':=by
 have hEl:=E.len;obtain⟨B,hB⟩:=zN (w0.heap.size);have hBw:B<=w.heap.size:=by rw[<-hB];exact hg.size
 obtain⟨o0,c0,rfl⟩:=ku hrow;obtain⟨L,hL⟩:=zN (ns.length);have zM:(dQ ns t).length<=900000:=by rw[(xG ns t).length_eq];have:=E.wf.len t;omega
 have GX:Hd (∀q∈dQ ns t,q<L):=fun q hq=>by rw[<-hL];exact E.wf.lt t q (zV hq)
 -- the boxes
 obtain⟨w1,hw1⟩:∃W,(w.alloc (.cells #[.pointer (some ⟨p,0,none⟩)] 158)).alloc (.cells #[.slice o0 td.length c0] 113)=W:=⟨_,rfl⟩;have bP:Boxed w1 w.heap.size 158 (.pointer (some ⟨p,0,none⟩)):=by rw[<-hw1];exact(Boxed.new w _ _).alloc _
 have bT:Boxed w1 (w.heap.size+1) 113 (.slice o0 td.length c0):=by
  have:=Boxed.new (w.alloc (.cells #[.pointer (some ⟨p,0,none⟩)] 158)) 113 (.slice o0 td.length c0);rw[World.size_alloc,hw1]at this;exact this
 have hg1:w.grownBy w1 none:=by rw[<-hw1];exact af (World.grownBy_alloc _ _ none) (World.grownBy_alloc _ _ none)
 have CS:Hd (Calls prog 86 #[.pointer (some ⟨p,0,none⟩),.int .i64 (t:Nat)] w1 fun e w'=>∃v,e=.returned v/\w'.ownsRow w1.heap.size 3 1 v (dQ ns t).length ((dQ ns t).map fun q=>.int .i64 (q:Nat))/\w1.grownBy w' none):=SS p N c NV ns own t w1 (hg1.cell hP.base.2.2 (by simp)) (E.nv.grow (af hg hg1)) E.wf ht hkd hEl;have cP:=bP.cell;have HW1:Hd (w.grownBy w1 none/\Boxed w1 w.heap.size 158 (.pointer (some ⟨p,0,none⟩))/\Boxed w1 (w.heap.size+1) 113 (.slice o0 td.length c0)):=⟨hg1,bP,bT⟩;obtain⟨pb,hpb⟩:∃x,w.heap.size=x:=⟨_,rfl⟩;rw[hpb]at cP;have G6:Hd (w.heap.size=pb):=hpb;have HE:Hd (Ev w0 NV N c ns own):=E;clear bP bT hg1;rw[hB];refine(callsIn_wide (n:=9)).1 ?_;refine callsIn_of_wp_marks func52 rfl trivial ?_ rfl;simp only[ntmps52,List.size_toArray,List.length_cons,List.length_nil,Nat.reduceAdd,Nat.reduceSub,Array.replicate_succ,Array.replicate_zero,List.push_toArray,List.append_toArray,List.nil_append,List.cons_append]
 gi_wp2_with (first|(refine⟨trivial,?_⟩;gi_at_call 86;refine(callsIn_wide.2 CS.o).mono ?_;rintro e w2 ⟨v2,rfl,hown2,hg2⟩;obtain⟨o2,c2,rfl⟩:=ku hown2)|(refine⟨trivial,?_⟩;gi_at_call 90;refine(callsIn_wide.2 (TU _ _ _ _)).mono ?_;rintro e w3 ⟨rfl,rfl⟩))
 obtain⟨W0,hW0⟩:=zN (w2.alloc (.cells #[.slice o2 (dQ ns t).length c2] 88));obtain⟨hg1,bP1,bT1⟩:=HW1.o;rw[G6.o]at bP1 bT1;have G7:w1.grownBy W0 none:=by rw[<-hW0];exact af hg2 (World.grownBy_alloc _ _ none)
 have hgW:w.grownBy W0 none:=af hg1 G7;have bP0:Boxed W0 pb 158 (.pointer (some ⟨p,0,none⟩)):=bP1.kept G7 (by simp);have bT0:Boxed W0 (pb+1) 113 (.slice o0 td.length c0):=bT1.kept G7 (by simp);have bS0:W0.heap[w2.heap.size]?=some (.cells #[.slice o2 (dQ ns t).length c2] 88 (0,0)):=by rw[<-hW0];exact heap_alloc_new _ _
 have abZ:KI B W0 (.slice o2 (dQ ns t).length c2) (dQ ns t):=by
  rw[<-hW0];exact KI.own (hown2.alloc _)
 have hP0:Pn W0 B p NV out path:=by rw[<-hB];exact hP.gb hgW
 have hrow0:W0.ownsRow B 116 4 (.slice o0 td.length c0) td.length (bQ td):=by
  rw[<-hB];exact bW hrow fun g cur _ hc=>hgW.block g (aA hc) (by simp)
 have ahf:B<=pb:=by rw[<-G6.o];exact hBw
 have Ac:B<=W0.heap.size:=Nat.le_trans hBw hgW.size;have HW0:Hd (w.grownBy W0 none):=hgW;rw[hW0];clear hW0 hown2 hg2 G7 hg1 bP1 bT1 hgW hw1 cP CS HW1;refine wpIn_rangeFunc_ownH (α:=fB L) rfl (by omega) (gf:=135) (lb:=#[.pointer (some ⟨w2.heap.size,0,none⟩)]) rfl trivial (enters_of func135 (by kernel_rfl) rfl)
  (TV 8 w2.heap.size B L (by omega) _ (dQ ns t) (by omega) GX.o W0 bS0 abZ Ac) VF.two (TS Ac) (Below.refl _ _) (fun _=>rfl)
  (fun pre W=>(∃v,Boxed W (pb+1) 113 v/\W.ownsRow B 116 4 v (td++pre.flatMap fun x:fB L=>vs1 ns path.length x.2.val).length (bQ (td++pre.flatMap fun x:fB L=>vs1 ns path.length x.2.val))/\True)/\VF B W0 W)
  (fun _ _ _=>False)
  (OwnFrom.and (Own.from (holdsRow_own B (pb+1) 113 116 4 (fun pre:List (fB L)=>(td++pre.flatMap fun x:fB L=>vs1 ns path.length x.2.val).length) (fun pre:List (fB L)=>bQ (td++pre.flatMap fun x:fB L=>vs1 ns path.length x.2.val)) (fun _ _=>True)) _) (TT Ac Ac))
  (fun _ _ _ _ _ hs _ _=>hs)
  ⟨⟨_,bT0,by simpa using hrow0,trivial⟩,VF.refl _ _⟩
  (fun x a' _=>a'={ tmps:=#[.pointer (some ⟨p,0,none⟩),.int .i64 (t:Nat),.slice o0 td.length c0,.pointer (some ⟨pb,0,none⟩),undef,.pointer (some ⟨pb+1,0,none⟩),.slice none 0 0,undef,.int .i64 (x.2.val:Nat),undef,undef,undef,.pointer (some ⟨p,0,none⟩),.int .i64 (t:Nat),.slice o2 (dQ ns t).length c2,.func (.func 135) #[] #[.pointer (some ⟨w2.heap.size,0,none⟩)],.int .i64 x.1,.int .i64 (x.2.val:Nat),undef,undef,undef,undef,undef,undef,undef,undef,undef,undef,undef,undef,undef,undef,undef,undef,undef,undef,undef,undef,undef,undef,undef,undef,undef,undef,undef,undef,undef,undef,undef,undef,undef,undef,undef,undef,undef,undef,undef,undef,undef,undef,undef],defers:=[] })
  (fun _ _ _ _ _ _ hs _ _=>hs)
  ?assign ?body ?done ?stop
 case assign =>
  rintro l pre x W K hi hK;unfold Dj
  gi_wp2
  exact hK _ _ (KeepsFrom.refl _ _) (VF.refl _ _) hi rfl
 case body =>
  rintro l pre x a' W hl ⟨r,hr⟩ ⟨⟨v,bT,hrw,-⟩,kE⟩ rfl hlt;obtain⟨j,⟨q,hq⟩⟩:=x;dsimp only;have pV:q<ns.length:=by rw[hL];exact hq
  have Tq:(q:Int)<(L:Int):=by omega
  have dW:Hd (w0.grownBy W none):=C9 (af hg HW0.o) (by rw[hB];exact kE.bel);obtain⟨k6,n0,n1,n2,n3,n4,n5,n6⟩:=HE.o.nv.cel q pV;have m0:=dW.o.cell n0 (by simp);have m1:=dW.o.cell n1 (by simp);have m2:=dW.o.cell n2 (by simp);have m3:=dW.o.cell n3 (by simp);have m4:=dW.o.cell n4 (by simp);have m5:=dW.o.cell n5 (by simp);have yB:Hd (KI B W k6 ns[q].ks):=by
   show KI _ _ _ _;rw[<-hB];exact KI.nu n6 (uf dW.o)
  obtain⟨ok6,ck6,hk6,-⟩:=n6;subst hk6;have bPW:Boxed W pb 158 (.pointer (some ⟨p,0,none⟩)):=(kE.oth _ _ _ _ bP0 (by decide) (by decide)).trans bP0;have hPW:Pn W B p NV out path:=hP0.keep fun b cs t fz hb ht=>kE.oth b cs t fz hb (by rcases ht with rfl|rfl<;>decide) (by rcases ht with rfl|rfl<;>decide)
  obtain⟨-,ad3,bf3,pv3,hp3,-,-,sN,-,-⟩:=hPW;obtain⟨o3,c3,rfl⟩:=ku sN;obtain⟨p0,-,-,p3,-⟩:=hp3.cells;rw[HE.o.nv.val,hL]at p0;have cPW:=bPW.cell;obtain⟨f,hf⟩:∃f:fB L->List Vt,(fun x:fB L=>vs1 ns path.length x.2.val)=f:=⟨_,rfl⟩;have hfx:f (j,⟨q,hq⟩)=vs1 ns path.length q:=by rw[<-hf]
  have hfl:∀x,(f x).length<=L+1:=fun x=>by have h:=abX ns own HE.o.wf path.length x.2.val;rw[<-hf];show(vs1 ns path.length x.2.val).length<=_;omega
  have htl:=Ua f (L+1) hfl pre;rw[hf]at hrw ⊢;obtain⟨TD,G8⟩:=zN (td++pre.flatMap f);have ahg:TD.length<=900000+900000*900001:=by
   rw[<-G8,List.length_append];have h1:pre.length*(L+1)<=900000*900001:=Nat.mul_le_mul (by omega) (by omega);omega
  have gU:Hd (td++(pre++[((j,⟨q,hq⟩):fB L)]).flatMap f=TD++vs1 ns path.length q):=by
   show _=_;rw[List.flatMap_append,<-List.append_assoc,G8,<-hfx];simp
  rw[G8]at hrw;obtain⟨pn,hpn⟩:∃x,path.length=x:=⟨_,rfl⟩;rw[hpn]at gU p3;have hV1:vs1 ns pn q=if ns[q].kd=0 then[⟨q,ns[q].ky,false,pn⟩] else if ns[q].kd=2 then ns[q].ks.reverse.map (fun m=>⟨m,ns[q].ky,true,pn⟩) else[]:=by
   unfold vs1 ag;rw[vW pV,vX pV,List.getElem?_eq_getElem pV]
  have ab1:ns[q].ks.length<=900000:=by have:=HE.o.wf.len q;rw[vX pV]at this;omega
  have zu:Hd (∀m∈ns[q].ks,m<L):=fun m hm=>by rw[<-hL];exact HE.o.wf.lt q m (by rw[vX pV];exact hm)
  obtain⟨nk,hnk⟩:∃z,ns[q].ks.length=z:=⟨_,rfl⟩;rw[hnk]at m4 yB ab1;obtain⟨y,hy⟩:=zN (ns[q]);rw[hy]at m0 m1 m2 m3 m5 hV1 yB zu hnk;obtain⟨K,hK⟩:∃K:ByteArray,⟨y.ky.toArray⟩=K:=⟨_,rfl⟩;obtain⟨KN,zW⟩:∃z,y.kd=z:=⟨_,rfl⟩;rw[hK]at m1;rw[zW]at m0 hV1;have kM:Hd (vs1 ns pn q=if KN=0 then[⟨q,y.ky,false,pn⟩] else if KN=2 then y.ks.reverse.map (fun m=>⟨m,y.ky,true,pn⟩) else[]):=hV1;have hgk:W.grownBy (W.alloc (.cells #[.int .i64 KN,.string K,.string ⟨y.tx.toArray⟩,.int .i64 y.nu,.slice ok6 nk ck6,.int .i64 (y.pl:Nat)] 90)) none:=World.grownBy_alloc _ _ none;have hbk:=heap_alloc_new W (.cells #[.int .i64 KN,.string K,.string ⟨y.tx.toArray⟩,.int .i64 y.nu,.slice ok6 nk ck6,.int .i64 (y.pl:Nat)] 90);have hsk:=World.size_alloc W (.cells #[.int .i64 KN,.string K,.string ⟨y.tx.toArray⟩,.int .i64 y.nu,.slice ok6 nk ck6,.int .i64 (y.pl:Nat)] 90);obtain⟨Wk,hWk⟩:=zN (W.alloc (.cells #[.int .i64 KN,.string K,.string ⟨y.tx.toArray⟩,.int .i64 y.nu,.slice ok6 nk ck6,.int .i64 (y.pl:Nat)] 90))
  rw[hWk]at hgk hbk hsk;obtain⟨kb,hkb⟩:=zN (W.heap.size);rw[hkb]at hbk hsk;have hBW:B<=W.heap.size:=Nat.le_trans Ac kE.bel.size;have yC:Hd (VF B W Wk):=VF.gb hgk hBW;have bTk:Boxed Wk (pb+1) 113 v:=bT.kept hgk (by simp);have bPk:Boxed Wk pb 158 (.pointer (some ⟨p,0,none⟩)):=bPW.kept hgk (by simp);have hrk:Wk.ownsRow B 116 4 v TD.length (bQ TD):=bW hrw fun g cur _ hc=>hgk.block g (aA hc) (by simp)
  have hpk:Pb Wk p NV ad3 bf3 (.slice o3 pn c3):=(hgk.block p (aA hp3) (by simp)).trans (by rw[<-hpn];exact hp3);have Lj:Hd (KeepsFrom W0.heap.size W Wk):=(KeepsOthers.of_grownBy hgk (fun j o e=>by cases e)).from _
  have Ll:Hd (VF B W0 W):=kE;have yD:B<=Wk.heap.size:=by omega
  have cTk:=bTk.cell;have q0:Wk.cell? ⟨kb,0,none⟩=some (.int .i64 KN):=by rw[ae hbk];rfl
  have q1:Wk.cell? ⟨kb,1,none⟩=some (.string K):=by rw[ae hbk];rfl
  have q4:Wk.cell? ⟨kb,4,none⟩=some (.slice ok6 nk ck6):=by rw[ae hbk];rfl
  have q5:=bPk.cell;have q6:=hpk.cells.2.2.2.1;have HS:Hd (∀u,VF B Wk u->u.cell? ⟨kb,1,none⟩=some (.string K)/\u.cell? ⟨pb,0,none⟩=some (.pointer (some ⟨p,0,none⟩))/\u.cell? ⟨p,3,none⟩=some (.slice o3 pn c3)):=fun u hu=>by
   have e1:=(hu.oth _ _ _ _ hbk (by decide) (by decide)).trans hbk;have e2:Boxed u pb 158 (.pointer (some ⟨p,0,none⟩)):=(hu.oth _ _ _ _ bPk (by decide) (by decide)).trans bPk;have e3:Pb u p NV ad3 bf3 (.slice o3 pn c3):=(hu.oth _ _ _ _ hpk (by decide) (by decide)).trans hpk;exact⟨by rw[ae e1];rfl,e2.cell,e3.cells.2.2.2.1⟩
  have um:Hd (Boxed Wk (pb+1) 113 v/\Wk.ownsRow B 116 4 v TD.length (bQ TD)):=⟨bTk,hrk⟩;obtain⟨i0,hi0,hii⟩:=Option.map_eq_some_iff.1 abY;simp only[Prod.mk.injEq]at hii;obtain⟨hz0,hz1,hzb⟩:=hii;have HKK:Hd (K=⟨y.ky.toArray⟩):=hK.symm;have ab2:Hd (KI B Wk (.slice ok6 nk ck6) y.ks):=yB.o.vf yC.o;have lU:Hd (Wk.heap[l]?=some (.loop r)):=(hgk.block l (bz hr) (by simp)).trans hr;have HHK:Hd (Wk.heap[kb]?=some (.cells #[.int .i64 KN,.string K,.string ⟨y.tx.toArray⟩,.int .i64 y.nu,.slice ok6 nk ck6,.int .i64 (y.pl:Nat)] 90 (0,0))):=hbk;clear n0 n1 n2 n3 n4 n5 hbk hgk hp3 sN bT bPW hrw kE hV1 G8 hf hfx hfl htl bTk bPk hrk hpk hK zW hy yB hr
  by_cases h0:KN=0
  ·have hb:(KN == 0)=true:=by simpa using h0
   rw[if_pos h0]at kM;clear h0;have hone:=TW ⟨q,y.ky,false,pn⟩;simp only[vC,<-HKK.o]at hone;have hHeld:=HS.o Wk.drew (VF.gb (nR Wk none) yD);have HS2:Hd ((Wk.drew.alloc (.cells #[.int .i64 (q:Nat),.string K,.bool false,.int .i64 (pn:Nat)] 116)).cell? ⟨kb,1,none⟩=some (.string K)/\(Wk.drew.alloc (.cells #[.int .i64 (q:Nat),.string K,.bool false,.int .i64 (pn:Nat)] 116)).cell? ⟨pb,0,none⟩=some (.pointer (some ⟨p,0,none⟩))/\(Wk.drew.alloc (.cells #[.int .i64 (q:Nat),.string K,.bool false,.int .i64 (pn:Nat)] 116)).cell? ⟨p,3,none⟩=some (.slice o3 pn c3)):=HS.o _ ((VF.gb (nR Wk none) yD).two (VF.gb (World.grownBy_alloc _ _ none) yD));have jJ:Hd ((Wk.drew.alloc (.cells #[.int .i64 (q:Nat),.string K,.bool false,.int .i64 (pn:Nat)] 116)).ownsRow B 116 4 v TD.length (bQ TD)):=um.o.2.drew.alloc _;have dN:Hd ((Wk.drew.alloc (.cells #[.int .i64 (q:Nat),.string K,.bool false,.int .i64 (pn:Nat)] 116)).heap[kb+1]?=some (.cells #[.int .i64 (q:Nat),.string K,.bool false,.int .i64 (pn:Nat)] 116 (0,0))):=by
    have:=heap_alloc_new Wk.drew (.cells #[.int .i64 (q:Nat),.string K,.bool false,.int .i64 (pn:Nat)] 116);rw[show Wk.drew.heap.size=kb+1 from hsk]at this;exact this
   have G9:Hd ((Wk.alloc (.cells #[.int .i64 (q:Nat),.string K,.bool false,.int .i64 (pn:Nat)] 116)).cell? ⟨pb+1,0,none⟩=some v):=(World.grownBy_alloc Wk _ none).cell cTk (by simp);have Ud:Hd (∀g cap w3,w3.ownsRow B 116 4 (.slice (some ⟨g,0,none⟩) (TD.length+1) cap) (TD.length+1) (bQ TD++[.int .i64 (q:Nat),.string K,.bool false,.int .i64 (pn:Nat)])->(Wk.drew.alloc (.cells #[.int .i64 (q:Nat),.string K,.bool false,.int .i64 (pn:Nat)] 116)).grownBy w3 v.ownBlock->w3.cell? ⟨pb+1,0,none⟩=some v/\w3.frozen? ⟨pb+1,0,none⟩=false/\(w3.cell? ⟨kb,1,none⟩=some (.string K)/\w3.cell? ⟨pb,0,none⟩=some (.pointer (some ⟨p,0,none⟩))/\w3.cell? ⟨p,3,none⟩=some (.slice o3 pn c3))/\((w3.setCell ⟨pb+1,0,none⟩ (.slice (some ⟨g,0,none⟩) (TD.length+1) cap)).cell? ⟨kb,1,none⟩=some (.string K)/\(w3.setCell ⟨pb+1,0,none⟩ (.slice (some ⟨g,0,none⟩) (TD.length+1) cap)).cell? ⟨pb,0,none⟩=some (.pointer (some ⟨p,0,none⟩))/\(w3.setCell ⟨pb+1,0,none⟩ (.slice (some ⟨g,0,none⟩) (TD.length+1) cap)).cell? ⟨p,3,none⟩=some (.slice o3 pn c3))/\Hd (∃v',Boxed (w3.setCell ⟨pb+1,0,none⟩ (.slice (some ⟨g,0,none⟩) (TD.length+1) cap)) (pb+1) 113 v'/\(w3.setCell ⟨pb+1,0,none⟩ (.slice (some ⟨g,0,none⟩) (TD.length+1) cap)).ownsRow B 116 4 v' (TD++[Vt.mk q y.ky false pn]).length (bQ (TD++[Vt.mk q y.ky false pn]))/\KeepsOthers Wk (w3.setCell ⟨pb+1,0,none⟩ (.slice (some ⟨g,0,none⟩) (TD.length+1) cap))/\VF B Wk (w3.setCell ⟨pb+1,0,none⟩ (.slice (some ⟨g,0,none⟩) (TD.length+1) cap)))):=fun g cap w3 ho hgr=>by
    have hd:VF B Wk Wk.drew:=VF.gb (nR Wk none) yD;obtain⟨h1,h2⟩:=TZ (W:=Wk.drew) (x:=⟨q,y.ky,false,pn⟩) um.o.1 um.o.2.drew yD (by omega) (by unfold vC;rw[<-HKK.o];exact ho) hgr;obtain⟨-,h3,h4,h5,h6,h7⟩:=h2.o;exact⟨h1.cell,h1.frozen,HS.o _ (hd.two h7),HS.o _ (hd.two h6),_,h3,h4,(KeepsOthers.drew Wk).trans h5,hd.two h6⟩
   gi_wp2
   refine wpIn_region_any (by kernel_rfl) (Di (R:=fun _ u=>∃v',Boxed u (pb+1) 113 v'/\u.ownsRow B 116 4 v' (TD++[Vt.mk q y.ky false pn]).length (bQ (TD++[Vt.mk q y.ky false pn]))/\KeepsOthers Wk u/\VF B Wk u) ?hd ?hQ _ _ _ _ ?_)
   case hd=>exact Ub (by rfl)
   case hQ =>
    rintro a u ⟨v',b1,b2,b3,b4⟩
    gi_wp2
    exact⟨Lj.o.trans (b3.from _),yC.o.two b4,⟨v',b1,by rw[gU.o,kM.o];exact b2,trivial⟩,Ll.o.two (yC.o.two b4)⟩
   change wpAny _ _ _ _ _ _ _ (World.drew _);refine wpAny_of_held (S:=(fun u=>u.cell? ⟨kb,1,none⟩=some (.string K)/\u.cell? ⟨pb,0,none⟩=some (.pointer (some ⟨p,0,none⟩))/\u.cell? ⟨p,3,none⟩=some (.slice o3 pn c3))) _ _ _ _ ?_;refine wpAnyH_take (i:=1) (v:=.int .i64 (q:Nat)) rfl (by kernel_rfl) (by kernel_rfl) (by kernel_rfl) (fun _ _ _ h=>h) (Or.inl ⟨by rfl,fun w hSw=>by(try dsimp only at hSw);obtain⟨s1,s2,s3⟩:=hSw;go_simp⟩) hHeld ?_
   try simp only[Act.put,List.setIfInBounds_toArray,List.set_cons_zero,List.set_cons_succ]
   refine wpAnyH_take (i:=2) (v:=.pointer (some ⟨kb,1,none⟩)) rfl (by kernel_rfl) (by kernel_rfl) (by kernel_rfl) (fun _ _ _ h=>h) (Or.inl ⟨by rfl,fun w hSw=>by(try dsimp only at hSw);obtain⟨s1,s2,s3⟩:=hSw;go_simp⟩) hHeld ?_
   try simp only[Act.put,List.setIfInBounds_toArray,List.set_cons_zero,List.set_cons_succ]
   refine wpAnyH_take (i:=3) (v:=.string K) rfl (by kernel_rfl) (by kernel_rfl) (by kernel_rfl) (fun _ _ _ h=>h) (Or.inl ⟨by rfl,fun w hSw=>by(try dsimp only at hSw);obtain⟨s1,s2,s3⟩:=hSw;go_simp⟩) hHeld ?_
   try simp only[Act.put,List.setIfInBounds_toArray,List.set_cons_zero,List.set_cons_succ]
   refine wpAnyH_take (i:=4) (v:=.pointer (some ⟨p,0,none⟩)) rfl (by kernel_rfl) (by kernel_rfl) (by kernel_rfl) (fun _ _ _ h=>h) (Or.inl ⟨by rfl,fun w hSw=>by(try dsimp only at hSw);obtain⟨s1,s2,s3⟩:=hSw;go_simp⟩) hHeld ?_
   try simp only[Act.put,List.setIfInBounds_toArray,List.set_cons_zero,List.set_cons_succ]
   refine wpAnyH_take (i:=5) (v:=.pointer (some ⟨p,0,none⟩)) rfl (by kernel_rfl) (by kernel_rfl) (by kernel_rfl) (fun _ _ _ h=>h) (Or.inl ⟨by rfl,fun w hSw=>by(try dsimp only at hSw);obtain⟨s1,s2,s3⟩:=hSw;go_simp⟩) hHeld ?_
   try simp only[Act.put,List.setIfInBounds_toArray,List.set_cons_zero,List.set_cons_succ]
   refine wpAnyH_take (i:=6) (v:=.pointer (some ⟨p,3,none⟩)) rfl (by kernel_rfl) (by kernel_rfl) (by kernel_rfl) (fun _ _ _ h=>h) (Or.inl ⟨by rfl,fun w hSw=>by(try dsimp only at hSw);obtain⟨s1,s2,s3⟩:=hSw;go_simp⟩) hHeld ?_
   try simp only[Act.put,List.setIfInBounds_toArray,List.set_cons_zero,List.set_cons_succ]
   refine wpAnyH_take (i:=7) (v:=.slice o3 pn c3) rfl (by kernel_rfl) (by kernel_rfl) (by kernel_rfl) (fun _ _ _ h=>h) (Or.inl ⟨by rfl,fun w hSw=>by(try dsimp only at hSw);obtain⟨s1,s2,s3⟩:=hSw;go_simp⟩) hHeld ?_
   try simp only[Act.put,List.setIfInBounds_toArray,List.set_cons_zero,List.set_cons_succ]
   refine wpAnyH_take (i:=8) (v:=.int .i64 (pn:Nat)) rfl (by kernel_rfl) (by kernel_rfl) (by kernel_rfl) (fun _ _ _ h=>h) (Or.inl ⟨by rfl,fun w hSw=>by(try dsimp only at hSw);obtain⟨s1,s2,s3⟩:=hSw;go_simp⟩) hHeld ?_
   try simp only[Act.put,List.setIfInBounds_toArray,List.set_cons_zero,List.set_cons_succ]
   refine wpAnyH_take (i:=9) (v:=.agg #[.int .i64 (q:Nat),.string K,.bool false,.int .i64 (pn:Nat)]) rfl (by kernel_rfl) (by kernel_rfl) (by kernel_rfl) (fun _ _ _ h=>h) (Or.inl ⟨by rfl,fun w hSw=>by(try dsimp only at hSw);obtain⟨s1,s2,s3⟩:=hSw;go_simp⟩) hHeld ?_
   try simp only[Act.put,List.setIfInBounds_toArray,List.set_cons_zero,List.set_cons_succ]
   refine wpAnyH_ready (rs:=[0,10]) (by kernel_rfl) (by simp) ?_;refine AllReadyH.cons rfl (fun K1 hK1=>?_) (AllReadyH.cons rfl (fun K1 hK1=>?_) AllReadyH.nil)
   ·go_simp
    refine hK1.out _ _ hHeld (fun _=>?_)
    try simp only[Act.put,List.setIfInBounds_toArray,List.set_cons_zero,List.set_cons_succ]
    refine wpAnyH_ready (rs:=[10]) (by kernel_rfl) (by simp) ?_;refine AllReadyH.cons rfl (fun K2 hK2=>?_) AllReadyH.nil
    go_simp
    refine hK2.out _ _ HS2.o (fun _=>?_)
    try simp only[Act.put,List.setIfInBounds_toArray,List.set_cons_zero,List.set_cons_succ]
    refine wpAnyH_ready (rs:=[11]) (by kernel_rfl) (by simp) ?_;refine AllReadyH.cons rfl (fun K3 hK3=>?_) AllReadyH.nil;refine step_append_lies _ (by rfl) _ _ _ (by rfl) B 116 i0 _ 4 40 underlying113 hi0 hz0 hz1 hzb (by rfl) (by decide) v TD.length (bQ TD) (by rfl) jJ.o ⟨kb+1,0,none⟩ 1 1 [.int .i64 (q:Nat),.string K,.bool false,.int .i64 (pn:Nat)] (by rfl) (by rfl) (World.news_of_block dN.o) hone (by omega) (by unfold maxLen;omega) (by omega) (by simp;omega) _ rfl ?_;intro g3 cap3 w3 hown3 hg3 hat3 hlt3;obtain⟨e3,f3,s3,s4,hend⟩:=Ud.o g3 cap3 w3 hown3 hg3;refine hK3.out _ _ s3 (fun _=>?_)
    try simp only[Act.put,List.setIfInBounds_toArray,List.set_cons_zero,List.set_cons_succ]
    refine wpAnyH_ready (rs:=[12]) (by kernel_rfl) (by simp) ?_;refine AllReadyH.cons rfl (fun K4 hK4=>?_) AllReadyH.nil;clear hK3
    go_simp
    refine hK4.out _ _ s4 (fun _=>?_);refine wpAnyH_done (by kernel_rfl) ?_ _;exact⟨rfl,hend.o⟩
   ·go_simp
    refine hK1.out _ _ HS2.o (fun _=>?_)
    try simp only[Act.put,List.setIfInBounds_toArray,List.set_cons_zero,List.set_cons_succ]
    refine wpAnyH_ready (rs:=[0]) (by kernel_rfl) (by simp) ?_;refine AllReadyH.cons rfl (fun K2 hK2=>?_) AllReadyH.nil;have cT2:=G9.o
    go_simp
    refine hK2.out _ _ HS2.o (fun _=>?_)
    try simp only[Act.put,List.setIfInBounds_toArray,List.set_cons_zero,List.set_cons_succ]
    refine wpAnyH_ready (rs:=[11]) (by kernel_rfl) (by simp) ?_;refine AllReadyH.cons rfl (fun K3 hK3=>?_) AllReadyH.nil;refine step_append_lies _ (by rfl) _ _ _ (by rfl) B 116 i0 _ 4 40 underlying113 hi0 hz0 hz1 hzb (by rfl) (by decide) v TD.length (bQ TD) (by rfl) jJ.o ⟨kb+1,0,none⟩ 1 1 [.int .i64 (q:Nat),.string K,.bool false,.int .i64 (pn:Nat)] (by rfl) (by rfl) (World.news_of_block dN.o) hone (by omega) (by unfold maxLen;omega) (by omega) (by simp;omega) _ rfl ?_;intro g3 cap3 w3 hown3 hg3 hat3 hlt3;obtain⟨e3,f3,s3,s4,hend⟩:=Ud.o g3 cap3 w3 hown3 hg3;refine hK3.out _ _ s3 (fun _=>?_)
    try simp only[Act.put,List.setIfInBounds_toArray,List.set_cons_zero,List.set_cons_succ]
    refine wpAnyH_ready (rs:=[12]) (by kernel_rfl) (by simp) ?_;refine AllReadyH.cons rfl (fun K4 hK4=>?_) AllReadyH.nil;clear hK3
    go_simp
    refine hK4.out _ _ s4 (fun _=>?_);refine wpAnyH_done (by kernel_rfl) ?_ _;exact⟨rfl,hend.o⟩
  ·have hb:(KN == 0)=false:=by simpa using h0
   rw[if_neg h0]at kM
   by_cases h2:KN=2
   ·have hb2:(KN == 2)=true:=by simpa using h2
    rw[if_pos h2]at kM;clear h0 h2
    gi_wp2_with (first|(refine⟨trivial,?_⟩;gi_at_call 90;refine(CallsIn.inRound l (callsIn_wide.2 (TU _ _ _ _))).mono ?_;rintro e w' ⟨rfl,rfl⟩))
    obtain⟨Wi,Ha⟩:=zN (Wk.alloc (.cells #[.slice ok6 nk ck6] 88));have hgi:Wk.grownBy Wi none:=by rw[<-Ha];exact World.grownBy_alloc _ _ none
    have bSi:Wi.heap[kb+1]?=some (.cells #[.slice ok6 nk ck6] 88 (0,0)):=by
     have:=heap_alloc_new Wk (.cells #[.slice ok6 nk ck6] 88);rw[hsk,Ha]at this;exact this
    have Dk:B<=Wi.heap.size:=Nat.le_trans yD hgi.size;have Ue:VF B Wk Wi:=VF.gb hgi yD;have hLi:Wi.heap[l]?=some (.loop r):=(hgi.block l (bz lU.o) (by simp)).trans lU.o;have bTi:Boxed Wi (pb+1) 113 v:=um.o.1.kept hgi (by simp);have hri:Wi.ownsRow B 116 4 v TD.length (bQ TD):=bW um.o.2 fun g cur _ hc=>hgi.block g (aA hc) (by simp)
    have wC:Hd (VF B Wk Wi/\KeepsFrom W0.heap.size Wk Wi):=⟨Ue,(KeepsOthers.of_grownBy hgi (fun j o e=>by cases e)).from _⟩;rw[Ha];clear Ha;refine wpIn_rangeFunc_ownN (α:=fB L) (l₀:=l) (r₀:=r) rfl hLi (by omega) (gf:=135) (lb:=#[.pointer (some ⟨kb+1,0,none⟩)]) rfl trivial (enters_of func135 (by kernel_rfl) rfl)
     ((TV 6 (kb+1) B L (by omega) _ y.ks (by omega) zu.o Wi bSi (ab2.o.vf Ue) Dk).inRound l) VF.two (TS Dk) (Below.refl _ _) (fun _=>rfl)
     (fun pre' W'=>(∃v,Boxed W' (pb+1) 113 v/\W'.ownsRow B 116 4 v (TD++pre'.map fun x:fB L=>Vt.mk x.2.val y.ky true pn).length (bQ (TD++pre'.map fun x:fB L=>Vt.mk x.2.val y.ky true pn))/\True)/\(VF B Wi W'/\KeepsFrom W0.heap.size Wi W'))
     (fun _ _ _=>False)
     (OwnFrom.and (Own.from (holdsRow_own B (pb+1) 113 116 4 (fun pre:List (fB L)=>(TD++pre.map fun x:fB L=>Vt.mk x.2.val y.ky true pn).length) (fun pre:List (fB L)=>bQ (TD++pre.map fun x:fB L=>Vt.mk x.2.val y.ky true pn)) (fun _ _=>True)) _) (OwnFrom.and (TT Dk Dk) (ownFrom_keepsFrom (Nat.le_refl _))))
     (fun _ _ _ _ _ hs _ _=>hs)
     ⟨⟨v,bTi,by simpa using hri,trivial⟩,VF.refl _ _,KeepsFrom.refl _ _⟩
     (fun x a' _=>a'={ tmps:=#[.pointer (some ⟨p,0,none⟩),.int .i64 (t:Nat),.slice o0 td.length c0,.pointer (some ⟨pb,0,none⟩),undef,.pointer (some ⟨pb+1,0,none⟩),.slice none 0 0,undef,.int .i64 (q:Nat),.pointer (some ⟨kb,0,none⟩),undef,.int .i64 (x.2.val:Nat),.pointer (some ⟨p,0,none⟩),.int .i64 (t:Nat),.slice o2 (dQ ns t).length c2,.func (.func 135) #[] #[.pointer (some ⟨w2.heap.size,0,none⟩)],.int .i64 j,.int .i64 (q:Nat),.pointer (some ⟨p,0,none⟩),.pointer (some ⟨p,0,none⟩),.pointer (some ⟨p,0,none⟩),.slice (some ⟨N,0,none⟩) L c,.int .i64 (q:Nat),.pointer (some ⟨N,q*6,none⟩),.agg #[.int .i64 KN,.string K,.string ⟨y.tx.toArray⟩,.int .i64 y.nu,.slice ok6 nk ck6,.int .i64 (y.pl:Nat)],.pointer (some ⟨kb,0,none⟩),.int .i64 KN,.bool false,.bool false,undef,undef,undef,undef,undef,undef,undef,undef,undef,undef,undef,undef,.bool true,.bool true,.pointer (some ⟨kb,4,none⟩),.slice ok6 nk ck6,.func (.func 135) #[] #[.pointer (some ⟨kb+1,0,none⟩)],.int .i64 x.1,.int .i64 (x.2.val:Nat),undef,undef,undef,undef,undef,undef,undef,undef,undef,undef,undef,undef,undef],defers:=[] })
     (fun _ _ _ _ _ _ hs _ _=>hs)
     ?assign2 ?body2 ?done2 ?stop2
    case assign2 =>
     rintro l2 pre' x W' K hi hK;unfold Dj
     gi_wp2
     exact hK _ _ (KeepsFrom.refl _ _) (VF.refl _ _) hi rfl
    case body2 =>
     rintro l2 pre' x a' W' hl2 - ⟨⟨ve,bTe,hre,-⟩,jo,hke⟩ rfl hlt2;obtain⟨j2,⟨m,hm⟩⟩:=x;dsimp only;obtain⟨TE,He⟩:=zN ((TD++pre'.map fun x:fB L=>Vt.mk x.2.val y.ky true pn));have ahh:TE.length<=900000+900000*900001+900000:=by
      rw[<-He,List.length_append,List.length_map];omega
     have Dl:Hd ((TD++(pre'++[((j2,⟨m,hm⟩):fB L)]).map fun x:fB L=>Vt.mk x.2.val y.ky true pn)=TE++[Vt.mk m y.ky true pn]):=by
      show _=_;rw[List.map_append,<-List.append_assoc,He];rfl
     rw[He]at hre;have Lm:Hd (Boxed W' (pb+1) 113 ve/\W'.ownsRow B 116 4 ve TE.length (bQ TE)):=⟨bTe,hre⟩;have cTe:=bTe.cell;have sS:B<=W'.heap.size:=Nat.le_trans Dk jo.bel.size;have Lp:Hd (VF B Wi W'/\KeepsFrom W0.heap.size Wi W'):=⟨jo,hke⟩;have Dn:Hd (∀u,VF B W' u->(u).cell? ⟨kb,1,none⟩=some (.string K)/\(u).cell? ⟨pb,0,none⟩=some (.pointer (some ⟨p,0,none⟩))/\(u).cell? ⟨p,3,none⟩=some (.slice o3 pn c3)):=fun u hu=>HS.o u ((wC.o.1.two Lp.o.1).two hu)
     have xO:=TW ⟨m,y.ky,true,pn⟩;simp only[vC,<-HKK.o]at xO;have sV:=Dn.o W'.drew (VF.gb (nR W' none) sS);obtain⟨e1,e2,e3⟩:=Dn.o W' (VF.refl _ _);obtain⟨sz,hsz⟩:=zN (W'.heap.size);have fQ:Hd ((W'.drew.alloc (.cells #[.int .i64 (m:Nat),.string K,.bool true,.int .i64 (pn:Nat)] 116)).cell? ⟨kb,1,none⟩=some (.string K)/\(W'.drew.alloc (.cells #[.int .i64 (m:Nat),.string K,.bool true,.int .i64 (pn:Nat)] 116)).cell? ⟨pb,0,none⟩=some (.pointer (some ⟨p,0,none⟩))/\(W'.drew.alloc (.cells #[.int .i64 (m:Nat),.string K,.bool true,.int .i64 (pn:Nat)] 116)).cell? ⟨p,3,none⟩=some (.slice o3 pn c3)):=Dn.o _ ((VF.gb (nR W' none) sS).two (VF.gb (World.grownBy_alloc _ _ none) sS));have Uf:Hd ((W'.drew.alloc (.cells #[.int .i64 (m:Nat),.string K,.bool true,.int .i64 (pn:Nat)] 116)).ownsRow B 116 4 ve TE.length (bQ TE)):=Lm.o.2.drew.alloc _;have Ug:Hd ((W'.drew.alloc (.cells #[.int .i64 (m:Nat),.string K,.bool true,.int .i64 (pn:Nat)] 116)).heap[sz]?=some (.cells #[.int .i64 (m:Nat),.string K,.bool true,.int .i64 (pn:Nat)] 116 (0,0))):=by
      have:=heap_alloc_new W'.drew (.cells #[.int .i64 (m:Nat),.string K,.bool true,.int .i64 (pn:Nat)] 116);rw[show W'.drew.heap.size=sz from hsz]at this;exact this
     have ab3:Hd ((W'.alloc (.cells #[.int .i64 (m:Nat),.string K,.bool true,.int .i64 (pn:Nat)] 116)).cell? ⟨pb+1,0,none⟩=some ve):=(World.grownBy_alloc W' _ none).cell cTe (by simp);have Uh:Hd (∀g cap w3,w3.ownsRow B 116 4 (.slice (some ⟨g,0,none⟩) (TE.length+1) cap) (TE.length+1) (bQ TE++[.int .i64 (m:Nat),.string K,.bool true,.int .i64 (pn:Nat)])->(W'.drew.alloc (.cells #[.int .i64 (m:Nat),.string K,.bool true,.int .i64 (pn:Nat)] 116)).grownBy w3 ve.ownBlock->w3.cell? ⟨pb+1,0,none⟩=some ve/\w3.frozen? ⟨pb+1,0,none⟩=false/\((w3).cell? ⟨kb,1,none⟩=some (.string K)/\(w3).cell? ⟨pb,0,none⟩=some (.pointer (some ⟨p,0,none⟩))/\(w3).cell? ⟨p,3,none⟩=some (.slice o3 pn c3))/\((w3.setCell ⟨pb+1,0,none⟩ (.slice (some ⟨g,0,none⟩) (TE.length+1) cap)).cell? ⟨kb,1,none⟩=some (.string K)/\(w3.setCell ⟨pb+1,0,none⟩ (.slice (some ⟨g,0,none⟩) (TE.length+1) cap)).cell? ⟨pb,0,none⟩=some (.pointer (some ⟨p,0,none⟩))/\(w3.setCell ⟨pb+1,0,none⟩ (.slice (some ⟨g,0,none⟩) (TE.length+1) cap)).cell? ⟨p,3,none⟩=some (.slice o3 pn c3))/\Hd (∃v',Boxed (w3.setCell ⟨pb+1,0,none⟩ (.slice (some ⟨g,0,none⟩) (TE.length+1) cap)) (pb+1) 113 v'/\(w3.setCell ⟨pb+1,0,none⟩ (.slice (some ⟨g,0,none⟩) (TE.length+1) cap)).ownsRow B 116 4 v' (TE++[Vt.mk m y.ky true pn]).length (bQ (TE++[Vt.mk m y.ky true pn]))/\KeepsOthers W' (w3.setCell ⟨pb+1,0,none⟩ (.slice (some ⟨g,0,none⟩) (TE.length+1) cap))/\VF B W' (w3.setCell ⟨pb+1,0,none⟩ (.slice (some ⟨g,0,none⟩) (TE.length+1) cap)))):=fun g cap w3 ho hgr=>by
      have hd:VF B W' W'.drew:=VF.gb (nR W' none) sS;obtain⟨h1,h2⟩:=TZ (W:=W'.drew) (x:=⟨m,y.ky,true,pn⟩) Lm.o.1 Lm.o.2.drew sS (by omega) (by unfold vC;rw[<-HKK.o];exact ho) hgr;obtain⟨-,h3,h4,h5,h6,h7⟩:=h2.o;exact⟨h1.cell,h1.frozen,Dn.o _ (hd.two h7),Dn.o _ (hd.two h6),_,h3,h4,(KeepsOthers.drew W').trans h5,hd.two h6⟩
     clear bTe hre jo hke He
     gi_wp2
     refine wpIn_region_any (by kernel_rfl) (Di (R:=fun _ u=>∃v',Boxed u (pb+1) 113 v'/\u.ownsRow B 116 4 v' (TE++[Vt.mk m y.ky true pn]).length (bQ (TE++[Vt.mk m y.ky true pn]))/\KeepsOthers W' u/\VF B W' u) ?hd2 ?hQ2 _ _ _ _ ?_)
     case hd2=>exact Ub (by rfl)
     case hQ2 =>
      rintro a u ⟨v',b1,b2,b3,b4⟩
      gi_wp2
      exact⟨b3.from _,b4,⟨v',b1,by rw[Dl.o];exact b2,trivial⟩,Lp.o.1.two b4,Lp.o.2.trans (b3.from _)⟩
     change wpAny _ _ _ _ _ _ _ (World.drew _);refine wpAny_of_held (S:=(fun u=>u.cell? ⟨kb,1,none⟩=some (.string K)/\u.cell? ⟨pb,0,none⟩=some (.pointer (some ⟨p,0,none⟩))/\u.cell? ⟨p,3,none⟩=some (.slice o3 pn c3))) _ _ _ _ ?_;refine wpAnyH_take (i:=1) (v:=.int .i64 (m:Nat)) rfl (by kernel_rfl) (by kernel_rfl) (by kernel_rfl) (fun _ _ _ h=>h) (Or.inl ⟨by rfl,fun w hSw=>by(try dsimp only at hSw);obtain⟨s1,s2,s3⟩:=hSw;go_simp⟩) sV ?_
     try simp only[Act.put,List.setIfInBounds_toArray,List.set_cons_zero,List.set_cons_succ]
     refine wpAnyH_take (i:=2) (v:=.pointer (some ⟨kb,1,none⟩)) rfl (by kernel_rfl) (by kernel_rfl) (by kernel_rfl) (fun _ _ _ h=>h) (Or.inl ⟨by rfl,fun w hSw=>by(try dsimp only at hSw);obtain⟨s1,s2,s3⟩:=hSw;go_simp⟩) sV ?_
     try simp only[Act.put,List.setIfInBounds_toArray,List.set_cons_zero,List.set_cons_succ]
     refine wpAnyH_take (i:=3) (v:=.string K) rfl (by kernel_rfl) (by kernel_rfl) (by kernel_rfl) (fun _ _ _ h=>h) (Or.inl ⟨by rfl,fun w hSw=>by(try dsimp only at hSw);obtain⟨s1,s2,s3⟩:=hSw;go_simp⟩) sV ?_
     try simp only[Act.put,List.setIfInBounds_toArray,List.set_cons_zero,List.set_cons_succ]
     refine wpAnyH_take (i:=4) (v:=.pointer (some ⟨p,0,none⟩)) rfl (by kernel_rfl) (by kernel_rfl) (by kernel_rfl) (fun _ _ _ h=>h) (Or.inl ⟨by rfl,fun w hSw=>by(try dsimp only at hSw);obtain⟨s1,s2,s3⟩:=hSw;go_simp⟩) sV ?_
     try simp only[Act.put,List.setIfInBounds_toArray,List.set_cons_zero,List.set_cons_succ]
     refine wpAnyH_take (i:=5) (v:=.pointer (some ⟨p,0,none⟩)) rfl (by kernel_rfl) (by kernel_rfl) (by kernel_rfl) (fun _ _ _ h=>h) (Or.inl ⟨by rfl,fun w hSw=>by(try dsimp only at hSw);obtain⟨s1,s2,s3⟩:=hSw;go_simp⟩) sV ?_
     try simp only[Act.put,List.setIfInBounds_toArray,List.set_cons_zero,List.set_cons_succ]
     refine wpAnyH_take (i:=6) (v:=.pointer (some ⟨p,3,none⟩)) rfl (by kernel_rfl) (by kernel_rfl) (by kernel_rfl) (fun _ _ _ h=>h) (Or.inl ⟨by rfl,fun w hSw=>by(try dsimp only at hSw);obtain⟨s1,s2,s3⟩:=hSw;go_simp⟩) sV ?_
     try simp only[Act.put,List.setIfInBounds_toArray,List.set_cons_zero,List.set_cons_succ]
     refine wpAnyH_take (i:=7) (v:=.slice o3 pn c3) rfl (by kernel_rfl) (by kernel_rfl) (by kernel_rfl) (fun _ _ _ h=>h) (Or.inl ⟨by rfl,fun w hSw=>by(try dsimp only at hSw);obtain⟨s1,s2,s3⟩:=hSw;go_simp⟩) sV ?_
     try simp only[Act.put,List.setIfInBounds_toArray,List.set_cons_zero,List.set_cons_succ]
     refine wpAnyH_take (i:=8) (v:=.int .i64 (pn:Nat)) rfl (by kernel_rfl) (by kernel_rfl) (by kernel_rfl) (fun _ _ _ h=>h) (Or.inl ⟨by rfl,fun w hSw=>by(try dsimp only at hSw);obtain⟨s1,s2,s3⟩:=hSw;go_simp⟩) sV ?_
     try simp only[Act.put,List.setIfInBounds_toArray,List.set_cons_zero,List.set_cons_succ]
     refine wpAnyH_take (i:=9) (v:=.agg #[.int .i64 (m:Nat),.string K,.bool true,.int .i64 (pn:Nat)]) rfl (by kernel_rfl) (by kernel_rfl) (by kernel_rfl) (fun _ _ _ h=>h) (Or.inl ⟨by rfl,fun w hSw=>by(try dsimp only at hSw);obtain⟨s1,s2,s3⟩:=hSw;go_simp⟩) sV ?_
     try simp only[Act.put,List.setIfInBounds_toArray,List.set_cons_zero,List.set_cons_succ]
     refine wpAnyH_ready (rs:=[0,10]) (by kernel_rfl) (by simp) ?_;refine AllReadyH.cons rfl (fun K1 hK1=>?_) (AllReadyH.cons rfl (fun K1 hK1=>?_) AllReadyH.nil)
     ·go_simp
      refine hK1.out _ _ sV (fun _=>?_)
      try simp only[Act.put,List.setIfInBounds_toArray,List.set_cons_zero,List.set_cons_succ]
      refine wpAnyH_ready (rs:=[10]) (by kernel_rfl) (by simp) ?_;refine AllReadyH.cons rfl (fun K2 hK2=>?_) AllReadyH.nil
      go_simp
      refine hK2.out _ _ fQ.o (fun _=>?_)
      try simp only[Act.put,List.setIfInBounds_toArray,List.set_cons_zero,List.set_cons_succ]
      refine wpAnyH_ready (rs:=[11]) (by kernel_rfl) (by simp) ?_;refine AllReadyH.cons rfl (fun K3 hK3=>?_) AllReadyH.nil;refine step_append_lies _ (by rfl) _ _ _ (by rfl) B 116 i0 _ 4 40 underlying113 hi0 hz0 hz1 hzb (by rfl) (by decide) ve TE.length (bQ TE) (by rfl) Uf.o ⟨sz,0,none⟩ 1 1 [.int .i64 (m:Nat),.string K,.bool true,.int .i64 (pn:Nat)] (by rfl) (by rfl) (World.news_of_block Ug.o) xO (by omega) (by unfold maxLen;omega) (by omega) (by simp;omega) _ rfl ?_;intro g3 cap3 w3 hown3 hg3 hat3 hlt3;obtain⟨e3,f3,s3,s4,hend⟩:=Uh.o g3 cap3 w3 hown3 hg3;refine hK3.out _ _ s3 (fun _=>?_)
      try simp only[Act.put,List.setIfInBounds_toArray,List.set_cons_zero,List.set_cons_succ]
      refine wpAnyH_ready (rs:=[12]) (by kernel_rfl) (by simp) ?_;refine AllReadyH.cons rfl (fun K4 hK4=>?_) AllReadyH.nil;clear hK3
      go_simp
      refine hK4.out _ _ s4 (fun _=>?_);refine wpAnyH_done (by kernel_rfl) ?_ _;exact⟨rfl,hend.o⟩
     ·go_simp
      refine hK1.out _ _ fQ.o (fun _=>?_)
      try simp only[Act.put,List.setIfInBounds_toArray,List.set_cons_zero,List.set_cons_succ]
      refine wpAnyH_ready (rs:=[0]) (by kernel_rfl) (by simp) ?_;refine AllReadyH.cons rfl (fun K2 hK2=>?_) AllReadyH.nil;have cT2:=ab3.o
      go_simp
      refine hK2.out _ _ fQ.o (fun _=>?_)
      try simp only[Act.put,List.setIfInBounds_toArray,List.set_cons_zero,List.set_cons_succ]
      refine wpAnyH_ready (rs:=[11]) (by kernel_rfl) (by simp) ?_;refine AllReadyH.cons rfl (fun K3 hK3=>?_) AllReadyH.nil;refine step_append_lies _ (by rfl) _ _ _ (by rfl) B 116 i0 _ 4 40 underlying113 hi0 hz0 hz1 hzb (by rfl) (by decide) ve TE.length (bQ TE) (by rfl) Uf.o ⟨sz,0,none⟩ 1 1 [.int .i64 (m:Nat),.string K,.bool true,.int .i64 (pn:Nat)] (by rfl) (by rfl) (World.news_of_block Ug.o) xO (by omega) (by unfold maxLen;omega) (by omega) (by simp;omega) _ rfl ?_;intro g3 cap3 w3 hown3 hg3 hat3 hlt3;obtain⟨e3,f3,s3,s4,hend⟩:=Uh.o g3 cap3 w3 hown3 hg3;refine hK3.out _ _ s3 (fun _=>?_)
      try simp only[Act.put,List.setIfInBounds_toArray,List.set_cons_zero,List.set_cons_succ]
      refine wpAnyH_ready (rs:=[12]) (by kernel_rfl) (by simp) ?_;refine AllReadyH.cons rfl (fun K4 hK4=>?_) AllReadyH.nil;clear hK3
      go_simp
      refine hK4.out _ _ s4 (fun _=>?_);refine wpAnyH_done (by kernel_rfl) ?_ _;exact⟨rfl,hend.o⟩
    case done2 =>
     rintro zs W' hzs ⟨⟨ve,bTe,hre,-⟩,jo,hke⟩;have hmap:zs.map (fun x:fB L=>Vt.mk x.2.val y.ky true pn)=y.ks.reverse.map fun m=>⟨m,y.ky,true,pn⟩:=by
      rw[<-hzs,List.map_map];rfl
     have HF:Hd (KeepsFrom W0.heap.size W W'/\VF B W W'/\VF B W0 W'):=⟨(Lj.o.trans wC.o.2).trans hke,(yC.o.two wC.o.1).two jo,Ll.o.two ((yC.o.two wC.o.1).two jo)⟩;have ji:Hd (W'.ownsRow B 116 4 ve (td++(pre++[((j,⟨q,hq⟩):fB L)]).flatMap f).length (bQ (td++(pre++[((j,⟨q,hq⟩):fB L)]).flatMap f))):=by
      show World.ownsRow _ _ _ _ _ _ _;rw[gU.o,kM.o,<-hmap];exact hre
     clear hre jo hke
     gi_wp2
     exact⟨HF.o.1,HF.o.2.1,⟨ve,bTe,ji.o,trivial⟩,HF.o.2.2⟩
    case stop2 =>
     rintro c pre' W' _ h;exact h.elim
   ·have hb2:(KN == 2)=false:=by simpa using h2
    rw[if_neg h2]at kM;clear h0 h2
    gi_wp2
    exact⟨Lj.o,yC.o,⟨v,um.o.1,by rw[gU.o,kM.o,List.append_nil];exact um.o.2,trivial⟩,Ll.o.two yC.o⟩
 case done =>
  rintro D zs W hD hzs ⟨⟨v,bT,hrw,-⟩,kE⟩ hK;have cT:=bT.cell;have hbel:zs.flatMap (fun x:fB L=>vs1 ns path.length x.2.val)=dm ns t path.length:=by
   unfold dm;rw[<-hzs,List.flatMap_map]
  rw[hbel]at hrw
  gi_wp2
  refine⟨by simp,.inl ⟨_,_,rfl,run_takeDeferred hK,?_⟩⟩;refine⟨_,results_tmp (t:=6) rfl _ _ _,v,rfl,?_,?_⟩
  ·exact ownsRow_putObj hrw _ hK rfl
  ·exact((VF.gb HW0.o hBw).two kE).two (VF.obj (grownBy_putObj' _ _ _) (Nat.le_trans Ac kE.bel.size) (fun r e=>by cases e;exact⟨by omega,_,hK,rfl⟩))
 case stop =>
  rintro D c pre W _ _ h _;exact h.elim
open Go.RowKit Go.Maps Go.WideMaps Go.Joins Go.Shelf
def lH(ns:List Tn):Nat->List UInt8->List UInt8->List Vt->Option (List UInt8)
 | 0,_,_,_=>none
 | f+1,out,path,td=>match td.getLast? with
  | none=>some out
  | some v=>lH ns f (out++iR out (bu path v.ab v.ky) v.dbl++dK ns v.t) (bu path v.ab v.ky) (td.dropLast++dm ns v.t (bu path v.ab v.ky).length)
theorem Hf(ns:List Tn)(f:Nat)(out path:List UInt8):lH ns (f+1) out path []=some out:=rfl
theorem Dp(ns:List Tn)(f:Nat)(out path:List UInt8)(td:List Vt)(v:Vt):lH ns (f+1) out path (td++[v])=lH ns f (out++iR out (bu path v.ab v.ky) v.dbl++dK ns v.t) (bu path v.ab v.ky) (td++dm ns v.t (bu path v.ab v.ky).length):=by
 rw[lH,List.getLast?_append,List.getLast?_singleton];simp only[Option.some_or,List.dropLast_concat]
theorem Hg{α:Type}(l:List α):l=[]\/∃r x,l=r++[x]:=by
 rcases List.eq_nil_or_concat l with h|⟨r,x,h⟩
 ·exact Or.inl h
 ·exact Or.inr ⟨r,x,by rw[h,List.concat_eq_append]⟩
theorem Lr(ns:List Tn):∀(f:Nat) (out path:List UInt8) (td:List Vt) (R:List UInt8),lH ns f out path td=some R->out.length<=R.length
 | 0,_,_,_,_,h=>by cases h
 | f+1,out,path,td,R,h=>by
  rcases Hg td with rfl|⟨r,x,rfl⟩
  ·rw[Hf]at h;cases h;exact Nat.le_refl _
  ·rw[Dp]at h;have:=Lr ns f _ _ _ _ h;rw[List.length_append,List.length_append]at this;omega
structure Ef(ns:List Tn)(own:List Nat):Prop where
 wf:WF ns own
 gt:∀p q,q∈ax ns p->p<q
 nod:∀p,(ax ns p).Nodup
 kdd:∀t,ag ns t=0->KD ns t
 two:∀t q,ag ns t=2->q∈ax ns t->ag ns q=0
 root:0<ns.length/\ag ns 0=0
 txt:∀i (hi:i<ns.length),ns[i].ky.length<=1048576
def BK(ns:List Tn)(t q:Nat):Prop:=(q∈ax ns t/\ag ns q=0)\/∃m,m∈ax ns t/\ag ns m=2/\q∈ax ns m
theorem Ls{ns:List Tn}{pl k:Nat}{v:Vt}(h:v∈vs1 ns pl k):v.ky=aW ns k/\v.ab=pl/\((ag ns k=0/\v.t=k)\/(ag ns k=2/\v.t∈ax ns k)):=by
 unfold vs1 at h;split at h
 ·rename_i h0;rw[List.mem_singleton]at h;subst h;exact⟨rfl,rfl,Or.inl ⟨h0,rfl⟩⟩
 ·split at h
  ·rename_i h2;rw[List.mem_map]at h;obtain⟨m,hm,rfl⟩:=h;exact⟨rfl,rfl,Or.inr ⟨h2,List.mem_reverse.1 hm⟩⟩
  ·cases h
theorem uF{ns:List Tn}{t pl:Nat}{v:Vt}(h:v∈dm ns t pl):v.ab=pl/\∃k∈ax ns t,v.ky=aW ns k/\((ag ns k=0/\v.t=k)\/(ag ns k=2/\v.t∈ax ns k)):=by
 unfold dm at h;rw[List.mem_flatMap]at h;obtain⟨k,hk,hv⟩:=h;obtain⟨h1,h2,h3⟩:=Ls hv;exact⟨h2,k,zV (List.mem_reverse.1 hk),h1,h3⟩
theorem Ae{ns:List Tn}{t pl:Nat}{v:Vt}(h:v∈dm ns t pl):BK ns t v.t:=by
 obtain⟨-,k,hk,-,h3⟩:=uF h
 rcases h3 with⟨h3,h4⟩|⟨h3,h4⟩
 ·exact Or.inl (by rw[h4];exact⟨hk,h3⟩)
 ·exact Or.inr ⟨k,hk,h3,h4⟩
theorem ab4{ns:List Tn}{own:List Nat}(E:Ef ns own){t t' q:Nat}(ht:ag ns t=0)(ht':ag ns t'=0)(h:BK ns t q)(h':BK ns t' q):t=t':=by
 rcases h with⟨h1,h2⟩|⟨m,h1,h2,h3⟩<;>rcases h' with⟨g1,g2⟩|⟨m',g1,g2,g3⟩
 ·exact E.wf.par _ _ _ h1 g1
 ·have e:=E.wf.par _ _ _ h1 g3;rw[<-e,ht]at g2;exact absurd g2 (by decide)
 ·have e:=E.wf.par _ _ _ g1 h3;rw[<-e,ht']at h2;exact absurd h2 (by decide)
 ·have:=E.wf.par _ _ _ h3 g3;subst this;exact E.wf.par _ _ _ h1 g1
theorem Dq{ns:List Tn}{own:List Nat}(E:Ef ns own){t q:Nat}(h:BK ns t q):ag ns q=0/\q<ns.length/\t<q:=by
 rcases h with⟨h1,h2⟩|⟨m,h1,h2,h3⟩
 ·exact⟨h2,E.wf.lt _ _ h1,E.gt _ _ h1⟩
 ·exact⟨E.two _ _ h2 h3,E.wf.lt _ _ h3,Nat.lt_trans (E.gt _ _ h1) (E.gt _ _ h3)⟩
theorem Ui{l:List Nat}(h:l.Nodup):l.reverse.Nodup:=(List.reverse_perm l).nodup_iff.2 h
theorem ab5{ns:List Tn}{own:List Nat}(E:Ef ns own)(t pl:Nat):((dm ns t pl).map Vt.t).Nodup:=by
 unfold dm List.Nodup;rw[List.map_flatMap,List.pairwise_flatMap];have hns:(dQ ns t).reverse.Nodup:=Ui ((xG ns t).nodup_iff.2 (E.nod t));have hin:∀k∈(dQ ns t).reverse,k∈ax ns t:=fun k hk=>zV (List.mem_reverse.1 hk)
 constructor
 ·intro k hk;unfold vs1;split
  ·simp
  ·split
   ·rw[List.map_map];have e:(Vt.t ∘ fun m=>(⟨m,aW ns k,true,pl⟩:Vt))=id:=rfl;rw[e,List.map_id];exact Ui (E.nod k)
   ·simp
 ·refine List.Pairwise.imp_of_mem ?_ hns;intro a b ha hb hab x hx y hy hxy;subst hxy;rw[List.mem_map]at hx hy;obtain⟨v,hv,rfl⟩:=hx;obtain⟨u,hu,hvu⟩:=hy;obtain⟨-,-,h1⟩:=Ls hv;obtain⟨-,-,h2⟩:=Ls hu;rw[hvu]at h2;have ka:=hin a ha;have kb:=hin b hb
  rcases h1 with⟨h1,e1⟩|⟨h1,e1⟩<;>rcases h2 with⟨h2,e2⟩|⟨h2,e2⟩
  ·exact hab (e1.symm.trans e2)
  ·rw[e1]at e2;have e:=E.wf.par _ _ _ ka e2;have:=E.gt _ _ kb;omega
  ·rw[e2]at e1;have e:=E.wf.par _ _ _ kb e1;have:=E.gt _ _ ka;omega
  ·exact hab (E.wf.par _ _ _ e1 e2)
theorem Lt:∀(n:Nat) (l:List Nat),l.Nodup->(∀q∈l,q<n)->l.length<=n
 | 0,l,h,hl=>by
  cases l with
  | nil=>exact Nat.le_refl _
  | cons a r=>exact absurd (hl a (by simp)) (by omega)
 | n+1,l,h,hl=>by
  have h1:=Lt n (l.filter fun q=>decide (q≠n)) (h.filter _) (fun q hq=>by
   rw[List.mem_filter]at hq;have:=hl q hq.1;have:=of_decide_eq_true hq.2;omega)
  have h2:l.length<=(l.filter fun q=>decide (q≠n)).length+1:=by
   clear h1 hl
   induction l with
   | nil=>simp
   | cons a r ih =>
    rw[List.nodup_cons]at h
    by_cases ha:a=n
    ·subst ha;have e:r.filter (fun q=>decide (q≠a))=r:=List.filter_eq_self.2 fun q hq=>by
      simp only[ne_eq,decide_not,Bool.not_eq_true',decide_eq_false_iff_not];rintro rfl;exact h.1 hq
     rw[List.filter_cons_of_neg (by simp),e];simp
    ·rw[List.filter_cons_of_pos (by simpa using ha)];have:=ih h.2;simp only[List.length_cons];omega
  omega
structure Iv(ns:List Tn)(path:List UInt8)(V:List Nat)(td:List Vt):Prop where
 nod:(V++td.map Vt.t).Nodup
 frm:∀q∈V++td.map Vt.t,q=0\/∃p∈V,BK ns p q
 tabV:∀q∈V,q<ns.length/\ag ns q=0
 tab:∀v∈td,v.t<ns.length/\ag ns v.t=0/\v.ky.length<=1048576
 mono:td.Pairwise fun a b=>a.ab<=b.ab
 ab:∀v∈td,v.ab<=path.length
theorem Iv.len{ns:List Tn}{path:List UInt8}{V:List Nat}{td:List Vt}(h:Iv ns path V td):V.length+td.length<=ns.length:=by
 have:=Lt ns.length _ h.nod (fun q hq=>by
  rw[List.mem_append]at hq
  rcases hq with hq|hq
  ·exact(h.tabV q hq).1
  ·rw[List.mem_map]at hq;obtain⟨v,hv,rfl⟩:=hq;exact(h.tab v hv).1)
 rw[List.length_append,List.length_map]at this;exact this
theorem Iv.push{ns:List Tn}{own:List Nat}(E:Ef ns own){path path':List UInt8}{V:List Nat}{td:List Vt}{t:Nat}(hn:(V++t :: td.map Vt.t).Nodup)(hf:∀q∈V++t :: td.map Vt.t,q=0\/∃p∈V,BK ns p q)(hV:∀q∈V,q<ns.length/\ag ns q=0)(ht:t<ns.length/\ag ns t=0)(htd:∀v∈td,v.t<ns.length/\ag ns v.t=0/\v.ky.length<=1048576)(hm:td.Pairwise fun a b=>a.ab<=b.ab)(ha:∀v∈td,v.ab<=path'.length):Iv ns path' (V++[t]) (td++dm ns t path'.length) where
 nod:=by
  rw[List.map_append,<-List.append_assoc,List.nodup_append];refine⟨by simpa using hn,ab5 E _ _,?_⟩;intro a ha' b hb hab;subst hab;rw[List.mem_map]at hb;obtain⟨v,hv,rfl⟩:=hb;have hbk:=Ae hv;have hlt:=(Dq E hbk).2.2;have htV:t∉V:=fun hh=>by
   rw[List.nodup_append]at hn;exact hn.2.2 t hh t (by simp) rfl
  have hq:v.t∈V++t :: td.map Vt.t:=by simpa using ha'
  rcases hf _ hq with h0|⟨p,hp,hbp⟩
  ·omega
  ·have e:=ab4 E ht.2 (hV p hp).2 hbk hbp;subst e;exact htV hp
 frm:=by
  intro q hq;rw[List.map_append,<-List.append_assoc,List.mem_append]at hq
  rcases hq with hq|hq
  ·rcases hf q (by simpa using hq) with h0|⟨p,hp,hbp⟩
   ·exact Or.inl h0
   ·exact Or.inr ⟨p,by simp[hp],hbp⟩
  ·rw[List.mem_map]at hq;obtain⟨v,hv,rfl⟩:=hq;exact Or.inr ⟨t,by simp,Ae hv⟩
 tabV:=by
  intro q hq;rw[List.mem_append,List.mem_singleton]at hq
  rcases hq with hq|rfl
  ·exact hV q hq
  ·exact ht
 tab:=by
  intro v hv;rw[List.mem_append]at hv
  rcases hv with hv|hv
  ·exact htd v hv
  ·have h1:=Dq E (Ae hv);obtain⟨-,k,hk,hky,-⟩:=uF hv;have hkl:=E.wf.lt _ _ hk;refine⟨h1.2.1,h1.1,?_⟩;rw[hky,vW hkl];exact E.txt k hkl
 mono:=by
  rw[List.pairwise_append];refine⟨hm,?_,?_⟩
  ·rw[List.pairwise_iff_forall_sublist];intro a b hab;have ha':=(uF (hab.subset (by simp:a∈[a,b]))).1;have hb':=(uF (hab.subset (by simp:b∈[a,b]))).1;omega
  ·intro a BG b hb;have:=ha a BG;rw[(uF hb).1];exact this
 ab:=by
  intro v hv;rw[List.mem_append]at hv
  rcases hv with hv|hv
  ·exact ha v hv
  ·rw[(uF hv).1];exact Nat.le_refl _
theorem Iv.start{ns:List Tn}{own:List Nat}(E:Ef ns own):Iv ns [] [0] (dm ns 0 0):=by
 have:=Iv.push E (path:=[]) (path':=[]) (V:=[]) (td:=[]) (t:=0) (by simp) (by simp) (by simp) E.root (by simp) List.Pairwise.nil (by simp);simpa using this
theorem Uj(path:List UInt8)(ab:Nat)(ky:List UInt8)(h:ab<=path.length):ab<=(bu path ab ky).length:=by
 unfold bu;rw[List.length_append,List.length_append,List.length_take];omega
theorem Iv.step{ns:List Tn}{own:List Nat}(E:Ef ns own){path:List UInt8}{V:List Nat}{td:List Vt}{v:Vt}(h:Iv ns path V (td++[v])):Iv ns (bu path v.ab v.ky) (V++[v.t]) (td++dm ns v.t (bu path v.ab v.ky).length):=by
 have hm:=h.mono;rw[List.pairwise_append]at hm;have hperm:(V++(td++[v]).map Vt.t).Perm (V++v.t :: td.map Vt.t):=by
  refine List.Perm.append_left V ?_;rw[List.map_append];exact List.perm_append_comm
 refine Iv.push E (path:=path) (hperm.nodup_iff.1 h.nod) (fun q hq=>h.frm q (hperm.mem_iff.2 hq)) h.tabV ?_ (fun u hu=>h.tab u (by simp[hu])) hm.1 (fun u hu=>?_)
 ·have:=h.tab v (by simp);exact⟨this.1,this.2.1⟩
 ·have h1:=hm.2.2 u hu v (by simp);have h2:=Uj path v.ab v.ky (h.ab v (by simp));omega
theorem Uk{ns:List Tn}{own:List Nat}(E:Ef ns own):∀(f:Nat) (out path:List UInt8) (V:List Nat) (td:List Vt),Iv ns path V td->ns.length+1<=V.length+f->∃R,lH ns f out path td=some R
 | 0,out,path,V,td,h,hl=>by have:=h.len;omega
 | f+1,out,path,V,td,h,hl=>by
  rcases Hg td with rfl|⟨r,x,rfl⟩
  ·exact⟨out,rfl⟩
  ·rw[Dp];exact Uk E f _ _ _ _ (h.step E) (by rw[List.length_append,List.length_singleton];omega)
def oQ(ns:List Tn):List UInt8:=((lH ns ns.length (dK ns 0) [] (dm ns 0 0)).getD [])
theorem Lu{ns:List Tn}{own:List Nat}(E:Ef ns own):lH ns ns.length (dK ns 0) [] (dm ns 0 0)=some (oQ ns):=by
 obtain⟨R,hR⟩:=Uk E ns.length (dK ns 0) [] [0] (dm ns 0 0) (Iv.start E) (by simp;omega);unfold oQ;rw[hR];rfl
def Hl:List UInt8->Nat->Nat
 | [],n=>n
 | c :: r,n=>Hl r (if n<=99999999999999999 then 10*n+(c.toNat - 48) else 1000000000000000000)
theorem Ul:∀(ds:List UInt8) (n a:Nat),(∀c∈ds,c.toNat<=57)->n<10 ^ a->a+ds.length<=18->Hl ds n=gu ds n/\gu ds n<10 ^ (a+ds.length)
 | [],n,a,_,hn,_=>⟨rfl,hn⟩
 | c :: r,n,a,hd,hn,hl=>by
  have hc:=hd c (by simp);simp only[List.length_cons]at hl ⊢;have h17:10 ^ a<=10 ^ 17:=Nat.pow_le_pow_right (by omega) (by omega);have hle:n<=99999999999999999:=by
   have e:(10:Nat) ^ 17=100000000000000000:=by decide
   omega
  unfold Hl gu;rw[if_pos hle];have hn':10*n+(c.toNat - 48)<10 ^ (a+1):=by rw[Nat.pow_succ];omega
  have:=Ul r _ (a+1) (fun x hx=>hd x (by simp[hx])) hn' (by omega);rw[show a+1+r.length=a+(r.length+1) by omega]at this;exact this
open Go.RowKit Go.Joins
theorem Um(l:List UInt8)(a k:Nat)(ha:a<=k)(hk:k<=l.length):(ah l a (k-a)).length=k-a:=by
 unfold ah;rw[List.length_take,List.length_drop];omega
theorem ab6(l:List UInt8)(a k:Nat)(h:∀c∈ah l a (k-a),c.toNat<=57)(ha:a<=k)(hk:k<=l.length)(h18:k-a<=18):Hl (ah l a (k-a)) 0=gu (ah l a (k-a)) 0/\gu (ah l a (k-a)) 0<=999999999999999999:=by
 have:=Ul (ah l a (k-a)) 0 0 h (by decide) (by rw[Um l a k ha hk];omega);refine⟨this.1,?_⟩;have h2:=this.2;have h3:(10:Nat) ^ (0+(ah l a (k-a)).length)<=10 ^ 18:=Nat.pow_le_pow_right (by omega) (by rw[Um l a k ha hk];omega);have e:(10:Nat) ^ 18=1000000000000000000:=by decide
 omega
end Go.Proofs.YtmkjelchiacogaaGreatDoor
