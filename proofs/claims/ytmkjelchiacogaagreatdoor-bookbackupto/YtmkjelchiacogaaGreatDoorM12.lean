import Derived.Test.YtmkjelchiacogaaGreatDoorM11
import Derived.RangeFuncNested
import Derived.RangeFuncBound
import Derived.RangeFuncCalls
import Derived.RangeFuncLeaves
import Derived.Shelf.Abstract
import Derived.Shelf.RegionOpen
import Derived.OwnWalkIn
import Derived.TacticsInMore
import Derived.LoopNIn
import Derived.LoopIn
set_option linter.unusedVariables false
set_option linter.unusedSimpArgs false
set_option maxRecDepth 100000
set_option maxHeartbeats 6400000
open Go.Proofs.Tryz
namespace Go.Proofs.YtmkjelchiacogaaGreatDoor
open Go.RowKit Go.Maps Go.WideMaps Go.Joins
theorem Pn.pf{w:World}{B p:Nat}{NV:Value}{out path:List UInt8}(h:Pn w B p NV out path):B<=w.heap.size:=by
 have:=h.base;omega
theorem abG{w0:World}{p N c:Nat}{NV:Value}{ns:List Tn}{own:List Nat}(E:Ev w0 NV N c ns own)(f:Nat)(C:Ti w0 p NV ns f):KQ w0 p NV ns (f+1):=by
 intro out path t ht k w hf hP hg hk hsz;have wo:=Tf ns f t ht;obtain⟨abH,htx⟩:=E.txt t ht;obtain⟨GU,GV⟩:=E.num t ht;obtain⟨ok,ck,hkv,hkc⟩:=hk;have hk2:NuS w0 k ns[t].ks:=⟨ok,ck,hkv,hkc⟩;have CL:Hd (∀w',Pn w' w0.heap.size p NV out path->w0.grownBy w' none->out.length+(91 :: cm true (ns[t].ks.map (vT ns f))++[93]).length<=70368744177664->Calls prog 133 #[.pointer (some ⟨p,0,none⟩),k] w' fun e w''=>e=.returned (.tuple #[])/\Pn w'' w0.heap.size p NV (out++(91 :: cm true (ns[t].ks.map (vT ns f))++[93])) path/\PF w0.heap.size w' w''):=fun w' h1 h2 h3=>C out path ns[t].ks k w' (fun q hq=>by
  have hq':q∈ax ns t:=by rw[vX ht];exact hq
  have a1:=E.gt t q hq';have a2:=E.wf.lt t q hq';exact⟨a2,by omega⟩) (by have:=E.wf.len t;rw[vX ht]at this;have:=E.len;omega) h1 h2 hk2 h3
 obtain⟨B,hB⟩:=zN (w0.heap.size);have lV:Hd (∀w w',w0.grownBy w none->Below B w w'->w0.grownBy w' none):=fun w w' h1 h2=>C9 h1 (by rw[hB];exact h2)
 have zU:Hd (∀w',w0.grownBy w' none->Tab w'):=fun w' h=>KP E.tab h
 rw[hB]at CL hP ⊢;obtain⟨x,hx⟩:=zN (ns[t]);rw[hx]at CL wo htx GU GV ⊢;obtain⟨V,hV⟩:=zN (vT ns (f+1) t);rw[hV]at wo hsz ⊢;have HVV:Hd (V=if x.kd=1 then 91 :: cm true (x.ks.map (vT ns f))++[93] else if x.kd=3 then qt x.tx else if x.kd=4 then Lib.itoa x.nu else if x.kd=5 then Lib.formatBool (decide (x.nu=1)) else[]):=wo;have hgA:w.grownBy (w.alloc (.cells #[.int .i64 x.kd,.string ⟨x.ky.toArray⟩,.string ⟨x.tx.toArray⟩,.int .i64 x.nu,k,.int .i64 (x.pl:Nat)] 90)) none:=World.grownBy_alloc _ _ none;have hbx:=heap_alloc_new w (.cells #[.int .i64 x.kd,.string ⟨x.ky.toArray⟩,.string ⟨x.tx.toArray⟩,.int .i64 x.nu,k,.int .i64 (x.pl:Nat)] 90);have hBw:=hP.pf;obtain⟨w1,hw1⟩:∃W,w.alloc (.cells #[.int .i64 x.kd,.string ⟨x.ky.toArray⟩,.string ⟨x.tx.toArray⟩,.int .i64 x.nu,k,.int .i64 (x.pl:Nat)] 90)=W:=⟨_,rfl⟩;obtain⟨bx,nP⟩:∃b,w.heap.size=b:=⟨_,rfl⟩;rw[hw1]at hgA hbx
 rw[nP]at hbx;have HW1:Hd (w.alloc (.cells #[.int .i64 x.kd,.string ⟨x.ky.toArray⟩,.string ⟨x.tx.toArray⟩,.int .i64 x.nu,k,.int .i64 (x.pl:Nat)] 90)=w1):=hw1;have dJ:Hd (w.heap.size=bx):=nP;have dI:Hd (Pn w1 B p NV out path):=hP.gb hgA;have iM:Hd (PF B w w1):=PF.gb hgA hBw;have aB:Hd (w0.grownBy w1 none):=af hg hgA;have nO:Hd (w1.heap[bx]?=some (.cells #[.int .i64 x.kd,.string ⟨x.ky.toArray⟩,.string ⟨x.tx.toArray⟩,.int .i64 x.nu,k,.int .i64 (x.pl:Nat)] 90 (0,0))):=hbx;have b0:w1.cell? ⟨bx,0,none⟩=some (.int .i64 x.kd):=by rw[ae hbx];rfl
 have b2:w1.cell? ⟨bx,2,none⟩=some (.string ⟨x.tx.toArray⟩):=by rw[ae hbx];rfl
 have b3:w1.cell? ⟨bx,3,none⟩=some (.int .i64 x.nu):=by rw[ae hbx];rfl
 have b4:w1.cell? ⟨bx,4,none⟩=some k:=by rw[ae hbx];rfl
 -- a text written behind a call that only grows
 have CW:Hd (∀(X:List UInt8),X≠[]->out.length+X.length<=70368744177664->∀w2,w1.drew.grownBy w2 none->Calls prog 30 #[.pointer (some ⟨p,1,none⟩),.string ⟨X.toArray⟩] w2 fun e w3=>(∃k:Int,e=.returned (.tuple #[.int .i64 k,.nilIface]))/\Hd (Pn w3 B p NV (out++X) path/\PF B w w3)/\w3.cell? ⟨bx,2,none⟩=some (.string ⟨x.tx.toArray⟩)/\w3.cell? ⟨bx,3,none⟩=some (.int .i64 x.nu)):=fun X hX hl w2 hg2=>by
  have g2:w1.grownBy w2 none:=af (show w1.grownBy w1.drew none from⟨rfl,rfl,rfl,Nat.le_refl _,fun _ _ _=>rfl⟩) hg2;refine(zk B p NV out path X w2 (dI.o.gb g2) hX hl).mono ?_;rintro e w3 ⟨he,h1,h2⟩;have hb2:=(g2.block bx (aA nO.o) (by simp)).trans nO.o;have hb3:=(h2.oth _ _ _ _ hb2 (by decide) (by decide)).trans hb2;exact⟨he,⟨h1,(iM.o.two (PF.gb g2 dI.o.pf)).two h2⟩,by rw[ae hb3];rfl,by rw[ae hb3];rfl⟩
 obtain⟨KD',hkd⟩:∃z,x.kd=z:=⟨_,rfl⟩;rw[hkd]at HVV b0 HW1 nO ⊢;obtain⟨T,hT⟩:∃T:ByteArray,⟨x.tx.toArray⟩=T:=⟨_,rfl⟩;have HT:Hd (T.data.toList=x.tx/\T.size<=1048576):=by
  rw[<-hT];exact⟨by simp,by show x.tx.toArray.size<=_;simpa using htx⟩
 rw[hT]at b2 CW HW1 nO ⊢;clear hP hg hk2 hkv hkc hf wo hV hgA hbx nP hw1 E C hx abH ht hkd hT
 by_cases h1:KD'=1
 ·have hb1:(KD' == 1)=true:=by simpa using h1
  rw[if_pos h1]at HVV;rw[HVV.o]at hsz ⊢;clear h1;go_enter func88,ntmps88;go_upto_region 1 with fail
  rw[HW1.o,dJ.o];go_wp2_with (go_at_call 133;refine(CL.o _ dI.o aB.o hsz).mono ?_;rintro e w2 ⟨rfl,hp2,hf2⟩);refine bodyPost_end (results_none rfl _ _ _) rfl ?_;exact⟨rfl,hp2,iM.o.two hf2⟩
 ·have hb1:(KD' == 1)=false:=by simpa using h1
  rw[if_neg h1]at HVV;clear h1
  by_cases h3:KD'=3
  ·have abI:(KD' == 3)=true:=by simpa using h3
   rw[if_pos h3]at HVV;rw[HVV.o]at hsz ⊢;have CQ:Hd (Calls prog 132 #[.string T] w1.drew fun e w'=>e=.returned (.string ⟨(qt x.tx).toArray⟩)/\w1.drew.grownBy w' none):=by
    have:=SX T w1.drew HT.o.2;rw[HT.o.1]at this;exact this
   have mQ:=CW.o (qt x.tx) (fun e=>by have:=(KH x.tx).1;rw[e]at this;simp at this) hsz;have lD:Hd (∀w2,w1.drew.grownBy w2 none->Calls prog 30 #[.pointer (some ⟨p,1,none⟩),.string ⟨(qt x.tx).toArray⟩] w2 fun e w3=>(∃k:Int,e=.returned (.tuple #[.int .i64 k,.nilIface]))/\Hd (Pn w3 B p NV (out++qt x.tx) path/\PF B w w3)/\w3.cell? ⟨bx,2,none⟩=some (.string T)):=fun w2 h=>(mQ w2 h).mono fun e w3 ⟨a,b,c,d⟩=>⟨a,b,c⟩
   obtain⟨QT,lW⟩:∃Q:ByteArray,⟨(qt x.tx).toArray⟩=Q:=⟨_,rfl⟩;rw[lW]at CQ lD;clear h3 mQ CW lW b3 b4;go_enter func88,ntmps88;go_upto_region 1 with fail
   rw[HW1.o,dJ.o];go_wp2
   go_region_held3 (fun u=>u.cell? ⟨bx,2,none⟩=some (.string T)) ((first|assumption|exact World.grownBy.cell (by assumption) (by assumption) (by simp)|go_keep)) (first|(go_at_call 132;refine CQ.o.mono ?_;rintro e w6 ⟨rfl,bG⟩)|(go_at_call 30;refine(lD.o _ bG).mono ?_;rintro e w7 ⟨⟨k7,rfl⟩,hall,hcl⟩))
   go_wp2;refine bodyPost_end (results_none rfl _ _ _) rfl ?_;exact⟨rfl,hall.o.1,hall.o.2⟩
  ·have abI:(KD' == 3)=false:=by simpa using h3
   rw[if_neg h3]at HVV;clear h3
   by_cases h4:KD'=4
   ·have abJ:(KD' == 4)=true:=by simpa using h4
    rw[if_pos h4]at HVV;rw[HVV.o]at hsz ⊢;have CQ:Hd (Calls prog 31 #[.int .i64 x.nu] w1.drew fun e w'=>e=.returned (.string ⟨(Lib.itoa x.nu).toArray⟩)/\w1.drew.grownBy w' none):=abB x.nu w1.drew GU GV (zU.o _ (au aB.o 1));have mQ:=CW.o (Lib.itoa x.nu) (abC _) hsz;have lD:Hd (∀w2,w1.drew.grownBy w2 none->Calls prog 30 #[.pointer (some ⟨p,1,none⟩),.string ⟨(Lib.itoa x.nu).toArray⟩] w2 fun e w3=>(∃k:Int,e=.returned (.tuple #[.int .i64 k,.nilIface]))/\Hd (Pn w3 B p NV (out++Lib.itoa x.nu) path/\PF B w w3)/\w3.cell? ⟨bx,3,none⟩=some (.int .i64 x.nu)):=fun w2 h=>(mQ w2 h).mono fun e w3 ⟨a,b,c,d⟩=>⟨a,b,d⟩
    obtain⟨QT,lW⟩:∃Q:ByteArray,⟨(Lib.itoa x.nu).toArray⟩=Q:=⟨_,rfl⟩;rw[lW]at CQ lD;obtain⟨NU,Df⟩:∃z,x.nu=z:=⟨_,rfl⟩;rw[Df]at CQ b3 HW1 lD ⊢;clear h4 mQ CW lW b2 b4 Df nO GU GV;go_enter func88,ntmps88;go_upto_region 1 with fail
    rw[HW1.o,dJ.o];go_wp2
    go_region_held3 (fun u=>u.cell? ⟨bx,3,none⟩=some (.int .i64 NU)) ((first|assumption|exact World.grownBy.cell (by assumption) (by assumption) (by simp)|go_keep)) (first|(go_at_call 31;refine CQ.o.mono ?_;rintro e w6 ⟨rfl,bG⟩)|(go_at_call 30;refine(lD.o _ bG).mono ?_;rintro e w7 ⟨⟨k7,rfl⟩,hall,hcl⟩))
    go_wp2;refine bodyPost_end (results_none rfl _ _ _) rfl ?_;exact⟨rfl,hall.o.1,hall.o.2⟩
   ·have abJ:(KD' == 4)=false:=by simpa using h4
    rw[if_neg h4]at HVV;clear h4
    by_cases h5:KD'=5
    ·have abK:(KD' == 5)=true:=by simpa using h5
     rw[if_pos h5]at HVV;rw[HVV.o]at hsz ⊢;obtain⟨bb,hbb⟩:=zN (decide (x.nu=1));rw[hbb]at hsz ⊢;have hbq:(x.nu == 1)=bb:=by rw[<-hbb,Bool.eq_iff_iff];simp
     have CQ:Hd (∀w',Calls prog 134 #[.bool bb] w' fun e w''=>e=.returned (.string ⟨(Lib.formatBool bb).toArray⟩)/\w''=w'):=fun w'=>Any.strconv_FormatBool Tryz.lays121 bb w'
     have mQ:=CW.o (Lib.formatBool bb) (abA _) hsz _ (ai _ _);have lD:Hd (Calls prog 30 #[.pointer (some ⟨p,1,none⟩),.string ⟨(Lib.formatBool bb).toArray⟩] w1.drew fun e w3=>(∃k:Int,e=.returned (.tuple #[.int .i64 k,.nilIface]))/\Hd (Pn w3 B p NV (out++Lib.formatBool bb) path/\PF B w w3)/\w3.cell? ⟨bx,3,none⟩=some (.int .i64 x.nu)):=mQ.mono fun e w3 ⟨a,b,c,d⟩=>⟨a,b,d⟩
     obtain⟨QT,lW⟩:∃Q:ByteArray,⟨(Lib.formatBool bb).toArray⟩=Q:=⟨_,rfl⟩;rw[lW]at CQ lD;obtain⟨NU,Df⟩:∃z,x.nu=z:=⟨_,rfl⟩;rw[Df]at b3 HW1 lD hbq ⊢;clear h5 mQ CW lW b2 b4 Df nO GU GV hbb;go_enter func88,ntmps88;go_upto_region 1 with fail
     rw[HW1.o,dJ.o];go_wp2
     go_region_held3 (fun u=>u.cell? ⟨bx,3,none⟩=some (.int .i64 NU)) ((first|assumption|exact World.grownBy.cell (by assumption) (by assumption) (by simp)|go_keep)) (first|(go_at_call 134;refine(CQ.o _).mono ?_;rintro e w6 ⟨rfl,rfl⟩)|(go_at_call 30;refine lD.o.mono ?_;rintro e w7 ⟨⟨k7,rfl⟩,hall,hcl⟩))
     go_wp2;refine bodyPost_end (results_none rfl _ _ _) rfl ?_;exact⟨rfl,hall.o.1,hall.o.2⟩
    ·have abK:(KD' == 5)=false:=by simpa using h5
     rw[if_neg h5]at HVV;rw[HVV.o,List.append_nil];clear h5 CW;go_enter func88,ntmps88;go_upto_region 1 with fail
     rw[HW1.o,dJ.o];go_wp2;refine bodyPost_end (results_none rfl _ _ _) rfl ?_;exact⟨rfl,dI.o,iM.o⟩
theorem Tt{w0:World}{p N c:Nat}{NV:Value}{ns:List Tn}{own:List Nat}(E:Ev w0 NV N c ns own):∀f,KQ w0 p NV ns f
 | 0=>fun out path t ht k w hf=>absurd hf (by omega)
 | f+1=>abG E f (abE E f (Tt E f))
open Go.RowKit Go.Maps Go.WideMaps Go.Joins
def gz(ns:List Tn)(q:Nat):List UInt8:=if ag ns q=0\/ag ns q=2 then[] else kt (aW ns q)++[32,61,32]++vT ns ns.length q++[10]
def dK(ns:List Tn)(t:Nat):List UInt8:=(dQ ns t).flatMap (gz ns)
theorem abL{α:Type}(f:α->List UInt8)(l:List α)(i:Nat):((l.take i).flatMap f).length<=(l.flatMap f).length:=by
 conv=>rhs;rw[<-List.take_append_drop i l,List.flatMap_append,List.length_append]
 omega
theorem abM{α:Type}(f:α->List UInt8)(l:List α)(i:Nat)(h:i<l.length):(l.take (i+1)).flatMap f=(l.take i).flatMap f++f l[i]:=by
 rw[List.take_succ_eq_append_getElem h,List.flatMap_append];simp
theorem zV{ns:List Tn}{t q:Nat}(h:q∈dQ ns t):q∈ax ns t:=(xG ns t).subset h
theorem Tu{w0:World}{p N c:Nat}{NV:Value}{ns:List Tn}{own:List Nat}(E:Ev w0 NV N c ns own)(out path:List UInt8)(t:Nat)(w:World)(ht:t<ns.length)(hkd:KD ns t)(hP:Pn w w0.heap.size p NV out path)(hg:w0.grownBy w none)(hsz:out.length+(dK ns t).length<=70368744177664) :
  Calls prog 51 #[.pointer (some ⟨p,0,none⟩),.int .i64 (t:Nat)] w fun e w'=>e=.returned (.tuple #[])/\Pn w' w0.heap.size p NV (out++dK ns t) path/\PF w0.heap.size w w':=by
 have hEl:=E.len;have zM:(dQ ns t).length<=900000:=by rw[(xG ns t).length_eq];have:=E.wf.len t;omega
 have CS:Hd (Calls prog 86 #[.pointer (some ⟨p,0,none⟩),.int .i64 (t:Nat)] w fun e w'=>∃v,e=.returned v/\w'.ownsRow w.heap.size 3 1 v (dQ ns t).length ((dQ ns t).map fun q=>.int .i64 (q:Nat))/\w.grownBy w' none):=SS p N c NV ns own t w hP.base.2.2 (E.nv.grow hg) E.wf ht hkd hEl;have GX:Hd (∀q∈dQ ns t,q<ns.length):=fun q hq=>E.wf.lt t q (zV hq)
 have hv:=E.nv.val;obtain⟨B,hB⟩:=zN (w0.heap.size);have lV:Hd (∀w w',w0.grownBy w none->Below B w w'->w0.grownBy w' none):=fun w w' h1 h2=>C9 h1 (by rw[hB];exact h2)
 have CW:Hd (∀(X Y:List UInt8) w,Pn w B p NV X path->Y≠[]->X.length+Y.length<=70368744177664->Calls prog 30 #[.pointer (some ⟨p,1,none⟩),.string ⟨Y.toArray⟩] w fun e w'=>(∃k:Int,e=.returned (.tuple #[.int .i64 k,.nilIface]))/\Pn w' B p NV (X++Y) path/\PF B w w'):=fun X Y w h h0 hl=>zk B p NV X path Y w h h0 hl
 have CB:Hd (∀(X:List UInt8) (ch:UInt8) w,Pn w B p NV X path->X.length+1<=70368744177664->Calls prog 89 #[.pointer (some ⟨p,1,none⟩),.int .u8 (ch.toNat:Int)] w fun e w'=>e=.returned .nilIface/\Pn w' B p NV (X++[ch]) path/\PF B w w'):=fun X ch w h hl=>Js B p NV X path ch w h hl
 have CV:Hd (∀(X:List UInt8) (q:Nat) (hq:q<ns.length) (k:Value) (w:World),Pn w B p NV X path->w0.grownBy w none->NuS w0 k ns[q].ks->X.length+(vT ns ns.length q).length<=70368744177664->Calls prog 88 #[.pointer (some ⟨p,0,none⟩),.agg #[.int .i64 ns[q].kd,.string ⟨ns[q].ky.toArray⟩,.string ⟨ns[q].tx.toArray⟩,.int .i64 ns[q].nu,k,.int .i64 (ns[q].pl:Nat)]] w fun e w'=>e=.returned (.tuple #[])/\Pn w' B p NV (X++vT ns ns.length q) path/\PF B w w'):=fun X q hq k w h2 h3 h4 h5=>by
  have:=Tt E ns.length X path q hq k w (by omega) (by rw[hB];exact h2) h3 h4 h5;rw[hB]at this;exact this
 have HE:Hd (Ev w0 NV N c ns own):=E;rw[hB]at hP ⊢;have yz:Hd (Pn w B p NV out path):=hP;have iZ:Hd (w0.grownBy w none):=hg;have hBw:=hP.pf;obtain⟨SR,hSR⟩:∃S,dQ ns t=S:=⟨_,rfl⟩;have yA:Hd (dK ns t=SR.flatMap (gz ns)):=by show _=_;unfold dK;rw[hSR]
 rw[hSR]at CS GX zM;rw[yA.o]at hsz ⊢;obtain⟨n,hn⟩:=zN (SR.length);have HN:Hd (SR.length=n):=hn;rw[hn]at CS zM;obtain⟨L,hL⟩:=zN (ns.length);have jM:Hd (ns.length=L):=hL;subst hv;rw[hL]at ht;clear hP hg E hkd hB hSR hn hL;go_enter func51,ntmps51;go_wp2_with (go_at_call 86;refine CS.o.mono ?_);rintro e w1 ⟨v,rfl,hown1,hg1⟩;obtain⟨o1,c1,rfl⟩:=ku hown1;have eu:Hd (w1.ownsRow w.heap.size 3 1 (.slice o1 n c1) n (SR.map fun q=>.int .i64 (q:Nat))):=hown1;have iM:Hd (PF B w w1):=PF.gb hg1 hBw;have dI:Hd (Pn w1 B p (.slice (some ⟨N,0,none⟩) ns.length c) out path):=yz.o.gb hg1;clear hown1 hg1;go_wp2;go_loopw [11] (fun v11 wr=>∃i:Nat,v11=.int .i64 (i:Nat)/\i<=n/\Pn wr B p (.slice (some ⟨N,0,none⟩) ns.length c) (out++(SR.take i).flatMap (gz ns)) path/\PF B w1 wr) (fun v11 _=>n-(intOf v11).toNat)
 case atStart=>exact⟨0,rfl,Nat.zero_le _,by simpa using dI.o,PF.refl _ _⟩
 case round =>
  obtain⟨i,rfl,hi,hpr,hfr⟩:=hrel;have kC:Hd (Pn wr B p (.slice (some ⟨N,0,none⟩) ns.length c) (out++(SR.take i).flatMap (gz ns)) path):=hpr;have vZ:Hd (PF B w1 wr):=hfr;have Dh:Hd (PF B w wr):=iM.o.two hfr;have kD:Hd (w0.grownBy wr none):=lV.o _ _ iZ.o Dh.o.bel;clear hpr hfr
  by_cases hlt:i<n
  ·have hil:i<SR.length:=by rw[HN.o];exact hlt
   have hI:(i:Int)<(n:Int):=by omega
   obtain⟨g1,c1',kE,-,-⟩:=eu.o.form (by omega);injection kE with ho _ hc
   subst ho hc;obtain⟨q,hq⟩:=zN (SR[i]);have g1c:=(bW eu.o fun g cur hh hc=>vZ.o.oth _ _ _ _ hc (by decide) (by decide)).cells (g:=g1) rfl i (.int .i64 (q:Nat)) (by rw[List.getElem?_map,List.getElem?_eq_getElem hil,hq];rfl);rw[sD]at g1c;have bz:q<ns.length:=GX.o q (by rw[<-hq];exact List.getElem_mem hil);have Tq:(q:Int)<(L:Int):=by have:=jM.o;omega
   have iG:Hd ((SR.take (i+1)).flatMap (gz ns)=(SR.take i).flatMap (gz ns)++gz ns q):=by
    show _=_;rw[abM (gz ns) SR i hil,hq]
   have hle:=abL (gz ns) SR (i+1);rw[iG.o,List.length_append]at hle;obtain⟨acc,hacc⟩:=zN ((SR.take i).flatMap (gz ns));rw[hacc]at iG kC hle;obtain⟨X,hX⟩:=zN (out++acc);have BH:X.length=out.length+acc.length:=by rw[<-hX];simp
   rw[hX]at kC;have HX:Hd (out++acc=X):=hX;obtain⟨k6,n0,n1,n2,n3,n4,n5,n6⟩:=HE.o.nv.cel q bz;have m0:=kD.o.cell n0 (by simp);have m1:=kD.o.cell n1 (by simp);have m2:=kD.o.cell n2 (by simp);have m3:=kD.o.cell n3 (by simp);have m4:=kD.o.cell n4 (by simp);have m5:=kD.o.cell n5 (by simp);have p0:=kC.o.base.2.2;rw[jM.o]at p0;have oG:Hd (∀(X:List UInt8) w,Pn w B p (.slice (some ⟨N,0,none⟩) ns.length c) X path->w0.grownBy w none->X.length+(vT ns ns.length q).length<=70368744177664->Calls prog 88 #[.pointer (some ⟨p,0,none⟩),.agg #[.int .i64 ns[q].kd,.string ⟨ns[q].ky.toArray⟩,.string ⟨ns[q].tx.toArray⟩,.int .i64 ns[q].nu,k6,.int .i64 (ns[q].pl:Nat)]] w fun e w'=>e=.returned (.tuple #[])/\Pn w' B p (.slice (some ⟨N,0,none⟩) ns.length c) (X++vT ns ns.length q) path/\PF B w w'):=fun X w h1 h2 h3=>CV.o X q bz k6 w h1 h2 n6 h3
   have uD:Hd (gz ns q=if ns[q].kd=0\/ns[q].kd=2 then[] else kt ns[q].ky++[32,61,32]++vT ns ns.length q++[10]):=by
    show _=_;unfold gz ag;rw[vW bz,List.getElem?_eq_getElem bz]
   have hky:=(HE.o.txt q bz).1;obtain⟨ok6,ck6,hk6,-⟩:=n6;subst hk6;obtain⟨nk,hnk⟩:∃z,ns[q].ks.length=z:=⟨_,rfl⟩;rw[hnk]at m4 oG;obtain⟨y,hy⟩:=zN (ns[q]);rw[hy]at m0 m1 m2 m3 m5 oG uD hky;obtain⟨VT,Dc⟩:∃V,vT ns ns.length q=V:=⟨_,rfl⟩;rw[Dc]at oG uD;obtain⟨PQ,Tz⟩:∃P,gz ns q=P:=⟨_,rfl⟩;rw[Tz]at iG hle uD;have hbx:=heap_alloc_new wr (.cells #[.int .i64 y.kd,.string ⟨y.ky.toArray⟩,.string ⟨y.tx.toArray⟩,.int .i64 y.nu,.slice ok6 nk ck6,.int .i64 (y.pl:Nat)] 90);have hgA:wr.grownBy (wr.alloc (.cells #[.int .i64 y.kd,.string ⟨y.ky.toArray⟩,.string ⟨y.tx.toArray⟩,.int .i64 y.nu,.slice ok6 nk ck6,.int .i64 (y.pl:Nat)] 90)) none:=World.grownBy_alloc _ _ none;clear hq hacc hX n0 n1 n2 n3 n4 n5 hnk hy Dc Tz;go_upto_region 4 with fail
   obtain⟨bx,nP⟩:∃b,wr.heap.size=b:=⟨_,rfl⟩;obtain⟨w2,hw2⟩:∃W,wr.alloc (.cells #[.int .i64 y.kd,.string ⟨y.ky.toArray⟩,.string ⟨y.tx.toArray⟩,.int .i64 y.nu,.slice ok6 nk ck6,.int .i64 (y.pl:Nat)] 90)=W:=⟨_,rfl⟩;rw[hw2]at hbx hgA ⊢;rw[nP]at hbx ⊢;have dJ:Hd (w2.heap[bx]?=some (.cells #[.int .i64 y.kd,.string ⟨y.ky.toArray⟩,.string ⟨y.tx.toArray⟩,.int .i64 y.nu,.slice ok6 nk ck6,.int .i64 (y.pl:Nat)] 90 (0,0))):=hbx;have HP2:Hd (Pn w2 B p (.slice (some ⟨N,0,none⟩) ns.length c) X path):=kC.o.gb hgA;have HF2:Hd (PF B w1 w2):=vZ.o.two (PF.gb hgA kC.o.pf);have HG2:Hd (w0.grownBy w2 none):=af kD.o hgA;have b0:w2.cell? ⟨bx,0,none⟩=some (.int .i64 y.kd):=by rw[ae hbx];rfl
   have b1:w2.cell? ⟨bx,1,none⟩=some (.string ⟨y.ky.toArray⟩):=by rw[ae hbx];rfl
   clear hgA hbx nP hw2 m0 m1 m2 m3 m4 m5 p0 g1c;obtain⟨KN,zW⟩:∃z,y.kd=z:=⟨_,rfl⟩;rw[zW]at b0 uD;have QG:Hd (y.kd=KN):=zW;clear zW
   by_cases hk0:KN=0\/KN=2
   ·rw[if_pos hk0]at uD;have oP:Hd (Pn w2 B p (.slice (some ⟨N,0,none⟩) ns.length c) (out++(SR.take (i+1)).flatMap (gz ns)) path):=by
     show Pn _ _ _ _ _ _;rw[iG.o,uD.o,List.append_nil,HX.o];exact HP2.o
    rcases hk0 with h0|h2
    ·have hb:(KN == 0)=true:=by simpa using h0
     clear h0;go_wp2;go_roundw
     case rel=>exact⟨i+1,by go_num,by omega,oP.o,HF2.o⟩
     case measure=>simp[intOf];omega
    ·have hb:(KN == 0)=false:=by rw[h2];rfl
     have hb2:(KN == 2)=true:=by simpa using h2
     clear h2;go_wp2;go_roundw
     case rel=>exact⟨i+1,by go_num,by omega,oP.o,HF2.o⟩
     case measure=>simp[intOf];omega
   ·rw[if_neg hk0]at uD;have hb:(KN == 0)=false:=by simp;omega
    have hb2:(KN == 2)=false:=by simp;omega
    clear hk0;have hPl:PQ.length=(kt y.ky).length+3+VT.length+1:=by rw[uD.o];simp;omega
    obtain⟨K,hK⟩:∃K:ByteArray,⟨y.ky.toArray⟩=K:=⟨_,rfl⟩;have CQ:Hd (Calls prog 87 #[.string K] w2.drew fun e w'=>e=.returned (.string ⟨(kt y.ky).toArray⟩)/\w2.drew.grownBy w' none):=by
     have:=Tc ⟨y.ky.toArray⟩ w2.drew (by show y.ky.toArray.size<=_;simpa using hky);rw[hK]at this;have e:K.data.toList=y.ky:=by rw[<-hK]
     rw[e]at this;exact this
    have lD:Hd (∀w3,w2.drew.grownBy w3 none->Calls prog 30 #[.pointer (some ⟨p,1,none⟩),.string ⟨(kt y.ky).toArray⟩] w3 fun e w4=>(∃k:Int,e=.returned (.tuple #[.int .i64 k,.nilIface]))/\Hd (Pn w4 B p (.slice (some ⟨N,0,none⟩) ns.length c) (X++kt y.ky) path/\PF B w1 w4/\w4.heap[bx]?=w2.heap[bx]?)/\w4.cell? ⟨bx,1,none⟩=some (.string K)):=fun w3 hg3=>by
     have g3:w2.grownBy w3 none:=af (show w2.grownBy w2.drew none from⟨rfl,rfl,rfl,Nat.le_refl _,fun _ _ _=>rfl⟩) hg3;refine(CW.o X (kt y.ky) w3 (HP2.o.gb g3) (fun e=>by have:=(GN y.ky).1;rw[e]at this;simp at this) (by omega)).mono ?_;rintro e w4 ⟨he,h1,h2⟩;have hb3:=(g3.block bx (aA dJ.o) (by simp)).trans dJ.o;have hb4:=(h2.oth _ _ _ _ hb3 (by decide) (by decide)).trans hb3;exact⟨he,⟨h1,(HF2.o.two (PF.gb g3 HP2.o.pf)).two h2,hb4.trans dJ.o.symm⟩,by rw[ae hb4,<-hK];rfl⟩
    obtain⟨QT,lW⟩:∃Q:ByteArray,⟨(kt y.ky).toArray⟩=Q:=⟨_,rfl⟩;rw[lW]at CQ lD;rw[hK]at b1;clear hK lW;go_wp2
    go_region_held3 (fun u=>u.cell? ⟨bx,1,none⟩=some (.string K)) ((first|assumption|exact World.grownBy.cell (by assumption) (by assumption) (by simp)|go_keep)) (first|(go_at_call 87;refine CQ.o.mono ?_;rintro e w6 ⟨rfl,bG⟩)|(go_at_call 30;refine(lD.o _ bG).mono ?_;rintro e w7 ⟨⟨k7,rfl⟩,hall,hcl⟩))
    obtain⟨zX,zY,hb7⟩:=hall.o;have fA:Hd (Pn w7 B p (.slice (some ⟨N,0,none⟩) ns.length c) (X++kt y.ky) path):=zX;have HF7:Hd (PF B w1 w7):=zY;have gJ:Hd (w7.heap[bx]?=some (.cells #[.int .i64 y.kd,.string ⟨y.ky.toArray⟩,.string ⟨y.tx.toArray⟩,.int .i64 y.nu,.slice ok6 nk ck6,.int .i64 (y.pl:Nat)] 90 (0,0))):=hb7.trans dJ.o;clear zX zY hb7 hall hcl b0 b1;go_wp2_with (go_at_call 30;refine(CW.o (X++kt y.ky) [32,61,32] _ fA.o (by simp) (by simp;omega)).mono ?_);rintro e w8 ⟨⟨k8,rfl⟩,hp8,hf8⟩;have HP8:Hd (Pn w8 B p (.slice (some ⟨N,0,none⟩) ns.length c) (X++kt y.ky++[32,61,32]) path):=hp8;have TA:Hd (PF B w1 w8):=HF7.o.two hf8;have zq:Hd (w0.grownBy w8 none):=lV.o _ _ iZ.o (iM.o.two TA.o).bel;have hb8:=(hf8.oth _ _ _ _ gJ.o (by decide) (by decide)).trans gJ.o;have d0:w8.cell? ⟨bx,0,none⟩=some (.int .i64 y.kd):=by rw[ae hb8];rfl
    have d1:w8.cell? ⟨bx,1,none⟩=some (.string ⟨y.ky.toArray⟩):=by rw[ae hb8];rfl
    have d2:w8.cell? ⟨bx,2,none⟩=some (.string ⟨y.tx.toArray⟩):=by rw[ae hb8];rfl
    have d3:w8.cell? ⟨bx,3,none⟩=some (.int .i64 y.nu):=by rw[ae hb8];rfl
    have d4:w8.cell? ⟨bx,4,none⟩=some (.slice ok6 nk ck6):=by rw[ae hb8];rfl
    have d5:w8.cell? ⟨bx,5,none⟩=some (.int .i64 (y.pl:Nat)):=by rw[ae hb8];rfl
    clear hp8 hf8 hb8;go_wp2_with (go_at_call 88;refine(oG.o (X++kt y.ky++[32,61,32]) _ HP8.o zq.o (by simp;omega)).mono ?_)
    first|rintro e w9 rfl KU KW|rintro e w9 ⟨rfl,KU,KW⟩
    have HP9:Hd (Pn w9 B p (.slice (some ⟨N,0,none⟩) ns.length c) (X++kt y.ky++[32,61,32]++VT) path):=KU;have HF9:Hd (PF B w1 w9):=TA.o.two KW;clear KU KW d0 d1 d2 d3 d4 d5;go_wp2_with (go_at_call 89;refine(CB.o (X++kt y.ky++[32,61,32]++VT) 10 _ HP9.o (by simp;omega)).mono ?_)
    first|rintro e wa rfl hpa hfa|rintro e wa ⟨rfl,hpa,hfa⟩
    have oP:Hd (Pn wa B p (.slice (some ⟨N,0,none⟩) ns.length c) (out++(SR.take (i+1)).flatMap (gz ns)) path):=by
     show Pn _ _ _ _ _ _;rw[iG.o,uD.o];have:=hpa;rw[<-HX.o]at this;simpa using this
    have iw:Hd (PF B w1 wa):=HF9.o.two hfa;clear hpa hfa;go_wp2;go_roundw
    case rel=>exact⟨i+1,by go_num,by omega,oP.o,iw.o⟩
    case measure=>simp[intOf];omega
  ·have hI:¬(i:Int)<(n:Int):=by omega
   have jb:Hd (Pn wr B p (.slice (some ⟨N,0,none⟩) ns.length c) (out++SR.flatMap (gz ns)) path):=by
    have:=kC.o;rw[List.take_of_length_le (by rw[HN.o];omega)]at this;exact this
   go_wp2;refine bodyPost_end (results_none rfl _ _ _) rfl ?_;exact⟨rfl,jb.o,Dh.o⟩
open Go.RowKit Go.Maps Go.WideMaps Go.Joins
def bu(path:List UInt8)(ab:Nat)(ky:List UInt8):List UInt8:=path.take ab++(if 0<ab then[46] else[])++kt ky
def iR(out path:List UInt8)(dbl:Bool):List UInt8:=(if out=[] then[] else[10])++(if dbl then[91,91] else[91])++path++(if dbl then[93,93,10] else[93,10])
theorem abN{P:Program}{w:World}{o:Oper}{a:Act}{K:Act->World->Prop}{Q:Exit->Act->World->Prop}(sl y:Operand)(t u:TypeId)
  (ho:o.op=.call { callee:=.builtin .append,args:=#[sl,y],argTypes:=#[t,u] })
  (base:Nat) (e:TypeId) (i:TypeInfo) (ht:P.underlying t=some (.slice e)) (hu:P.underlying u=some .string) (hi:P.info? e=some i) (hz:i.zero=some (.int .u8 0)) (hsize:i.size=1) (hby:i.bytes=1)
  (v:Value) (n:Nat) (xs:List Value) (hs:a.eval sl=v) (hown:w.ownsRow base e 1 v n xs) (s:ByteArray) (hy:a.eval y=.string s) (h63:n+s.size<=140737488355328) (hbase:base<=w.heap.size)
  (h:∀v' w',w'.ownsRow base e 1 v' (n+s.size) (xs++Lib.strCells s)->w.grownBy w' v.ownBlock->(v'.ownBlock=v.ownBlock\/v'.ownBlock=some w.heap.size)->K (a.put o.dst v') w'):Oper.wp P o a w K Q:=by
 obtain⟨v',w',hr,h2,h3,h4⟩:=Qz (P:=P) w base t u o.type e i ht hu hi hz hsize hby v n xs hown s h63 hbase;unfold Oper.wp execOp;simp only[ho,resolve,invoke,builtin,Sem.run_bind,Sem.run_pure,Result.andThen_ok,List.map_toArray,List.map_cons,List.map_nil,hs,hy,hr];exact h v' w' h2 h3 h4
theorem abO{P:Program}{w:World}{ops:Array Oper}{o:Oper}{a:Act}{K:Act->World->Prop}{Q:Exit->Act->World->Prop}{E:Prop}(hgd:o.guard=none)(sl y:Operand)(t u:TypeId)
  (ho:o.op=.call { callee:=.builtin .append,args:=#[sl,y],argTypes:=#[t,u] })
  (base:Nat) (e:TypeId) (i:TypeInfo) (ht:P.underlying t=some (.slice e)) (hu:P.underlying u=some .string) (hi:P.info? e=some i) (hz:i.zero=some (.int .u8 0)) (hsize:i.size=1) (hby:i.bytes=1)
  (v:Value) (n:Nat) (xs:List Value) (hs:a.eval sl=v) (hown:w.ownsRow base e 1 v n xs) (s:ByteArray) (hy:a.eval y=.string s) (h63:n+s.size<=140737488355328) (hbase:base<=w.heap.size)
  (h:∀v' w',w'.ownsRow base e 1 v' (n+s.size) (xs++Lib.strCells s)->w.grownBy w' v.ownBlock->(v'.ownBlock=v.ownBlock\/v'.ownBlock=some w.heap.size)->K (a.put o.dst v') w') :
  if Region.wanted o (yielded ops a.tmps)=true then Oper.wp P o a w K Q else E:=by
 have hw:Region.wanted o (yielded ops a.tmps)=true:=by simp[Region.wanted,hgd]
 rw[if_pos hw];exact abN sl y t u ho base e i ht hu hi hz hsize hby v n xs hs hown s hy h63 hbase h
theorem abP{w:World}{B:Nat}{e:TypeId}{o:Option Addr}{n c:Nat}{xs:List Value}(h:w.ownsRow B e 1 (.slice o n c) n xs)(a:Nat)(ha:a<=n):w.ownsRow B e 1 (.slice o a c) a (xs.take a):=by
 have hl:xs.length=n:=by simpa using h.1
 refine⟨by rw[List.length_take];omega,?_⟩
 rcases h.2 with⟨hv,hn⟩|⟨g,cap,cur,hv,h1,h2,h3,h4,h5,h6⟩
 ·injection hv with ho _ hc
  subst ho hc;have:a=0:=by omega
  subst this;exact Or.inl ⟨rfl,rfl⟩
 ·injection hv with ho _ hc
  subst ho hc;refine Or.inr ⟨g,c,cur,rfl,h1,h2,by omega,h4,h5,?_⟩;rw[<-h6,List.take_take];congr 1;omega
theorem abQ(x:List UInt8)(a:Nat):(Lib.byteCells x).take a=Lib.byteCells (x.take a):=by
 unfold Lib.byteCells;rw[List.map_take]
theorem Pn.path{w w1 w2:World}{B p:Nat}{NV ad bf pv v':Value}{out path path':List UInt8}(hB:B<=p)(h1:Pb w1 p NV ad bf pv)(had:ad=.pointer none\/ad=.pointer (some ⟨p,1,none⟩))(hbf:w1.ownsRow B 5 1 bf out.length (Lib.byteCells out))(hpv:w1.ownsRow B 5 1 pv path.length (Lib.byteCells path))(hap:∀g,bf.ownBlock=some g->pv.ownBlock≠some g)(hnil:out=[]->bf=.slice none 0 0)
  (hv:w2.ownsRow B 5 1 v' path'.length (Lib.byteCells path')) (hg:w1.grownBy w2 pv.ownBlock) (hat:v'.ownBlock=pv.ownBlock\/∃g,v'.ownBlock=some g/\w1.heap.size<=g) (hBw:B<=w1.heap.size) :
  w2.cell? ⟨p,3,none⟩=some pv/\w2.frozen? ⟨p,3,none⟩=false/\Pn (w2.setCell ⟨p,3,none⟩ v') B p NV out path'/\PF B w1 (w2.setCell ⟨p,3,none⟩ v'):=by
 have hp2:Pb w2 p NV ad bf pv:=(hg.block p (aA h1) (fun e=>by
  obtain⟨-,cc,hcc⟩:=dV hpv e.symm;exact aY h1 hcc (by decide) rfl)).trans h1
 obtain⟨-,-,-,c3,cf⟩:=hp2.cells;have GY:w2.ownsRow B 5 1 bf out.length (Lib.byteCells out):=bW hbf fun g cur hh hc=>hg.block g (aA hc) (fun e=>hap g hh e.symm)
 have hset:∀(b:Nat) (cs:Array Value) (t:TypeId) (fz:Nat × Nat),w2.heap[b]?=some (.cells cs t fz)->¬t=111->(w2.setCell ⟨p,3,none⟩ v').heap[b]?=w2.heap[b]?:=fun b cs t fz hb ht=>heap_setCell_other _ _ _ _ (aY hb hp2 ht)
 refine⟨c3,cf 3,⟨hB,ad,bf,v',hp2.setP v',had,bW GY fun g cur _ hc=>hset _ _ _ _ hc (by decide),bW hv fun g cur _ hc=>hset _ _ _ _ hc (by decide),?_,hnil⟩,?_⟩
 ·intro g hgb oC
  rcases hat with e|⟨g',e,hle⟩
  ·exact hap g hgb (e ▸ oC)
  ·rw[e]at oC
   cases oC
   obtain⟨-,cc,hcc⟩:=dV hbf hgb;have:=aA hcc;omega
 ·exact(PF.app hpv hg hBw).two (PF.row (jL w2 p 3 v') (Nat.le_trans hBw hg.size) hB hp2 (Or.inl rfl))
theorem abR{w w':World}(h:w.grownBy w' none)(r:Option Nat):w.grownBy w' r:=⟨h.os,h.tape,h.output,h.size,fun k hk _=>h.block k hk (by simp)⟩
theorem nR(w:World)(r:Option Nat):w.grownBy w.drew r:=⟨rfl,rfl,rfl,Nat.le_refl _,fun _ _ _=>rfl⟩
open Go.RowKit Go.Maps Go.WideMaps Go.Joins
theorem abS(B p:Nat)(NV:Value)(out path:List UInt8)(t:Nat)(ky:List UInt8)(dbl:Bool)(ab:Nat)(w:World)(hP:Pn w B p NV out path)(hab:ab<=path.length)(hky:ky.length<=1048576)(hsz:out.length+(iR out (bu path ab ky) dbl).length<=70368744177664) :
  Calls prog 53 #[.pointer (some ⟨p,0,none⟩),.agg #[.int .i64 (t:Nat),.string ⟨ky.toArray⟩,.bool dbl,.int .i64 (ab:Nat)]] w fun e w'=>e=.returned (.tuple #[])/\Pn w' B p NV (out++iR out (bu path ab ky) dbl) (bu path ab ky)/\PF B w w':=by
 have hbx:=heap_alloc_new w (.cells #[.int .i64 (t:Nat),.string ⟨ky.toArray⟩,.bool dbl,.int .i64 (ab:Nat)] 116);have hga:w.grownBy (w.alloc (.cells #[.int .i64 (t:Nat),.string ⟨ky.toArray⟩,.bool dbl,.int .i64 (ab:Nat)] 116)) none:=World.grownBy_alloc _ _ none;obtain⟨w1,hw1⟩:∃W,w.alloc (.cells #[.int .i64 (t:Nat),.string ⟨ky.toArray⟩,.bool dbl,.int .i64 (ab:Nat)] 116)=W:=⟨_,rfl⟩;obtain⟨bx,nP⟩:∃b,w.heap.size=b:=⟨_,rfl⟩;have iM:Hd (PF B w w1):=by rw[<-hw1];exact PF.gb hga hP.pf
 have hP1:Pn w1 B p NV out path:=by rw[<-hw1];exact hP.gb hga
 rw[hw1,nP]at hbx;have dJ:Hd (w1.heap[bx]?=some (.cells #[.int .i64 (t:Nat),.string ⟨ky.toArray⟩,.bool dbl,.int .i64 (ab:Nat)] 116 (0,0))):=hbx;have b3:w1.cell? ⟨bx,3,none⟩=some (.int .i64 (ab:Nat)):=by rw[ae hbx];rfl
 have TC:(bu path ab ky).length=ab+(if 0<ab then 1 else 0)+(kt ky).length:=by unfold bu;rw[List.length_append,List.length_append,List.length_take];split<;>simp<;>omega
 have abT:(bu path ab ky).length<=(iR out (bu path ab ky) dbl).length:=by unfold iR;simp only[List.length_append];omega
 obtain⟨i0,hi0,hii⟩:=Option.map_eq_some_iff.1 FQ;simp only[Prod.mk.injEq]at hii;obtain⟨hz0,hz1,hzb⟩:=hii;obtain⟨hB,ad,bf,pv,hp,had,hbf,hpv,hap,hnil⟩:=hP1;obtain⟨o,c,rfl⟩:=ku hpv;have hcap:ab<=c/\c<=maxLen:=by
  rcases hpv.2 with⟨hv,hn⟩|⟨g,cap,cur,hv,h1,h2,h3,h4,h5,h6⟩
  ·injection hv with _ _ hc
   unfold maxLen;omega
  ·injection hv with _ _ hc
   subst hc;exact⟨by omega,h4⟩
 obtain⟨hac,hcm⟩:=hcap;have hBw1:B<=w1.heap.size:=Nat.le_of_lt (Nat.lt_of_le_of_lt hB (aA hp));obtain⟨-,-,-,c3,cf⟩:=hp.cells;have cf3:=cf 3;have KX:Hd (∀w2,w1.grownBy w2 none->Pn (w2.setCell ⟨p,3,none⟩ (.slice o ab c)) B p NV out (path.take ab)/\PF B w1 (w2.setCell ⟨p,3,none⟩ (.slice o ab c))/\(w2.setCell ⟨p,3,none⟩ (.slice o ab c)).heap[bx]?=w1.heap[bx]?):=fun w2 hg=>by
  have hrow:=abP hpv ab hab;rw[abQ]at hrow;have hl:(path.take ab).length=ab:=by rw[List.length_take];omega
  have hrow2:w2.ownsRow B 5 1 (.slice o ab c) (path.take ab).length (Lib.byteCells (path.take ab)):=by
   rw[hl];exact bW hrow fun g cur _ hc=>hg.block g (aA hc) (by simp)
  obtain⟨-,-,h3,h4⟩:=Pn.path (w:=w) hB hp had hbf hpv hap hnil hrow2 (abR hg _) (Or.inl (by cases o<;>rfl)) hBw1;exact⟨h3,h4,h4.oth _ _ _ _ hbx (by decide) (by decide)⟩
 have ha0:(0:Int)<=(ab:Int):=by omega
 have ahe:(ab:Int)<=(c:Int):=by omega
 have hcI:(c:Int)<=(c:Int):=Int.le_refl _;have HAB:Hd (ab<=path.length):=hab;obtain⟨P3,hP3⟩:=zN (bu path ab ky);rw[hP3]at TC abT hsz ⊢;clear hP hga hp had hbf hpv hap hnil hbx;go_enter func53,ntmps53;go_upto_region 1 with fail
 try rw[hw1]
 try rw[nP]
 clear hw1 nP
 go_cut [] from 6 (fun wx=>Pn wx B p NV out (path.take ab)/\PF B w1 wx/\wx.heap[bx]?=w1.heap[bx]?)
 case first =>
  cases o with
  | none =>
   go_region
   all_goals (
    go_wp2_with fail;go_meet;exact KX.o _ (nR _ _))
  | some oa =>
   go_region
   all_goals (
    go_wp2_with fail;go_meet;exact KX.o _ (nR _ _))
 case rest =>
  obtain⟨hp2,hf2,hb2⟩:=hcut;have HF2:Hd (PF B w wc):=iM.o.two hf2;have HB2:Hd (wc.heap[bx]?=some (.cells #[.int .i64 (t:Nat),.string ⟨ky.toArray⟩,.bool dbl,.int .i64 (ab:Nat)] 116 (0,0))):=hb2.trans dJ.o;have HP2:Hd (Pn wc B p NV out (path.take ab)):=hp2;have hlA:(path.take ab).length=ab:=by rw[List.length_take];have:=HAB.o;omega
  obtain⟨A,hA⟩:=zN (path.take ab);have oP:Hd (P3=A++(if 0<ab then[46] else[])++kt ky):=by show _=_;rw[<-hP3];unfold bu;rw[hA]
  rw[hA]at HP2 hlA;clear hp2 hf2 hb2 b3 c3 cf cf3 KX iM dJ HAB hA;have b3:wc.cell? ⟨bx,3,none⟩=some (.int .i64 (ab:Nat)):=by rw[ae HB2.o];rfl
  have hBw:B<=wc.heap.size:=HP2.o.pf
  go_upto_if 18 with fail
  go_cut [] from 6 (fun wx=>Pn wx B p NV out (A++(if 0<ab then[46] else[]))/\PF B wc wx)
  case first =>
   by_cases h0:0<ab
   ·have KZ:(0:Int)<(ab:Int):=by omega
    obtain⟨-,ad2,bf2,pv2,hp2,TF,GY,hpv2,TG,hnil2⟩:=HP2.o;have d3:=hp2.cells.2.2.2.1;have hone:=QB 46;have La:wc.grownBy (wc.alloc (.cells #[.int .u8 46] 5)) none:=World.grownBy_alloc _ _ none;rw[hlA]at hpv2;go_wp2_with (first|(at_builtin;refine wpList_append_lies _ rfl _ _ 69 rfl B 5 i0 _ 1 1 underlying69 hi0 hz0 hz1 hzb rfl (by decide) _ _ _ rfl (hpv2.alloc _) _ 1 1 [.int .u8 46] rfl rfl (World.news_of_block (heap_alloc_new _ _)) hone (by decide) (by unfold maxLen;omega) (by omega) (by simp;omega) _ rfl ?_));intro g cap w2 hv2 hg2 hat hlt2;have Bf:w2.ownsRow B 5 1 (.slice (some ⟨g,0,none⟩) (ab+1) cap) (A++[46]).length (Lib.byteCells (A++[46])):=by
     rw[y7,List.length_append,hlA];exact hv2
    obtain⟨e3,ef,hn,hf⟩:=Pn.path (w:=w) hB ((La.block p (aA hp2) (by simp)).trans hp2) TF (GY.alloc _) (by rw[hlA];exact hpv2.alloc _) TG hnil2 Bf hg2 (hat.imp (fun e=>e.symm) fun e=>⟨g,rfl,Nat.le_of_eq (by rw[World.size_alloc];exact e.symm)⟩) (by simp;omega);have HN:Hd (Pn (w2.setCell ⟨p,3,none⟩ (.slice (some ⟨g,0,none⟩) (ab+1) cap)) B p NV out (A++[46])/\PF B wc (w2.setCell ⟨p,3,none⟩ (.slice (some ⟨g,0,none⟩) (ab+1) cap))):=⟨hn,(PF.gb La hBw).two hf⟩;clear hv2 Bf hg2 hat hn hf hlt2 hp2 TF GY hpv2 TG hnil2 La d3;go_wp2;go_meet;rw[if_pos h0];exact HN.o
   ·have KZ:¬(0:Int)<(ab:Int):=by omega
    go_wp2;go_meet;rw[if_neg h0,List.append_nil];exact⟨HP2.o,PF.refl _ _⟩
  case rest =>
   obtain⟨hp3,hf3⟩:=hcut;have HF3:Hd (PF B w wc):=HF2.o.two hf3;have HB3:Hd (wc.heap[bx]?=some (.cells #[.int .i64 (t:Nat),.string ⟨ky.toArray⟩,.bool dbl,.int .i64 (ab:Nat)] 116 (0,0))):=(hf3.oth _ _ _ _ HB2.o (by decide) (by decide)).trans HB2.o;obtain⟨A2,hA2⟩:=zN (A++(if 0<ab then[46] else[]));have GZ:=oP.o;rw[hA2]at GZ hp3;have hl3:P3.length=A2.length+(kt ky).length:=by rw[GZ,List.length_append]
   have TI:Hd (P3=A2++kt ky):=GZ;clear HF2 HB2 HP2 oP TC GZ hP3 hA2 hlA b3 hf3;have b1:wc.cell? ⟨bx,1,none⟩=some (.string ⟨ky.toArray⟩):=by rw[ae HB3.o];rfl
   have hBw3:B<=wc.heap.size:=hp3.pf;have pR:Hd (Pn wc B p NV out A2):=hp3;obtain⟨-,ad3,bf3,pv3,hp3,TJ,TK,sN,TL,hnil3⟩:=hp3;have d3:=hp3.cells.2.2.2.1;obtain⟨K,hK⟩:∃K:ByteArray,⟨ky.toArray⟩=K:=⟨_,rfl⟩;obtain⟨QT,lW⟩:∃Q:ByteArray,⟨(kt ky).toArray⟩=Q:=⟨_,rfl⟩;have Lc:QT.size=(kt ky).length:=by rw[<-lW];show(kt ky).toArray.size=_;simp
   have TM:Lib.strCells QT=Lib.byteCells (kt ky):=by rw[<-lW,QA]
   have CQ:Hd (Calls prog 87 #[.string K] wc.drew fun e w'=>e=.returned (.string QT)/\wc.drew.grownBy w' none):=by
    have:=Tc ⟨ky.toArray⟩ wc.drew (by show ky.toArray.size<=_;simpa using hky);rw[hK]at this;have e:K.data.toList=ky:=by rw[<-hK]
    rw[e,lW]at this;exact this
   have fG:Hd (∀w6,wc.drew.grownBy w6 none->w6.ownsRow B 5 1 pv3 A2.length (Lib.byteCells A2)/\B<=w6.heap.size/\w6.cell? ⟨p,3,none⟩=some pv3):=fun w6 hg=>by
    have hg':=af (nR wc none) hg;exact⟨bW sN fun g cur _ hc=>hg'.block g (aA hc) (by simp),Nat.le_trans hBw3 hg'.size,hg'.cell d3 (by simp)⟩
   have HK:Hd (∀w6 v' w7,wc.drew.grownBy w6 none->w7.ownsRow B 5 1 v' (A2.length+QT.size) (Lib.byteCells A2++Lib.strCells QT)->w6.grownBy w7 pv3.ownBlock->(v'.ownBlock=pv3.ownBlock\/v'.ownBlock=some w6.heap.size)->w7.cell? ⟨p,3,none⟩=some pv3/\w7.frozen? ⟨p,3,none⟩=false/\Hd (Pn (w7.setCell ⟨p,3,none⟩ v') B p NV out P3/\PF B wc (w7.setCell ⟨p,3,none⟩ v'))/\w7.cell? ⟨bx,1,none⟩=some (.string K)/\(w7.setCell ⟨p,3,none⟩ v').cell? ⟨bx,1,none⟩=some (.string K)):=fun w6 v' w7 hg hv fU hat=>by
    have hg':=af (nR wc none) hg;obtain⟨h1,h2,h3,h4⟩:=Pn.path (w:=w) (path:=A2) (path':=P3) hB ((hg'.block p (aA hp3) (by simp)).trans hp3) TJ (bW TK fun g cur _ hc=>hg'.block g (aA hc) (by simp)) (bW sN fun g cur _ hc=>hg'.block g (aA hc) (by simp)) TL hnil3 (by rw[hl3,<-Lc,TI.o,y7,<-TM];exact hv) fU (hat.imp id fun e=>⟨_,e,Nat.le_refl _⟩) (Nat.le_trans hBw3 hg'.size);have abU:=(((PF.gb hg' hBw3).two (PF.app (bW sN fun g cur _ hc=>hg'.block g (aA hc) (by simp)) fU (Nat.le_trans hBw3 hg'.size))).oth _ _ _ _ HB3.o (by decide) (by decide)).trans HB3.o;have zZ:=(((PF.gb hg' hBw3).two h4).oth _ _ _ _ HB3.o (by decide) (by decide)).trans HB3.o;exact⟨h1,h2,⟨h3,(PF.gb hg' hBw3).two h4⟩,by rw[ae abU,<-hK];rfl,by rw[ae zZ,<-hK];rfl⟩
   rw[hK]at b1;have hstr:A2.length+QT.size<=140737488355328:=by omega
   clear hK lW Lc TM hp3 TJ TK sN TL hnil3 hky;go_upto_region 4 with fail
   go_cut [] from 6 (fun wx=>Pn wx B p NV out P3/\PF B wc wx)
   case first =>
    go_region_law (first|(refine abO (by rfl) _ _ _ _ (by rfl) B 5 i0 underlying69 underlying9 hi0 hz0 hz1 hzb pv3 A2.length (Lib.byteCells A2) (by rfl) (fG.o _ bG).1 QT (by rfl) hstr (fG.o _ bG).2.1 ?_;intro v7 w7 hv7 fU hat7;obtain⟨k1,k2,k3,k4,k5⟩:=HK.o _ _ _ bG hv7 fU hat7;obtain⟨o7,c7,rfl⟩:=ku hv7)|(go_simp;go_at_call 87;refine CQ.o.mono ?_;rintro e w6 ⟨rfl,bG⟩;have q3:=(fG.o _ bG).2.2))
    all_goals (
     go_wp2_with fail;go_meet;exact k3.o)
   case rest =>
    obtain⟨wu,hf4⟩:=hcut;have TP:Hd (PF B w wc):=HF3.o.two hf4;have HB4:Hd (wc.heap[bx]?=some (.cells #[.int .i64 (t:Nat),.string ⟨ky.toArray⟩,.bool dbl,.int .i64 (ab:Nat)] 116 (0,0))):=(hf4.oth _ _ _ _ HB3.o (by decide) (by decide)).trans HB3.o;have nM:Hd (Pn wc B p NV out P3):=wu;clear wu hf4 HF3 HB3 pR HK fG CQ b1 d3 TI hstr hBw3;have CL:Hd (Calls prog 91 #[.pointer (some ⟨p,1,none⟩)] wc fun e w'=>e=.returned (.int .i64 (out.length:Nat))/\w'=wc):=aae B p NV out P3 wc nM.o;have CB:Hd (out.length+1<=70368744177664->Calls prog 89 #[.pointer (some ⟨p,1,none⟩),.int .u8 10] wc fun e w'=>e=.returned .nilIface/\Pn w' B p NV (out++[10]) P3/\PF B wc w'):=fun hl=>Js B p NV out P3 10 wc nM.o hl
    obtain⟨n0,hn0⟩:=zN (out.length);have hN0:n0=0↔out=[]:=by rw[<-hn0];exact List.length_eq_zero_iff
    have hsz2:out.length+(if out=[] then 0 else 1)+(if dbl then 2 else 1)+P3.length+(if dbl then 3 else 2)<=70368744177664:=by
     have e:(iR out P3 dbl).length=(if out=[] then 0 else 1)+(if dbl then 2 else 1)+P3.length+(if dbl then 3 else 2):=by
      unfold iR;simp only[List.length_append];congr 1
      ·congr 1;congr 1
       ·split<;>rfl
       ·split<;>rfl
      ·split<;>rfl
     omega
    rw[hn0]at CL;have HN0:Hd (out.length=n0):=hn0;clear hn0
    go_upto_if 43 with(first|(go_at_call 91;refine CL.o.mono ?_;rintro e w5 ⟨rfl,rfl⟩))
    go_cut [] from 6 (fun wx=>Pn wx B p NV (out++(if out=[] then[] else[10])) P3/\PF B w5 wx)
    case first =>
     by_cases h0:out=[]
     ·have KZ:¬(0:Int)<(n0:Int):=by have:=hN0.2 h0;omega
      go_wp2;go_meet;rw[if_pos h0,List.append_nil];exact⟨nM.o,PF.refl _ _⟩
     ·have KZ:(0:Int)<(n0:Int):=by have:=mt hN0.1 h0;omega
      rw[if_neg h0]at hsz2;go_wp2_with (go_at_call 89;refine(CB.o (by omega)).mono ?_)
      first|rintro e w5' rfl Aa hf5|rintro e w5' ⟨rfl,Aa,hf5⟩
      go_wp2;go_meet;rw[if_neg h0];exact⟨Aa,hf5⟩
    case rest =>
     obtain⟨Aa,hf5⟩:=hcut;have TQ:Hd (PF B w wc):=TP.o.two hf5;have hb5:=(hf5.oth _ _ _ _ HB4.o (by decide) (by decide)).trans HB4.o;have b2:wc.cell? ⟨bx,2,none⟩=some (.bool dbl):=by rw[ae hb5];rfl
     obtain⟨X,hX⟩:=zN (out++(if out=[] then[] else[10]));have BH:X.length=out.length+(if out=[] then 0 else 1):=by rw[<-hX,List.length_append];congr 1;split<;>rfl
     rw[hX]at Aa;have HX:Hd (out++(if out=[] then[] else[10])=X):=hX;have TR:Hd (Pn wc B p NV X P3):=Aa;have jb:Hd (P3≠[]):=by
      show _≠_;intro e;have h1:=(GN ky).1;rw[e]at hl3;simp only[List.length_nil]at hl3;omega
     have CW:Hd (∀(Y:List UInt8) w,Pn w B p NV X P3->Y≠[]->X.length+Y.length<=70368744177664->Calls prog 30 #[.pointer (some ⟨p,1,none⟩),.string ⟨Y.toArray⟩] w fun e w'=>(∃k:Int,e=.returned (.tuple #[.int .i64 k,.nilIface]))/\Pn w' B p NV (X++Y) P3/\PF B w w'):=fun Y w h h0 hl=>zk B p NV X P3 Y w h h0 hl
     rw[<-BH]at hsz2;clear Aa hf5 hb5 hX CL CB TP HB4 nM
     cases dbl with
     | true =>
      simp only[if_true]at hsz2;go_wp2_with (go_at_call 30;refine(CW.o [91,91] _ TR.o (by simp) (by simp;omega)).mono ?_);rintro e w6 ⟨⟨k6,rfl⟩,sU,ww⟩;obtain⟨pv6,e6,CP⟩:=QC B p NV (X++[91,91]) P3 w6.drew (sU.gb (nR w6 none)) jb.o (by simp;omega);have Le:Hd (Calls prog 92 #[.pointer (some ⟨p,1,none⟩),pv6] w6.drew fun e w'=>(∃k:Int,e=.returned (.tuple #[.int .i64 k,.nilIface]))/\Pn w' B p NV (X++[91,91]++P3) P3/\PF B w6.drew w'):=CP;have q6:w6.cell? ⟨p,3,none⟩=some pv6:=e6;have HF6:Hd (PF B w w6.drew):=(TQ.o.two ww).two (PF.gb (nR w6 none) sU.pf);clear sU ww CP e6;go_wp2
      go_region_law (go_simp;go_at_call 92;refine Le.o.mono ?_;rintro e w7 ⟨⟨k7,rfl⟩,zX,zY⟩)
      go_wp2_with (go_at_call 30;refine(zk B p NV (X++[91,91]++P3) P3 [93,93,10] _ zX (by simp) (by simp;omega)).mono ?_);rintro e w8 ⟨⟨k8,rfl⟩,hp8,hf8⟩;go_wp2;refine bodyPost_end (results_none rfl _ _ _) rfl ?_;refine⟨rfl,?_,(HF6.o.two zY).two hf8⟩;unfold iR;rw[<-HX.o]at hp8;simpa using hp8
     | false =>
      simp only[Bool.false_eq_true,if_false]at hsz2;go_wp2_with (go_at_call 30;refine(CW.o [91] _ TR.o (by simp) (by simp;omega)).mono ?_);rintro e w6 ⟨⟨k6,rfl⟩,sU,ww⟩;obtain⟨pv6,e6,CP⟩:=QC B p NV (X++[91]) P3 w6.drew (sU.gb (nR w6 none)) jb.o (by simp;omega);have Le:Hd (Calls prog 92 #[.pointer (some ⟨p,1,none⟩),pv6] w6.drew fun e w'=>(∃k:Int,e=.returned (.tuple #[.int .i64 k,.nilIface]))/\Pn w' B p NV (X++[91]++P3) P3/\PF B w6.drew w'):=CP;have q6:w6.cell? ⟨p,3,none⟩=some pv6:=e6;have HF6:Hd (PF B w w6.drew):=(TQ.o.two ww).two (PF.gb (nR w6 none) sU.pf);clear sU ww CP e6;go_wp2
      go_region_law (go_simp;go_at_call 92;refine Le.o.mono ?_;rintro e w7 ⟨⟨k7,rfl⟩,zX,zY⟩)
      go_wp2_with (go_at_call 30;refine(zk B p NV (X++[91]++P3) P3 [93,10] _ zX (by simp) (by simp;omega)).mono ?_);rintro e w8 ⟨⟨k8,rfl⟩,hp8,hf8⟩;go_wp2;refine bodyPost_end (results_none rfl _ _ _) rfl ?_;refine⟨rfl,?_,(HF6.o.two zY).two hf8⟩;unfold iR;rw[<-HX.o]at hp8;simpa using hp8
open Go.RowKit Go.Maps Go.WideMaps Go.Joins Go.Shelf
attribute [local go_sem] Oper.semAt_some
structure VF(B:Nat)(w w':World):Prop where
 bel:Below B w w'
 oth:∀(b:Nat) (cs:Array Value) (t:TypeId) (fz:Nat × Nat),w.heap[b]?=some (.cells cs t fz)->¬t=116->¬t=113->w'.heap[b]?=w.heap[b]?
theorem VF.two{B:Nat}{w w1 w2:World}(h:VF B w w1)(h':VF B w1 w2):VF B w w2 :=
 ⟨h.bel.trans h'.bel,fun b cs t fz hb h1 h2=>by
  have e1:=h.oth b cs t fz hb h1 h2;exact(h'.oth b cs t fz (e1.trans hb) h1 h2).trans e1⟩
theorem VF.refl(B:Nat)(w:World):VF B w w:=⟨Below.refl B w,fun _ _ _ _ _ _ _=>rfl⟩
theorem VF.gb{B:Nat}{w w':World}(hg:w.grownBy w' none)(hB:B<=w.heap.size):VF B w w' :=
 ⟨⟨hg.os,hg.tape,hg.output,hg.size,fun k hk=>hg.block k (by omega) (by simp)⟩,fun b cs t fz hb _ _=>hg.block b (aA hb) (by simp)⟩
theorem VF.row{B:Nat}{w w':World}{t:TypeId}{g:Nat}{cur:Array Value}{fz:Nat × Nat}(hg:w.grownBy w' (some g))(hB:B<=w.heap.size)(hgB:B<=g)(hb:w.heap[g]?=some (.cells cur t fz))(ht:t=116\/t=113):VF B w w' :=
 ⟨⟨hg.os,hg.tape,hg.output,hg.size,fun k hk=>hg.block k (by omega) (by simp;omega)⟩,fun b cs t' fz' hb' h1 h2=>hg.block b (aA hb') (by
  simp only[ne_eq,Option.some.injEq];refine aY hb' hb ?_
  rcases ht with rfl|rfl
  ·exact h1
  ·exact h2)⟩
theorem VF.obj{B:Nat}{w w':World}{row:Option Nat}(hg:w.grownBy w' row)(hB:B<=w.heap.size)(hr:∀r,row=some r->B<=r/\∃o:Obj,w.heap[r]?=some o/\o.isCells=false):VF B w w' :=
 ⟨⟨hg.os,hg.tape,hg.output,hg.size,fun k hk=>hg.block k (by omega) (fun e=>by have:=(hr k e.symm).1;omega)⟩,fun b cs t fz hb _ _=>hg.block b (aA hb) (fun e=>by
  obtain⟨o,ho,hc⟩:=(hr b e.symm).2;rw[hb]at ho
  cases ho
  cases hc)⟩
theorem TS{B:Nat}{w:World}(hn:B<=w.heap.size)(W:World)(l:Nat)(o o':Obj)(hl:w.heap.size<=l)(h:W.heap[l]?=some o)(ho:o.isCells=false)(_:o.isWalk=false):VF B W (W.putObj l o') :=
 VF.obj (grownBy_putObj' W l o') (by have:=(bz h);omega) (fun r e=>by cases e;exact⟨by omega,o,h,ho⟩)
theorem TT{β:Type}{B B':Nat}{w:World}(hB:B<=w.heap.size)(hB':B<=B'):OwnFrom B' (fun(_:β) W=>VF B w W) :=
 fun _ X Y row hs hg hr=>hs.two (VF.obj hg (Nat.le_trans hB hs.bel.size) (fun r e=>⟨by have:=(hr r e).1;omega,(hr r e).2⟩))
def KI(B:Nat)(w:World)(v:Value)(l:List Nat):Prop:=∃o c,v=.slice o l.length c/\∀i (hi:i<l.length),∃g,o=some ⟨g,0,none⟩/\w.cell? ⟨g,i,none⟩=some (.int .i64 (l[i]:Nat))/\(g<B\/∃cs fz,w.heap[g]?=some (.cells cs 3 fz))
theorem KI.vf{B:Nat}{w w':World}{v:Value}{l:List Nat}(h:KI B w v l)(hv:VF B w w'):KI B w' v l:=by
 obtain⟨o,c,h1,h2⟩:=h;refine⟨o,c,h1,fun i hi=>?_⟩;obtain⟨g,h3,h4,h5⟩:=h2 i hi;have hb:w'.heap[g]?=w.heap[g]?:=by
  rcases h5 with h5|⟨cs,fz,h5⟩
  ·exact hv.bel.block g h5
  ·exact hv.oth _ _ _ _ h5 (by decide) (by decide)
 refine⟨g,h3,(World.cell?_of_block (a:=⟨g,i,none⟩) hb).trans h4,?_⟩;rw[hb];exact h5
theorem KI.nu{w0 w:World}{v:Value}{l:List Nat}(h:NuS w0 v l)(hb:Below w0.heap.size w0 w):KI w0.heap.size w v l:=by
 obtain⟨o,c,h1,h2⟩:=h;refine⟨o,c,h1,fun i hi=>?_⟩;obtain⟨g,h3,h4⟩:=h2 i hi;have hlt:=block_lt_of_cell h4;exact⟨g,h3,(World.cell?_of_block (a:=⟨g,i,none⟩) (hb.block g hlt)).trans h4,Or.inl hlt⟩
theorem KI.own{B B':Nat}{w:World}{v:Value}{l:List Nat}(h:w.ownsRow B' 3 1 v l.length (l.map fun q=>.int .i64 (q:Nat))):KI B w v l:=by
 obtain⟨o,c,h1,h2⟩:=NuS.of h;refine⟨o,c,h1,fun i hi=>?_⟩;obtain⟨g,h3,h4⟩:=h2 i hi;refine⟨g,h3,h4,Or.inr ?_⟩;subst h1 h3;obtain⟨-,cur,hc⟩:=dV h (g:=g) rfl;exact⟨cur,(0,0),hc⟩
theorem abV{P:Program}{o:Oper}{a:Act}{w:World}{K:Act->World->Prop}{R:Act->World->Prop}{Q:Exit->Act->World->Prop}{l n:Nat}(hd:∀c,o.op≠.defer c)(h:o.wp P a w K (fun e a w=>e=.normal/\R a w)):o.wpIn (Fence.wide.inRound l) n P a w K Q:=by
 unfold Oper.wp at h;refine⟨fun _ _=>trivial,?_⟩;rw[show(Fence.wide.inRound l).round=some l from rfl,Oper.semAt_some l _ _ hd];generalize (execOp a.eval o).run P w=r at h
 cases r with
 | ok x w' =>
  cases x with
  | value v=>exact h
  | skip=>exact h
  | defer d=>exact h
  | enter f args =>
   refine⟨fun hh=>by simp[Fence.wide]at hh,CallsIn.inRound l (callsIn_wide.2 (Calls.mono h ?_))⟩;intro e w'' he
   cases e with
   | returned v=>exact he
   | panicked c=>exact absurd he.1 (by simp)
   | outgrown=>obtain⟨_,_,he,_⟩:=he;exact absurd he (by simp)
  | row row args =>
   refine⟨fun hh=>by simp[Fence.wide]at hh,fun c cs _=>?_⟩;obtain⟨v,w'',h1,h2⟩:=h c cs;exact⟨v,w'',h1,stepsIn_wide.2 h2⟩
  | _=>exact h.elim
 | halt x w' =>
  cases x with
  | panic v=>exact absurd h.1 (by simp)
  | _=>exact h.elim
theorem Di{P:Program}{md:Region.Mode}{ops:Array Oper}{R:Act->World->Prop}{Q:Exit->Act->World->Prop}{l n:Nat}(hd:∀(i:Nat) (o:Oper),ops[i]?=some o->∀c,o.op≠.defer c)(hQ:∀a w,R a w->Q .normal a w):∀(fuel:Nat) (listed:Array Bool) (a:Act) (w:World),wpAny P md ops (fun e a w=>e=.normal/\R a w) fuel listed a w->wpAnyIn (Fence.wide.inRound l) n P md ops Q fuel listed a w
 | 0,_,_,_,h=>⟨h.1,hQ _ _ h.2.2⟩
 | fuel+1,listed,a,w,h=>by
  refine⟨fun h0=>hQ _ _ (h.1 h0).2,fun i hi=>?_⟩;have hop:=h.2 i hi;unfold wpOp at hop;unfold wpOpIn
  cases ho:ops[i]? with
  | none =>
   rw[ho]at hop;exact Di hd hQ fuel _ _ _ hop
  | some o =>
   rw[ho]at hop;simp only[]at hop ⊢;split
   ·rename_i hw;rw[if_pos hw]at hop
    rcases hop with hop|⟨-,a',w',he,-⟩
    ·exact abV (R:=R) (hd i o ho) (Oper.wp_mono (fun a w h=>Di hd hQ fuel _ a w h) hop)
    ·exact absurd he (by simp)
   ·rename_i hw;rw[if_neg hw]at hop;exact⟨fun _ _=>trivial,Di hd hQ fuel _ _ _ hop⟩
theorem TU(o:Option Addr)(n c:Nat)(w:World):Calls prog 90 #[.slice o n c] w fun e w'=>e=.returned (.func (.func 135) #[] #[.pointer (some ⟨w.heap.size,0,none⟩)])/\w'=w.alloc (.cells #[.slice o n c] 88):=by
 go_enter func90,ntmps90;go_wp2;go_ret;exact⟨rfl,rfl⟩
abbrev fB(L:Nat):=Int × Fin L
def Dj{L:Nat}(x:fB L):Array Value:=#[.int .i64 x.1,.int .i64 (x.2.val:Nat)]
theorem abW(n l bm B L:Nat)(hn:1<=n)(v:Value)(ks:List Nat)(hL:ks.length<=1048576)(hks:∀q∈ks,q<L)(J Jx:List (fB L)->World->Prop)
  (hY:∀pre x W,J pre W->pre.length<ks.length->YieldAt Fence.wide (n-1) prog l (Dj x) W fun e W'=>(e=.returned (.bool true)/\J (pre++[x]) W'/\VF B W W')\/(e=.returned (.bool false)/\Jx (pre++[x]) W')) (W:World) (hbm:W.heap[bm]?=some (.cells #[v] 88 (0,0))) (hki:KI B W v ks) (h0:J [] W) :
  CallsIn Fence.wide n prog 135 #[.func (.yield l) #[] #[],.pointer (some ⟨bm,0,none⟩)] W fun e W'=>(∃v,e=.returned v)/\((∃xs,xs.map (fun x:fB L=>x.2.val)=ks.reverse/\J xs W')\/(∃pre,True/\Jx pre W')):=by
 refine callsIn_of_wp func135 rfl trivial ?_ rfl;simp only[ntmps135,List.size_toArray,List.length_cons,List.length_nil,Nat.reduceAdd,Nat.reduceSub,Array.replicate_succ,Array.replicate_zero,List.push_toArray,List.append_toArray,List.nil_append,List.cons_append];have yB:Hd (KI B W v ks):=hki;obtain⟨o,c,rfl,-⟩:=hki;obtain⟨m,hm⟩:=zN (ks.length);rw[hm]at yB hY hL hbm;have wB:Hd (W.heap[bm]?=some (.cells #[.slice o m c] 88 (0,0))):=hbm;have m0:W.cell? ⟨bm,0,none⟩=some (.slice o m c):=by rw[ae hbm];rfl
 have HM:Hd (ks.length=m):=hm;clear hbm hm
 gi_wp2
 clear m0
 gi_loopw [3] (fun vi wr=>∃(i:Nat) (xs:List (fB L)),vi=.int .i64 ((i:Int)-1)/\i<=m/\xs.map (fun x:fB L=>x.2.val)=(ks.drop i).reverse/\J xs wr/\VF B W wr) (fun vi _=>(intOf vi+1).toNat)
 case atStart=>exact⟨m,[],by go_num,Nat.le_refl _,by rw[List.drop_of_length_le (by rw[HM.o];exact Nat.le_refl _)];rfl,h0,VF.refl _ _⟩
 case round =>
  obtain⟨i,xs,rfl,hi,hxs,hJ,kE⟩:=hrel;have hbr:=(kE.oth _ _ _ _ wB.o (by decide) (by decide)).trans wB.o;have hkr:=yB.o.vf kE;have nS:Hd (VF B W wr):=kE;clear kE
  by_cases hlt:0<i
  ·obtain⟨j,rfl⟩:∃j,i=j+1:=⟨i-1,by omega⟩;have hjl:j<ks.length:=by rw[HM.o];omega
   obtain⟨o',c',hv,hat⟩:=hkr;injection hv with h1 hm2 h2
   clear hm2;subst h1 h2;obtain⟨g,ho,e0,-⟩:=hat j hjl;subst ho;obtain⟨q,hq⟩:=zN (ks[j]);have bz:q<L:=hks q (by rw[<-hq];exact List.getElem_mem hjl);have hxl:xs.length<m:=by
    have:=congrArg List.length hxs;rw[List.length_map,List.length_reverse,List.length_drop,HM.o]at this;omega
   rw[hq]at e0;obtain⟨fn,tmps,assign,body,hy,hR⟩:=hY xs ((j:Int),⟨q,bz⟩) wr hJ hxl;have vF:Hd ((xs++[((j:Int),(⟨q,bz⟩:Fin L))]).map (fun x:fB L=>x.2.val)=(ks.drop j).reverse):=by
    show _=_;rw[List.map_append,hxs,List.drop_eq_getElem_cons hjl,List.reverse_cons,hq];rfl
   have m1:wr.cell? ⟨bm,0,none⟩=some (.slice (some ⟨g,0,none⟩) m c):=by rw[ae hbr];rfl
   have hsub:((j+1:Nat):Int)-1=(j:Int):=by omega
   have hj0:(0:Int)<=(j:Int):=by omega
   have hjm:(j:Int)<(m:Int):=by omega
   unfold Dj at hy;dsimp only at hy;rw[hsub];clear hat hbr hq hxs hJ hxl
   gi_wp2
   refine hR.mono ?_;rintro e W3 (⟨rfl,hJ3,hk3⟩|⟨rfl,hJx3⟩)
   ·have kF:Hd (J (xs++[((j:Int),(⟨q,bz⟩:Fin L))]) W3/\VF B W W3):=⟨hJ3,nS.o.two hk3⟩;clear hJ3 hk3
    gi_wp2
    go_roundw
    case rel =>
     exact⟨j,xs++[((j:Int),(⟨q,bz⟩:Fin L))],by go_num,by omega,vF.o,kF.o.1,kF.o.2⟩
    case measure=>simp[intOf]
   ·have kF:Hd (Jx (xs++[((j:Int),(⟨q,bz⟩:Fin L))]) W3):=hJx3;clear hJx3
    gi_wp2
    refine bodyPost_ret (results_none rfl _ _ _) rfl ?_;exact⟨⟨_,rfl⟩,.inr ⟨_,trivial,kF.o⟩⟩
  ·have hi0:i=0:=by omega
   subst hi0;have kF:Hd (∃xs,xs.map (fun x:fB L=>x.2.val)=ks.reverse/\J xs wr):=⟨xs,by rw[hxs,List.drop_zero],hJ⟩;clear hxs hJ hkr hbr
   gi_wp2
   go_end0
   exact⟨⟨_,rfl⟩,.inl kF.o⟩
theorem TV(n bm B L:Nat)(hn:1<=n)(v:Value)(ks:List Nat)(hL:ks.length<=1048576)(hks:∀q∈ks,q<L)(w:World)(hbm:w.heap[bm]?=some (.cells #[v] 88 (0,0)))(hki:KI B w v ks)(hB:B<=w.heap.size) :
  SeqStopsK Fence.wide n prog 135 #[.pointer (some ⟨bm,0,none⟩)] (fun x:fB L=>Dj x) (VF B) (fun xs=>xs.map (fun x:fB L=>x.2.val)=ks.reverse) (fun _=>True) ks.length w:=fun l J Jx W hW _ _ hY h0=>by
 have kE:VF B w W:=⟨hW.mono hB,fun b cs t fz hb _ _=>hW.block b (aA hb)⟩;exact abW n l bm B L hn v ks hL hks J Jx hY W ((kE.oth _ _ _ _ hbm (by decide) (by decide)).trans hbm) (hki.vf kE) h0
open Go.RowKit Go.Maps Go.WideMaps Go.Joins Go.Shelf
structure Vt where
 t:Nat
 ky:List UInt8
 dbl:Bool
 ab:Nat
def vC(v:Vt):List Value:=[.int .i64 (v.t:Nat),.string ⟨v.ky.toArray⟩,.bool v.dbl,.int .i64 (v.ab:Nat)]
def bQ(l:List Vt):List Value:=l.flatMap vC
def vs1(ns:List Tn)(pl q:Nat):List Vt :=
 if ag ns q=0 then[⟨q,aW ns q,false,pl⟩] else if ag ns q=2 then(ax ns q).reverse.map fun m=>⟨m,aW ns q,true,pl⟩ else[]
def dm(ns:List Tn)(t pl:Nat):List Vt:=(dQ ns t).reverse.flatMap (vs1 ns pl)
theorem G5(l:List Vt):(bQ l).length=l.length*4:=by
 induction l with
 | nil=>rfl
 | cons a r ih =>
  unfold bQ at ih ⊢;rw[List.flatMap_cons,List.length_append,ih,List.length_cons];show 4+_=_;omega
theorem Lh(a b:List Vt):bQ (a++b)=bQ a++bQ b:=List.flatMap_append
theorem abX(ns:List Tn)(own:List Nat)(W:WF ns own)(pl q:Nat):(vs1 ns pl q).length<=ns.length+1:=by
 unfold vs1;split
 ·simp
 ·split
  ·have:=W.len q;simp;omega
  ·simp
theorem abY:(prog.info? 116).map (fun i=>(i.zero,i.size,i.bytes))=some (some (.agg #[.int .i64 0,.string ⟨#[]⟩,.bool false,.int .i64 0]),4,40):=by kernel_rfl
theorem TW(v:Vt):∀u∈vC v,u.oneCell'=true:=by
 intro u hu;simp only[vC,List.mem_cons,List.not_mem_nil,or_false]at hu
 rcases hu with rfl|rfl|rfl|rfl<;>rfl
theorem TZ{W w1:World}{B tb:Nat}{v v':Value}{td:List Vt}{x:Vt}{tmp:Obj}(hv:Boxed W tb 113 v)(hrow:W.ownsRow B 116 4 v td.length (bQ td))(hn:B<=W.heap.size)(hB:B<=tb)
  (hown:w1.ownsRow B 116 4 v' (td.length+1) (bQ td++vC x)) (hg:(W.alloc tmp).grownBy w1 v.ownBlock) :
  Boxed w1 tb 113 v/\Hd ((∃v',Boxed (w1.setCell ⟨tb,0,none⟩ v') tb 113 v'/\True)/\Boxed (w1.setCell ⟨tb,0,none⟩ v') tb 113 v'/\(w1.setCell ⟨tb,0,none⟩ v').ownsRow B 116 4 v' (td++[x]).length (bQ (td++[x]))/\KeepsOthers W (w1.setCell ⟨tb,0,none⟩ v')/\VF B W (w1.setCell ⟨tb,0,none⟩ v')/\VF B W w1):=by
 obtain⟨h1,h2,h3,h4,h5⟩:=hv.appended (by decide) hrow hn hB hown hg;have v1:VF B W (W.alloc tmp):=VF.gb (World.grownBy_alloc _ _ none) hn;have v2:VF B (W.alloc tmp) w1:=by
  have hn2:B<=(W.alloc tmp).heap.size:=Nat.le_trans hn v1.bel.size
  cases hb:v.ownBlock with
  | none=>rw[hb]at hg;exact VF.gb hg hn2
  | some g =>
   rw[hb]at hg;obtain⟨hq,cc,hcc⟩:=dV (hrow.alloc tmp) hb;exact VF.row hg hn2 hq hcc (Or.inl rfl)
 refine⟨h1,⟨_,h2,trivial⟩,h2,?_,h4,?_,v1.two v2⟩
 ·rw[List.length_append,Lh];have e:bQ [x]=vC x:=by simp[bQ]
  rw[e];exact h3
 ·exact(v1.two v2).two (VF.row (jL w1 tb 0 v') (Nat.le_trans hn (v1.two v2).bel.size) hB h1 (Or.inr rfl))
theorem Ua{α β:Type}(f:α->List β)(m:Nat)(h:∀x,(f x).length<=m):∀l:List α,(l.flatMap f).length<=l.length*m
 | []=>by simp
 | a :: r=>by
  rw[List.flatMap_cons,List.length_append,List.length_cons,Nat.add_mul,Nat.one_mul];have:=Ua f m h r;have:=h a;omega
end Go.Proofs.YtmkjelchiacogaaGreatDoor
