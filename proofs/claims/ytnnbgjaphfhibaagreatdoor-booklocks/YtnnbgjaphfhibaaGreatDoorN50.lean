import Derived.Test.YtnnbgjaphfhibaaGreatDoorN47
import Derived.Test.YtnnbgjaphfhibaaGreatDoorN48
import Derived.Test.YtnnbgjaphfhibaaGreatDoorN37
set_option linter.unusedVariables false
set_option linter.unusedSimpArgs false
set_option maxRecDepth 100000
set_option maxHeartbeats 6400000
open Go.Proofs.Tryz
namespace Go.Proofs.YtnnbgjaphfhibaaGreatDoor
open Go.RowKit Go.Maps Go.WideMaps Go.Joins
def Ef(ns:List Tn):Rs Dr->Rs (List En)
 | .error e=>.error e
 | .ok d=>if(mZ ns d).1=0 then .ok d.es else .error (mZ ns d)
theorem aft(ns:List Tn):sH ns=Ef ns (iJ ns ns.length (keepD jP (ae ns 0) .root)):=by
 unfold sH Ef;rfl
def tu(B:Nat)(w0:World)(r:Rs (List En))(e:Ending)(w':World):Prop :=
 (∀es,r=.ok es->∃ve xs vs,e=.returned (.tuple #[ve,.int .i64 0,.int .i64 0])/\EnB B w' es ve xs vs)/\(∀c,r=.error c->e=.returned (.tuple #[.slice none 0 0,.int .i64 c.1,.int .i64 (c.2:Nat)])/\¬c.1=0)/\w0.grownBy w' none
theorem afu{B:Nat}{w0 w':World}{es:List En}{ve:Value}{xs:List Value}{vs:Nat->Value}(h:EnB B w' es ve xs vs)(hg:w0.grownBy w' none):tu B w0 (.ok es) (.returned (.tuple #[ve,.int .i64 0,.int .i64 0])) w' :=
 ⟨fun es' e=>(by cases e;exact⟨ve,xs,vs,rfl,h⟩),fun c e=>(by cases e),hg⟩
theorem OM{B:Nat}{w0 w':World}{z:Int}{p:Nat}(hz:¬z=0)(hg:w0.grownBy w' none):tu B w0 (.error (z,p)) (.returned (.tuple #[.slice none 0 0,.int .i64 z,.int .i64 (p:Nat)])) w' :=
 ⟨fun es' e=>(by cases e),fun c e=>(by cases e;exact⟨rfl,hz⟩),hg⟩
theorem afv{w0:World}{T D Lb:Nat}{nv:Value}{kv:Nat->Value}{ns:List Tn}{r:Rs Dr}{e:Ending}{w':World}(h:Iw w0 T D Lb nv kv ns r e w'):∃(z:Int) (p:Nat),e=.returned (.tuple #[.int .i64 z,.int .i64 (p:Nat)])/\(∀c,r=.error c->z=c.1/\p=c.2/\¬c.1=0/\w0.grownBy w' none)/\(∀d',r=.ok d'->z=0/\(DrI d'/\DrN d'/\d'.wt.length<=1000000/\∀q∈d'.tb,q<ns.length)/\∃vt ve vw xs vs,Dm w0 T D Lb nv kv ns d' w' vt ve vw xs vs):=by
 match r,h with
 | .error c,h=>exact⟨c.1,c.2,(h.2 c rfl).1,fun c' e=>(by cases e;exact⟨rfl,rfl,(h.2 _ rfl).2⟩),fun d e=>(by cases e)⟩
 | .ok d,h=>exact⟨0,0,(h.1 d rfl).1,fun c' e=>(by cases e),fun d' e=>(by cases e;exact⟨rfl,(h.1 _ rfl).2⟩)⟩
theorem afw{w0 w:World}{T D Lb:Nat}{nv:Value}{kv:Nat->Value}{ns:List Tn}(hg:w0.grownBy w none)(hT:w.heap[T]?=some (.cells #[nv,.slice (some ⟨Lb,0,none⟩) ns.length ns.length] 106 (0,0)))(hD:w.heap[D]?=some (.cells #[.pointer (some ⟨T,0,none⟩),.bool false,.slice none 0 0,.slice none 0 0,.slice none 0 0] 62 (0,0)))(hL:w.heap[Lb]?=some (.cells (Array.replicate ns.length .nilFunc) 67 (0,0)))(hB:Vz w D T)(bD:w0.heap.size<=D)(bL:w0.heap.size<=Lb):Dm w0 T D Lb nv kv ns jP w (.slice none 0 0) (.slice none 0 0) (.slice none 0 0) [] (fun _=>.slice none 0 0) :=
 ⟨hg,hT,hD,⟨_,hL,by simp,fun q hq=>by simp[jP,LkV],hB⟩,⟨rfl,Or.inl ⟨rfl,rfl⟩⟩,⟨⟨rfl,Or.inl ⟨rfl,rfl⟩⟩,fun i hi=>absurd hi (by simp[jP]),fun i hi=>absurd hi (by simp[jP]),fun i j g hi=>absurd hi (by simp[jP])⟩,⟨rfl,Or.inl ⟨rfl,rfl⟩⟩,bD,bL⟩
theorem afx(N c T Lb:Nat)(kv:Nat->Value)(ns:List Tn)(w0 w:World)(H:Nd w0 N c kv ns)(hc:ns.length<=c)(hg:w0.grownBy w none)(hT:w.heap[T]?=some (.cells #[.slice (some ⟨N,0,none⟩) ns.length c,.slice (some ⟨Lb,0,none⟩) ns.length ns.length] 106 (0,0)))(hL:w.heap[Lb]?=some (.cells (Array.replicate ns.length .nilFunc) 67 (0,0)))(bL:w0.heap.size<=Lb) :
  Calls prog 11 #[.pointer (some ⟨T,0,none⟩)] w (tu w0.heap.size w0 (sH ns)):=by
 obtain⟨B,hB⟩:=zN (w.heap.size);obtain⟨W,hW⟩:=zN (((w.alloc (.cells #[.pointer (some ⟨T,0,none⟩)] 57)).alloc (.cells #[.pointer (some ⟨T,0,none⟩),.bool false,.slice none 0 0,.slice none 0 0,.slice none 0 0] 62)).alloc (.cells #[.pointer (some ⟨B+1,0,none⟩)] 59));have pW:w.grownBy W none:=hW ▸ dn (dn (dn (ak w none) _) _) _;have h1:W.heap[B]?=some (.cells #[.pointer (some ⟨T,0,none⟩)] 57 (0,0)):=by
  rw[<-hW,<-hB,Lib.alloc_old _ _ _ (by simp;omega),Lib.alloc_old _ _ _ (by simp)];exact heap_alloc_new _ _
 have h2:W.heap[B+1]?=some (.cells #[.pointer (some ⟨T,0,none⟩),.bool false,.slice none 0 0,.slice none 0 0,.slice none 0 0] 62 (0,0)):=by
  rw[<-hW,<-hB,Lib.alloc_old _ _ _ (by simp)];have:=heap_alloc_new (w.alloc (.cells #[.pointer (some ⟨T,0,none⟩)] 57)) (.cells #[.pointer (some ⟨T,0,none⟩),.bool false,.slice none 0 0,.slice none 0 0,.slice none 0 0] 62)
  rwa [World.size_alloc]at this
 have h3:W.heap[B+2]?=some (.cells #[.pointer (some ⟨B+1,0,none⟩)] 59 (0,0)):=by
  rw[<-hW,<-hB];have:=heap_alloc_new ((w.alloc (.cells #[.pointer (some ⟨T,0,none⟩)] 57)).alloc (.cells #[.pointer (some ⟨T,0,none⟩),.bool false,.slice none 0 0,.slice none 0 0,.slice none 0 0] 62)) (.cells #[.pointer (some ⟨w.heap.size+1,0,none⟩)] 59)
  rwa [World.size_alloc,World.size_alloc]at this
 have hd:Dm w0 T (B+1) Lb (.slice (some ⟨N,0,none⟩) ns.length c) kv ns jP W (.slice none 0 0) (.slice none 0 0) (.slice none 0 0) [] (fun _=>.slice none 0 0):=afw (ai hg pW) ((aX pW).blk hT) h2 ((aX pW).blk hL) ⟨h3,h1⟩ (by have:=hg.size;omega) bL;have HD:Hd (Dm w0 T (B+1) Lb (.slice (some ⟨N,0,none⟩) ns.length c) kv ns jP W (.slice none 0 0) (.slice none 0 0) (.slice none 0 0) [] (fun _=>.slice none 0 0)):=hd;have BK:Hd (W.heap[B]?=some (.cells #[.pointer (some ⟨T,0,none⟩)] 57 (0,0))/\W.heap[B+2]?=some (.cells #[.pointer (some ⟨B+1,0,none⟩)] 59 (0,0))):=⟨h1,h3⟩;have HH:Hd (Nd w0 N c kv ns/\ns.length<=c):=⟨H,hc⟩;obtain⟨x,hx⟩:=zN (ns[0]'H.pos);have hks:ae ns 0=x.ks:=by unfold ae;rw[List.getElem?_eq_getElem H.pos,hx]
 obtain⟨o4,m4,hk4,-⟩:=H.kid 0 H.pos;rw[hx]at hk4;have HX:Hd (ns[0]'H.pos=x/\kv 0=.slice o4 x.ks.length m4):=⟨hx,hk4⟩;obtain⟨RC,OO⟩:=zN (iJ ns ns.length (keepD jP x.ks .root));obtain⟨R,hR⟩:=zN (sH ns);have HR:Hd (R=Ef ns RC):=by
  show _=_;rw[<-hR,<-OO,<-hks,aft]
 rw[hR];have c1:W.cell? ⟨B,0,none⟩=some (.pointer (some ⟨T,0,none⟩)):=by rw[af h1];rfl
 have iw:Hd (W.grownBy W.drew none):=au (ak W none) 1;have CR:Hd (Calls prog 23 #[.pointer (some ⟨T,0,none⟩)] W.drew fun e w'=>e=.returned (.agg (dK x (.slice o4 x.ks.length m4)))/\W.drew.grownBy w' none/\w'.cell? ⟨B,0,none⟩=some (.pointer (some ⟨T,0,none⟩))):=by
  have:=ad6 N c (hd.grow iw.o) H;rw[hx,hk4]at this;exact this.mono fun e w' hh=>⟨hh.1,hh.2,(ai iw.o hh.2).cell c1 (by simp)⟩
 have CK:Hd (∀w2,W.drew.grownBy w2 none->Calls prog 22 #[.pointer (some ⟨T,0,none⟩),.agg (dK x (.slice o4 x.ks.length m4)),.func (.func 24) #[] #[.pointer (some ⟨B+2,0,none⟩),.pointer (some ⟨B,0,none⟩)]] w2 fun e w3=>e=.returned (.tuple #[])/\Hd (Dm w0 T (B+1) Lb (.slice (some ⟨N,0,none⟩) ns.length c) kv ns (keepD jP x.ks .root) w3 (.slice none 0 0) (.slice none 0 0) (.slice none 0 0) [] (fun _=>.slice none 0 0)/\w3.heap[B]?=some (.cells #[.pointer (some ⟨T,0,none⟩)] 57 (0,0))/\w3.heap[B+2]?=some (.cells #[.pointer (some ⟨B+1,0,none⟩)] 59 (0,0)))/\w3.cell? ⟨B,0,none⟩=some (.pointer (some ⟨T,0,none⟩))):=fun w2 hg2=>by
  have hgW:=ai iw.o hg2;have:=keep_any (hd.grow hgW) x (.slice o4 x.ks.length m4) (by have:=H.kid 0 H.pos;rw[hx,hk4]at this;exact this) (by have:=H.rng 0 H.pos;rw[hx]at this;exact this) (by have:=H.num 0 H.pos;rw[hx]at this;exact this) 24 #[.pointer (some ⟨B+2,0,none⟩),.pointer (some ⟨B,0,none⟩)] .root ⟨B+2,B,rfl,(aX hgW).blk h3,(aX hgW).blk h1⟩;refine this.mono fun e w3 ⟨a1,a2,a3⟩=>?_
  have y1:=(a3 _ (by decide)).blk ((aX hgW).blk h1);have y3:=(a3 _ (by decide)).blk ((aX hgW).blk h3);exact⟨a1,⟨a2,y1,y3⟩,by rw[af y1];rfl⟩
 unfold dK at CR CK;have HW:Hd (((w.alloc (.cells #[.pointer (some ⟨T,0,none⟩)] 57)).alloc (.cells #[.pointer (some ⟨T,0,none⟩),.bool false,.slice none 0 0,.slice none 0 0,.slice none 0 0] 62)).alloc (.cells #[.pointer (some ⟨B+1,0,none⟩)] 59)=W/\w.heap.size=B):=⟨hW,hB⟩;have CC:Hd (∀w3,Hd (Dm w0 T (B+1) Lb (.slice (some ⟨N,0,none⟩) ns.length c) kv ns (keepD jP x.ks .root) w3 (.slice none 0 0) (.slice none 0 0) (.slice none 0 0) [] (fun _=>.slice none 0 0)/\w3.heap[B]?=some (.cells #[.pointer (some ⟨T,0,none⟩)] 57 (0,0))/\w3.heap[B+2]?=some (.cells #[.pointer (some ⟨B+1,0,none⟩)] 59 (0,0)))->Calls prog 27 #[.pointer (some ⟨T,0,none⟩)] w3 fun e w4=>∃(z:Int) (p:Nat),e=.returned (.tuple #[.int .i64 z,.int .i64 (p:Nat)])/\Hd ((∀c,RC=.error c->z=c.1/\p=c.2/\¬c.1=0/\w0.grownBy w4 none)/\(∀d',RC=.ok d'->z=0/\(DrI d'/\DrN d'/\d'.wt.length<=1000000/\∀q∈d'.tb,q<ns.length)/\∃vt ve vw xs vs,Dm w0 T (B+1) Lb (.slice (some ⟨N,0,none⟩) ns.length c) kv ns d' w4 vt ve vw xs vs))):=fun w3 hh=>(check_any N c hh.o.1 H (acY _) ⟨fun y hy=>(by cases hy),fun y hy=>(by cases hy)⟩ rfl rfl hc).mono fun e w4 h4=>by rw[OO]at h4;exact afv h4
 clear hW pW h1 h2 h3 hd hx hks hk4 hR OO HX H hc hg hT hL bL;go_enter func11,ntmps11;go_upto_region 2 with fail
 try rw[HW.o.1]
 try rw[HW.o.2]
 go_region_held3 (fun u=>u.cell? ⟨B,0,none⟩=some (.pointer (some ⟨T,0,none⟩))) ((first|assumption|exact iw.o.cell (by assumption) (by simp)|go_keep)) (first|(go_at_call 23;refine CR.o.mono ?_;rintro e2 w2 ⟨rfl,hg2,afy⟩)|(go_at_call 22;refine(CK.o _ (by assumption)).mono ?_;rintro e3 w3 ⟨rfl,hall,hcl⟩))
 all_goals
  clear CR CK HD BK c1 afy hcl hg2;have hcB:w3.cell? ⟨B,0,none⟩=some (.pointer (some ⟨T,0,none⟩)):=by rw[af hall.o.2.1];rfl
  go_wp2_with (go_at_call 27;refine(CC.o _ hall).mono ?_);rintro e4 w4 ⟨z4,p4,rfl,h4⟩
  rcases RC with c0|dR
  ·obtain⟨rfl,rfl,hz,hg4⟩:=h4.o.1 c0 rfl;obtain⟨z4,p4⟩:=c0;have HY:Hd (R=.error (z4,p4)):=HR.o;have HZ:Hd (¬z4=0/\w0.grownBy w4 none):=⟨hz,hg4⟩;have hzb:(z4 != 0)=true:=by simpa using hz
   clear hcB hall CC h4 hz hg4 HR;go_wp2;refine bodyPost_ret (results_tmp3 (t:=2) (u:=3) (v:=4) rfl _ _ _) rfl ?_;rw[HY.o];exact OM HZ.o.1 HZ.o.2
  ·obtain⟨rfl,⟨hI,hM,hwt,htb⟩,vt,ve,vw,xs,vs,hd4⟩:=h4.o.2 dR rfl;obtain⟨Z,Y,OQ⟩:∃Z Y,mZ ns dR=(Z,Y):=⟨_,_,rfl⟩;have IG:Hd (R=if Z=0 then .ok dR.es else .error (Z,Y)):=by
    have h1:R=Ef ns (.ok dR):=HR.o;unfold Ef at h1;simp only[OQ]at h1;exact h1
   have CL:Hd (Calls prog 28 #[.pointer (some ⟨B+1,0,none⟩)] w4 fun e w5=>e=.returned (.tuple #[.int .i64 Z,.int .i64 (Y:Nat)])/\Hd (w4.grownBy w5 none)):=(afc hd4 HH.o.1 hI hM hwt htb).mono fun e w5 hh=>by rw[OQ]at hh;exact hh
   have HD4:Hd (Dm w0 T (B+1) Lb (.slice (some ⟨N,0,none⟩) ns.length c) kv ns dR w4 vt ve vw xs vs):=hd4;obtain⟨cs,-,-,-,hbt⟩:=hd4.lok;have WO:w4.cell? ⟨B+1+1,0,none⟩=some (.pointer (some ⟨B+1,0,none⟩)):=by rw[af hbt.1];rfl
   clear hcB hall CC h4 hI hM hwt htb hd4 hbt HR OQ;go_wp2_with (go_at_call 28;refine CL.o.mono ?_);rintro e5 w5 ⟨rfl,h5⟩;have HD5:=HD4.o.grow h5.o;have afX:=h5.o.cell WO (by simp);obtain⟨-,-,-,-,-,d3,-,-⟩:=HD5.cells;have OT:Hd (Dm w0 T (B+1) Lb (.slice (some ⟨N,0,none⟩) ns.length c) kv ns dR w5 vt ve vw xs vs):=HD5;clear WO HD4 CL HD5
   by_cases hZ:Z=0
   ·have HY:Hd (R=.ok dR.es):=by show _=_;rw[IG.o,if_pos hZ]
    subst hZ;clear IG;go_wp2;refine bodyPost_ret (results_tmp3 (t:=2) (u:=3) (v:=4) rfl _ _ _) rfl ?_;rw[HY.o];exact afu OT.o.ent OT.o.gb
   ·have HY:Hd (R=.error (Z,Y)):=by show _=_;rw[IG.o,if_neg hZ]
    have hzb:(Z != 0)=true:=by simpa using hZ
    clear IG;go_wp2;refine bodyPost_ret (results_tmp3 (t:=2) (u:=3) (v:=4) rfl _ _ _) rfl ?_;rw[HY.o];exact OM hZ OT.o.gb
open Go.RowKit Go.Maps Go.WideMaps Go.Joins
theorem afA{w:World}{B T:Nat}{ns:List Tn}{now N c M:Nat}{xs:List Value}{ks:Nat->Value}{n:Nat}{f:Nat->List UInt8->Option (Nat × Bool)}(h:TrD w B T ns now N c M xs ks n f)(l:List UInt8)(hl:jy l=.ok ns):Nd w N c ks ns/\ns.length<=c:=by
 obtain⟨tv,own,wf,hn⟩:=Hz l ns hl;have kAt:∀i (hi:i<ns.length),ae ns i=ns[i].ks:=fun i hi=>by unfold ae;rw[List.getElem?_eq_getElem hi]
 refine⟨⟨fun i hi=>?_,fun i hi=>NuS.of (h.kid i hi),fun i hi q hq=>tv.lt i q (by rw[kAt i hi];exact hq),fun i hi=>U5 hl i hi,by omega,tv.root.1,fun i hi=>by have:=(tv.txt _ (List.getElem_mem hi)).2.1;omega⟩,?_⟩
 ·obtain⟨h0,h1,h2,h3,h4,h5,-⟩:=h.node i hi;exact⟨h0,h1,h2,h3,h4,h5⟩
 ·rcases h.row.2 with⟨e1,_⟩|⟨g,cap,cu,e1,hb,hgg,hn',hm,hs,ht⟩
  ·cases e1
  ·cases e1;exact hn'
theorem egM:∀args w,(callFunc 11 args).run prog w=.ok (.enter 11 args) w:=enters_of func11 (by kernel_rfl) rfl
noncomputable def qh(l:List UInt8):Rs (List En):=match jy l with | .error e=>.error e | .ok ns=>sH ns
theorem afB(s:ByteArray)(E:Int->TypeId × Value)(b:Int->Addr)(w:World)(G:Gl w w.heap.size E)(S:Sn w E b)(hmx:s.size<2 ^ 62) :
  Calls prog 10 #[.string s,.func (.func 11) #[] #[]] w (tu w.heap.size w (qh s.data.toList)):=by
 have C0:=adS s E b w G S hmx;obtain⟨R,hR⟩:=zN (qh s.data.toList);rw[hR];unfold qh at hR
 cases hns:jy s.data.toList with
 | error c0 =>
  obtain⟨z,p⟩:=c0;have hz:¬z=0:=by have:=NC _ _ _ hns;omega
  have HY:Hd (R=.error (z,p)):=by show _=_;rw[<-hR,hns]
  have HZ:Hd (¬z=0):=hz;have hzb:(z != 0)=true:=by simpa using hz
  have CP:Hd (Calls prog 20 #[.string s] w fun e w2=>e=.returned (.tuple #[.slice none 0 0,.int .i64 z,.int .i64 (p:Nat)])/\Hd (w.grownBy w2 none)):=C0.mono fun e w2 hh=>⟨hh.2.1 z p hns,hh.2.2⟩
  clear G S hns C0 hR hz;go_enter func10,ntmps10;go_wp2_with (go_at_call 20;refine CP.o.mono ?_);rintro e w2 ⟨rfl,hP⟩;go_wp2;refine bodyPost_ret (results_tmp3 (t:=4) (u:=5) (v:=6) rfl _ _ _) rfl ?_;rw[HY.o];exact OM HZ.o hP.o
 | ok ns =>
  have HES:Hd (sH ns=R):=by show _=_;rw[<-hR,hns]
  have CP:Hd (Calls prog 20 #[.string s] w fun e w2=>∃N c,e=.returned (.tuple #[.slice (some ⟨N,0,none⟩) ns.length c,.int .i64 0,.int .i64 0])/\Hd (w.grownBy w2 none/\ns.length<=1000000/\ns.length<=c/\∃kv,Nd w2 N c kv ns)):=C0.mono fun e w2 hh=>by
   obtain⟨N,c,M,T,xs,ks,now,n,f,he,hD⟩:=hh.1 ns hns;have:=afA hD _ hns;exact⟨N,c,he,hh.2.2,this.1.len,this.2,ks,this.1⟩
  clear G S hns C0 hR;go_enter func10,ntmps10;go_wp2_with (go_at_call 20;refine CP.o.mono ?_);rintro e w2 ⟨N,c,rfl,hP⟩;have CN:Hd (Calls prog 21 #[.slice (some ⟨N,0,none⟩) ns.length c] w2 fun e w3=>e=.returned (.pointer (some ⟨w2.heap.size+1,0,none⟩))/\Hd (w3=(w2.alloc (.cells (Array.replicate ns.length .nilFunc) 67)).alloc (.cells #[.slice (some ⟨N,0,none⟩) ns.length c,.slice (some ⟨w2.heap.size,0,none⟩) ns.length ns.length] 106))):=ad1 N c ns.length w2 (by have:=hP.o.2.1;omega);obtain⟨T,hT⟩:=zN (w2.heap.size+1);have CM:Hd (∀w3,Hd (w3=(w2.alloc (.cells (Array.replicate ns.length .nilFunc) 67)).alloc (.cells #[.slice (some ⟨N,0,none⟩) ns.length c,.slice (some ⟨w2.heap.size,0,none⟩) ns.length ns.length] 106))->Calls prog 11 #[.pointer (some ⟨T,0,none⟩)] w3 fun e w4=>∃(v:Value) (z p:Int),e=.returned (.tuple #[v,.int .i64 z,.int .i64 p])/\Hd (tu w.heap.size w R e w4/\(z=0->p=0)/\(¬z=0->v=.slice none 0 0))):=fun w3 hw3=>by
   obtain⟨hg,hl,hc,kv,H⟩:=hP.o;have h3:w3=_:=hw3;have hg3:w2.grownBy w3 none:=by rw[h3];exact dn (dn (ak w2 none) _) _
   have hT3:w3.heap[T]?=some (.cells #[.slice (some ⟨N,0,none⟩) ns.length c,.slice (some ⟨w2.heap.size,0,none⟩) ns.length ns.length] 106 (0,0)):=by
    rw[h3,<-hT];have:=heap_alloc_new (w2.alloc (.cells (Array.replicate ns.length .nilFunc) 67)) (.cells #[.slice (some ⟨N,0,none⟩) ns.length c,.slice (some ⟨w2.heap.size,0,none⟩) ns.length ns.length] 106)
    rwa [World.size_alloc]at this
   have hL3:w3.heap[w2.heap.size]?=some (.cells (Array.replicate ns.length .nilFunc) 67 (0,0)):=by
    rw[h3,Lib.alloc_old _ _ _ (by simp)];exact heap_alloc_new _ _
   refine(afx N c T w2.heap.size kv ns w2 w3 H hc hg3 hT3 hL3 (Nat.le_refl _)).mono fun e w4 hh=>?_
   rw[HES.o]at hh;have hsz:=hg.size;have up:∀{X:TypeId} {k n:Nat} {v:Value} {xs:List Value},w4.ownsRow w2.heap.size X k v n xs->w4.ownsRow w.heap.size X k v n xs:=fun h=>⟨h.1,h.2.imp id fun⟨g,cap,cu,e1,hb,r⟩=>⟨g,cap,cu,e1,by omega,r⟩⟩
   have hM:tu w.heap.size w R e w4:=⟨fun es he=>by
    obtain⟨ve,xs,vs,e1,hE⟩:=hh.1 es he;exact⟨ve,xs,vs,e1,up hE.row,hE.cel,fun i hi=>up (hE.nee i hi),hE.apa⟩,hh.2.1,ai hg hh.2.2⟩
   rcases R with c0|es
   ·obtain⟨e1,hz⟩:=hh.2.1 c0 rfl;exact⟨_,_,_,e1,hM,fun h=>absurd h hz,fun _=>rfl⟩
   ·obtain⟨ve,xs,vs,e1,hE⟩:=hh.1 es rfl;exact⟨_,_,_,e1,hM,fun _=>rfl,fun h=>absurd rfl h⟩
  rw[hT]at CN;have hEM:=egM;clear hT CP;go_wp2_with (first|(go_at_call 21;refine CN.o.mono ?_;rintro e w3 ⟨rfl,h3⟩)|(refine(CM.o _ (by assumption)).mono ?_));rintro e w4 ⟨v4,z4,p4,rfl,h4⟩
  by_cases hz:z4=0
  ·have hp:=h4.o.2.1 hz;subst hz hp;go_wp2;refine bodyPost_ret (results_tmp3 (t:=4) (u:=5) (v:=6) rfl _ _ _) rfl ?_;exact h4.o.1
  ·have hv:=h4.o.2.2 hz;subst hv;have hzb:(z4 != 0)=true:=by simpa using hz
   go_wp2;refine bodyPost_ret (results_tmp3 (t:=4) (u:=5) (v:=6) rfl _ _ _) rfl ?_;exact h4.o.1
theorem afC(s:ByteArray)(E:Int->TypeId × Value)(b:Int->Addr)(w:World)(G:Gl w w.heap.size E)(S:Sn w E b)(hmx:s.size<2 ^ 62) :
  Calls prog 5 #[.string s] w (tu w.heap.size w (qh s.data.toList)):=by
 obtain⟨R,hR⟩:=zN (qh s.data.toList);rw[hR];have CR:Hd (Calls prog 10 #[.string s,.func (.func 11) #[] #[]] w fun e w'=>∃v z p,e=.returned (.tuple #[v,z,p])/\Hd (tu w.heap.size w R e w')):=(afB s E b w G S hmx).mono fun e w' hh=>by
  rw[hR]at hh
  rcases R with c0|es
  ·exact⟨_,_,_,(hh.2.1 c0 rfl).1,hh⟩
  ·obtain⟨ve,xs,vs,e1,-⟩:=hh.1 es rfl;exact⟨_,_,_,e1,hh⟩
 clear G S hR;go_enter func5,ntmps5;go_wp2_with (go_at_call 10;refine CR.o.mono ?_;rintro e w4 ⟨v4,z4,p4,rfl,h4⟩);refine bodyPost_ret (by first|exact results_tmp3 (t:=2) (u:=3) (v:=4) rfl _ _ _|exact results_tmp3 (t:=3) (u:=4) (v:=5) rfl _ _ _) rfl ?_;exact h4.o
end Go.Proofs.YtnnbgjaphfhibaaGreatDoor
