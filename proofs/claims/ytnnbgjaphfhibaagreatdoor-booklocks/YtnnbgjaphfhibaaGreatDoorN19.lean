import Derived.Test.YtnnbgjaphfhibaaGreatDoorN13
import Derived.Test.YtnnbgjaphfhibaaGreatDoorN07
import Derived.Test.YtnnbgjaphfhibaaGreatDoorN14
import Derived.Test.YtnnbgjaphfhibaaGreatDoorN11
import Derived.Test.YtnnbgjaphfhibaaGreatDoorN08
import Derived.Laws.ResultCell
import Derived.Test.YtnnbgjaphfhibaaGreatDoorN12
set_option linter.unusedVariables false
set_option linter.unusedSimpArgs false
set_option maxRecDepth 100000
set_option maxHeartbeats 6400000
open Go.Proofs.Tryz
namespace Go.Proofs.YtnnbgjaphfhibaaGreatDoor
open Go.RowKit Go.Maps Go.WideMaps Go.Joins
def yY(B T:Nat)(own:List Nat)(now:Nat)(E:Int->TypeId × Value)(r:Rs (Nat × List Tn))(w:World)(e:Ending)(w':World):Prop :=
 (∀t ns,r=.ok (t,ns)->e=.returned (.tuple #[.int .i64 (t:Nat),.nilIface])/\Tr w' B T ns (t :: own) now)/\(∀c p,r=.error (c,p)->∃v,e=.returned (.tuple #[.int .i64 0,v])/\aS w' v E c p/\∃ns0,Tr w' B T ns0 own now)/\Fr B w w'
theorem FN{w:World}{b:Nat}{cs:Array Value}{t:TypeId}{fz:Nat × Nat}(hb:w.heap[b]?=some (.cells cs t fz))(h1:¬t=129)(h2:¬t=64)(h3:¬t=3)(o:Nat)(v:Value):E5 w (w.setCell ⟨b,o,none⟩ v) :=
 ⟨fun b' cs' t' fz' hb' ht=>heap_setCell_other _ _ _ _ (aP hb' hb (fun e=>by subst e;rcases ht with e|e|e;exact h1 e;exact h2 e;exact h3 e)),fun b' es c hb'=>heap_setCell_other _ _ _ _ (fun e=>o9 hb hb' e.symm)⟩
theorem FO{w w1:World}{B b:Nat}(h:Fr B w w1)(hB:B<=w.heap.size)(hb:w.heap.size<=b)(o:Nat)(v:Value):Fr B w (w1.setCell ⟨b,o,none⟩ v) :=
 ⟨⟨h.bel.os,h.bel.tape,h.bel.output,by have:=h.bel.size;simpa [World.setCell] using this,fun k hk=>(heap_setCell_other _ _ _ _ (by simp;omega)).trans (h.bel.block k hk)⟩,fun b' cs t fz hb' h1 h2 h3=>(heap_setCell_other _ _ _ _ (by have:=aA hb';simp;omega)).trans (h.oth b' cs t fz hb' h1 h2 h3)⟩
theorem aal(B T:Nat)(ns:List Tn)(own:List Nat)(now t:Nat)(E:Int->TypeId × Value)(k:List UInt8)(pl:Nat)(w:World)(h:Tr w B T ns own now)(W:WF ns own)(ht:t<ns.length)(h0:aj ns t=0)(hsz:ns.length+own.length<=900000)(hk:k.length<=1048576)(he:Es w E) :
  Calls prog 192 #[.pointer (some ⟨T,0,none⟩),.int .i64 (t:Nat),.agg #[.string ⟨k.toArray⟩,.int .i64 (pl:Nat)]] w (yY B T own now E (fJ ns own t k pl) w):=by
 have CW:Hd (∀w,Calls prog 195 #[.iface (E 5).1 (E 5).2,.int .i64 (pl:Nat)] w fun e w'=>(∃v,e=.returned v/\FaultV w' v pl (E 5).1 (E 5).2)/\w.grownBy w' none):=fun w=>rE pl _ _ w
 have CA:Hd (ah ns t k=none->∀w',w.grownBy w' none->Calls prog 196 #[.pointer (some ⟨T,0,none⟩),.int .i64 (t:Nat),.int .i64 0,.agg #[.string ⟨k.toArray⟩,.int .i64 (pl:Nat)]] w' (qE B T ns own now t ⟨0,k,[],0,[],pl⟩ w')):=fun hn w' hg=>yL B T ns own now t 0 k pl w' (h.gb hg) W ht (fun _=>hn) (by omega) hk
 have jL:Hd (fJ ns own t k pl=match ah ns t k with|none=>.ok (ns.length,addN ns t ⟨0,k,[],0,[],pl⟩)|some q=>if aj ns q=0/\¬q∈own then .ok (q,ns) else .error (5,pl)):=rfl;have yN:Hd (∀q,ah ns t k=some q->q<ns.length):=fun q hq=>Jy W hq
 have mJ:Hd (Tr w B T ns own now):=h;have rZ:Hd (WF ns own):=W;have hB:B<=w.heap.size:=h.base;obtain⟨N,c,M,xs,ks,hD⟩:=h;have eG:w.grownBy (w.alloc (.cells #[.string ⟨k.toArray⟩,.int .i64 (pl:Nat)] 213)) none:=World.grownBy_alloc w _ none;have bY:=heap_alloc_new w (.cells #[.string ⟨k.toArray⟩,.int .i64 (pl:Nat)] 213);obtain⟨K,iR⟩:=zN (w.heap.size);rw[iR]at bY;have pg:(w.alloc (.cells #[.string ⟨k.toArray⟩,.int .i64 (pl:Nat)] 213)).heap.size=K+1:=by rw[World.size_alloc,iR]
 obtain⟨wa,hwa⟩:∃w1,w.alloc (.cells #[.string ⟨k.toArray⟩,.int .i64 (pl:Nat)] 213)=w1:=⟨_,rfl⟩;rw[hwa]at bY eG pg;have FP:wa.grownBy (wa.alloc (.cells #[.int .i64 (t:Nat),.string ⟨k.toArray⟩] 268)) none:=World.grownBy_alloc wa _ none;have hbS:=heap_alloc_new wa (.cells #[.int .i64 (t:Nat),.string ⟨k.toArray⟩] 268);rw[pg]at hbS;obtain⟨S8,hS8⟩:=zN (K+1);rw[hS8]at hbS pg;obtain⟨w1,hw1⟩:=zN (wa.alloc (.cells #[.int .i64 (t:Nat),.string ⟨k.toArray⟩] 268));rw[hw1]at hbS FP;have k0a:=(gW bY).1;have Rw:=jf bY FP;have FQ:=ai eG FP;have hD1:=hD.keeps (mD FQ);have he1:=xE he FQ;obtain⟨-,t1,-,-⟩:=hD1.cells;obtain⟨s0,s1,-⟩:=gW hbS;have gA:w1.grownBy (w1.alloc (.cells #[.int .i64 0,.bool false] 265)) none:=World.grownBy_alloc w1 _ none;have t1A:=gA.cell t1 (by simp);have s0A:=gA.cell s0 (by simp);have s1A:=gA.cell s1 (by simp)
 have l1:=yM hD1 t k h0 (by omega) hk w1.drew (kL w1);have l2:=yM hD1 t k h0 (by omega) hk (w1.alloc (.cells #[.int .i64 0,.bool false] 265)).drew (pF w1 _);have ay:Hd (w.grownBy w1 none):=FQ;have kK:Hd (w1.heap[K]?=some (.cells #[.string ⟨k.toArray⟩,.int .i64 (pl:Nat)] 213 (0,0))):=Rw;have ES:Hd (w1.heap[S8]?=some (.cells #[.int .i64 (t:Nat),.string ⟨k.toArray⟩] 268 (0,0))):=hbS;have HD1:Hd (TrD w1 B T ns now N c M xs ks (ns.length+own.length) (hold ns own)):=hD1;have dN:Hd (∀w' v,FaultV w' v pl (E 5).1 (E 5).2->aS w' v E 5 pl):=fun _ _ h=>h
 have vI:Hd (∀w',w1.grownBy w' none->w'.cell? ⟨3,0,none⟩=some (.iface (E 5).1 (E 5).2)):=fun w' hg=>(xE he1 hg).tw
 obtain⟨ty,hty⟩:=zN ((E 5).1);obtain⟨pv,hpv⟩:=zN ((E 5).2);rw[hty,hpv]at CW dN vI;obtain⟨S,hS⟩:=zN (fJ ns own t k pl);rw[hS]at jL ⊢;clear hD bY Rw hbS hD1 eG FP FQ he1 he hty hpv gA hS W
 cases hq:ah ns t k with
 | none =>
  have az:Hd (S=.ok (ns.length,addN ns t ⟨0,k,[],0,[],pl⟩)):=by show S=_;rw[jL.o,hq]
  have AV:Hd (∀w',w.grownBy w' none->Calls prog 196 #[.pointer (some ⟨T,0,none⟩),.int .i64 (t:Nat),.int .i64 0,.agg #[.string ⟨k.toArray⟩,.int .i64 (pl:Nat)]] w' (qE B T ns own now t ⟨0,k,[],0,[],pl⟩ w')):=CA.o hq;have Bl:Hd (WF (addN ns t ⟨0,k,[],0,[],pl⟩) own):=qx ns own t ⟨0,k,[],0,[],pl⟩ rfl ht rZ.o;have xK:Hd (aj (addN ns t ⟨0,k,[],0,[],pl⟩) t=0):=by
   show _=_;rw[eQ ns t ⟨0,k,[],0,[],pl⟩ ht,if_neg (by omega)];exact h0
  have jD:Hd (ah (addN ns t ⟨0,k,[],0,[],pl⟩) t k=some ns.length):=by
   show _=_;rw[Jb ns own t ⟨0,k,[],0,[],pl⟩ rfl ht rZ.o,if_pos rfl,hq];simp only[if_true]
  have J7:Hd ((addN ns t ⟨0,k,[],0,[],pl⟩).length=ns.length+1):=bZ _ _ _;rw[hq]at l1 l2;simp only[]at l1 l2;clear hq;go_enter func192,ntmps192;go_upto_region 2 with fail
  go_cut [9,10] from 15 (fun v9 v10 wx=>∃H:Nat,v9=.pointer (some ⟨H,0,none⟩)/\wx.heap[H]?=some (.cells #[.int .i64 0,.bool false] 265 (0,0))/\v10=.bool false/\w1.grownBy wx none/\w1.heap.size<=H)
  case first =>
   go_region
   all_goals (
    go_wp2_with fail;go_meet;exact⟨_,rfl,heap_alloc_new w1 _,rfl,pF w1 _,Nat.le_refl _⟩)
  case rest =>
   obtain⟨H,rfl,hH,rfl,hgc,hHw⟩:=hcut;have yZ:Hd (w.heap.size<=H):=Nat.le_trans ay.o.size hHw;have bC:Hd (w.grownBy wc none):=ai ay.o hgc;obtain⟨kc0,kc1,-⟩:=gW (jf kK.o hgc);have qP:Hd (wc.heap[H]?=some (.cells #[.int .i64 0,.bool false] 265 (0,0))):=hH;have HSc:Hd (wc.heap[S8]?=some (.cells #[.int .i64 (t:Nat),.string ⟨k.toArray⟩] 268 (0,0))):=jf ES.o hgc;clear hgc hH hHw t1 t1A s0 s1 s0A s1A k0a l1 l2;go_wp2_with (go_at_call 196;refine(AV.o _ bC.o).mono ?_;rintro e w3 ⟨rfl,ht3,hf3⟩;obtain⟨hh0,hh1,su⟩:=gW ((hf3.oth _ _ _ _ qP.o (by decide) (by decide) (by decide)).trans qP.o);have Rx:=su 0);obtain⟨N',c',M',xs',ks',hD3⟩:=ht3;have hH3:=(hf3.oth _ _ _ _ qP.o (by decide) (by decide) (by decide)).trans qP.o;have hS3:=(hf3.oth _ _ _ _ HSc.o (by decide) (by decide) (by decide)).trans HSc.o;have FT:(w3.setCell ⟨H,0,none⟩ (.int .i64 (ns.length:Nat))).heap[H]?=some (.cells #[.int .i64 (ns.length:Nat),.bool false] 265 (0,0)):=block_setCell (i:=0) hH3 _
   have hS4:=(heap_setCell_other w3 ⟨H,0,none⟩ S8 (.int .i64 (ns.length:Nat)) (aP hS3 hH3 (by decide))).trans hS3;have hH7:((w3.setCell ⟨H,0,none⟩ (.int .i64 (ns.length:Nat))).setCell ⟨H,1,none⟩ (.bool true)).heap[H]?=some (.cells #[.int .i64 (ns.length:Nat),.bool true] 265 (0,0)):=block_setCell (i:=1) FT _;have hS7:=(heap_setCell_other (w3.setCell ⟨H,0,none⟩ (.int .i64 (ns.length:Nat))) ⟨H,1,none⟩ S8 (.bool true) (aP hS4 FT (by decide))).trans hS4;have hD7:=(hD3.keeps (FN hH3 (by decide) (by decide) (by decide) 0 (.int .i64 (ns.length:Nat)))).keeps (FN FT (by decide) (by decide) (by decide) 1 (.bool true));have xM:=FO (FO ((Fr.gb bC.o hB).two hf3) hB yZ.o 0 (.int .i64 (ns.length:Nat))) hB yZ.o 1 (.bool true);have hln:=J7.o;clear hD3 hH3 hS3 FT hS4 hf3 hh0 hh1 su Rx;obtain⟨w7,hw7⟩:=zN ((w3.setCell ⟨H,0,none⟩ (.int .i64 (ns.length:Nat))).setCell ⟨H,1,none⟩ (.bool true))
   rw[hw7]at hD7 hH7 hS7 xM ⊢;obtain⟨w8,y7,Bo,nJ⟩:=(hD7.map.block (w':=w7.drew) rfl).put t k (by omega) hk (by omega) ns.length true;unfold nZ at y7;obtain⟨es,cc,hm0⟩:=hD7.map.map;have Bq:B<=w7.heap.size:=Nat.le_of_lt (Nat.lt_of_le_of_lt hD7.bT (aA hD7.blk));have Bv:w8.heap[H]?=some (.cells #[.int .i64 (ns.length:Nat),.bool true] 265 (0,0)):=(nJ.block H (aA (w:=w7.drew) hH7) (by simp only[ne_eq,Option.some.injEq];exact o9 hH7 hm0)).trans hH7;obtain⟨-,t17,-,-⟩:=hD7.cells;obtain⟨s0,s1,-⟩:=gW hS7;obtain⟨g0,g1,-⟩:=gW hH7;obtain⟨q0,-,-⟩:=gW Bv;have J8:Hd (Tr w8 B T (addN ns t ⟨0,k,[],0,[],pl⟩) (ns.length :: own) now):=by
    refine⟨N',c',M',xs',ks',?_⟩;rw[Px (addN ns t ⟨0,k,[],0,[],pl⟩) own Bl.o t ns.length k xK.o jD.o];have e:=(hD7.keeps (w':=w7.drew) (mD (kL w7))).mapd Bo nJ;exact⟨e.blk,e.bT,e.row,e.cel,e.kid,e.apart,e.map.mono (by simp;omega),e.bM⟩
   have jY:Hd (Fr B w w8):=(xM.two (Fr.gb (kL w7) Bq)).two (Fr.mapd nJ Bq hD7.bM hm0);clear hD7 hH7 hS7 xM Bo nJ hm0 Bv hw7
   go_region
   all_goals (
    go_wp2;refine bodyPost_ret (results_tmp2 (t:=6) (u:=7) rfl _ _ _) rfl ?_;rw[az.o];exact⟨fun t' ns' hh=>(by cases hh;exact⟨rfl,J8.o⟩),fun c p hh=>(by cases hh),jY.o⟩)
 | some q =>
  have dL:=yN.o q hq;have Bl:Hd (WF ns own):=rZ.o;have xK:Hd (aj ns t=0):=h0;have jD:Hd (ah ns t k=some q):=hq;obtain⟨x,hx⟩:=zN (ns[q]);have hkx:aj ns q=x.kd:=by unfold aj;rw[List.getElem?_eq_getElem dL,hx]
  have eH:Hd (S=if x.kd=0/\¬decide (q∈own)=true then .ok (q,ns) else .error (5,pl)):=by
   show S=_;rw[jL.o,hq];simp only[hkx,decide_eq_true_eq]
  have AX:Hd (ns[q]=x):=hx;rw[hq]at l1 l2;simp only[]at l1 l2;generalize decide (q∈own)=bb at l1 l2 eH;clear hq hx hkx;go_enter func192,ntmps192;go_upto_region 2 with fail
  go_cut [9,10] from 15 (fun v9 v10 wx=>∃H:Nat,v9=.pointer (some ⟨H,0,none⟩)/\wx.heap[H]?=some (.cells #[.int .i64 (q:Nat),.bool bb] 265 (0,0))/\v10=.bool true/\w1.grownBy wx none/\w1.heap.size<=H)
  case first =>
   go_region
   all_goals (
    go_wp2_with fail;go_meet;exact⟨_,rfl,heap_alloc_new w1 _,rfl,pF w1 _,Nat.le_refl _⟩)
  case rest =>
   obtain⟨H,rfl,hH,rfl,hgc,hHw⟩:=hcut;have yZ:Hd (w.heap.size<=H):=Nat.le_trans ay.o.size hHw;have bC:Hd (w.grownBy wc none):=ai ay.o hgc;obtain⟨kc0,kc1,-⟩:=gW (jf kK.o hgc);have qP:Hd (wc.heap[H]?=some (.cells #[.int .i64 (q:Nat),.bool bb] 265 (0,0))):=hH;have HSc:Hd (wc.heap[S8]?=some (.cells #[.int .i64 (t:Nat),.string ⟨k.toArray⟩] 268 (0,0))):=jf ES.o hgc;have hDc:=HD1.o.keeps (mD hgc);have HDc:Hd (TrD wc B T ns now N c M xs ks (ns.length+own.length) (hold ns own)):=hDc;obtain⟨hh0,hh1,su⟩:=gW hH;have aam:=su 1;obtain⟨T0,-,-,-⟩:=hDc.cells;obtain⟨n0,-,-,-,-,-,-⟩:=hDc.node q dL;rw[AX.o]at n0;have twc:=vI.o _ hgc;obtain⟨z,hz⟩:=zN (x.kd);rw[hz]at n0 eH;clear hgc hH hHw hDc su hz t1 t1A s0 s1 s0A s1A k0a l1 l2
   by_cases hok:z=0/\¬bb=true
   ·have az:Hd (S=.ok (q,ns)):=by show S=_;rw[eH.o,if_pos hok]
    have hbb:bb=false:=by simpa using hok.2
    have hzb:(z != 0)=false:=by simp[hok.1]
    subst hbb;clear hok;go_upto_region 5 with fail
    go_quiet (fail);go_upto_region 8 with fail
    have hH7:((wc.drewN nq).setCell ⟨H,1,none⟩ (.bool true)).heap[H]?=some (.cells #[.int .i64 (q:Nat),.bool true] 265 (0,0)):=block_setCell (i:=1) (w:=wc.drewN nq) qP.o _;have hS7:=(heap_setCell_other (wc.drewN nq) ⟨H,1,none⟩ S8 (.bool true) (aP HSc.o qP.o (by decide))).trans HSc.o;have hgn:wc.grownBy (wc.drewN nq) none:=au (ak wc none) nq;have hD7:=(HDc.o.keeps (mD hgn)).keeps (FN (w:=wc.drewN nq) qP.o (by decide) (by decide) (by decide) 1 (.bool true));have xM:=FO ((Fr.gb bC.o hB).two (Fr.gb hgn (Nat.le_trans hB bC.o.size))) hB yZ.o 1 (.bool true);clear hgn hh0 hh1 aam T0 n0 twc kc0 kc1;obtain⟨w7,hw7⟩:=zN ((wc.drewN nq).setCell ⟨H,1,none⟩ (.bool true));rw[hw7]at hD7 hH7 hS7 xM ⊢;obtain⟨w8,y7,Bo,nJ⟩:=(hD7.map.block (w':=w7.drew) rfl).put t k (by omega) hk (by omega) q true;unfold nZ at y7;obtain⟨es,cc,hm0⟩:=hD7.map.map
    have Bq:B<=w7.heap.size:=Nat.le_of_lt (Nat.lt_of_le_of_lt hD7.bT (aA hD7.blk));have Bv:w8.heap[H]?=some (.cells #[.int .i64 (q:Nat),.bool true] 265 (0,0)):=(nJ.block H (aA (w:=w7.drew) hH7) (by simp only[ne_eq,Option.some.injEq];exact o9 hH7 hm0)).trans hH7;obtain⟨-,t17,-,-⟩:=hD7.cells;obtain⟨s0,s1,-⟩:=gW hS7;obtain⟨g0,g1,-⟩:=gW hH7;obtain⟨q0,-,-⟩:=gW Bv;have J8:Hd (Tr w8 B T ns (q :: own) now):=by
     refine⟨N,c,M,xs,ks,?_⟩;rw[Px ns own Bl.o t q k xK.o jD.o];have e:=(hD7.keeps (w':=w7.drew) (mD (kL w7))).mapd Bo nJ;exact⟨e.blk,e.bT,e.row,e.cel,e.kid,e.apart,e.map.mono (by simp;omega),e.bM⟩
    have jY:Hd (Fr B w w8):=(xM.two (Fr.gb (kL w7) Bq)).two (Fr.mapd nJ Bq hD7.bM hm0);clear hD7 hH7 hS7 xM Bo nJ hm0 Bv hw7
    go_region
    all_goals (
     go_wp2;refine bodyPost_ret (results_tmp2 (t:=6) (u:=7) rfl _ _ _) rfl ?_;rw[az.o];exact⟨fun t' ns' hh=>(by cases hh;exact⟨rfl,J8.o⟩),fun c p hh=>(by cases hh),jY.o⟩)
   ·have az:Hd (S=.error (5,pl)):=by show S=_;rw[eH.o,if_neg hok]
    have hcase:bb=true\/(bb=false/\(z != 0)=true):=by
     cases bb with
     | true=>exact Or.inl rfl
     | false=>exact Or.inr ⟨rfl,by simp at hok;simp[hok]⟩
    clear hok;go_upto_region 5 with fail
    rcases hcase with rfl|⟨rfl,hzb⟩
    all_goals (
     go_quiet (fail);go_wp2_with (go_at_call 195;refine(CW.o _).mono ?_;rintro e w5 ⟨⟨v,rfl,hv⟩,hg5⟩);refine bodyPost_ret (results_tmp2 (t:=6) (u:=7) rfl _ _ _) rfl ?_;rw[az.o];exact⟨fun t' ns' hh=>(by cases hh),fun c p hh=>(by cases hh;exact⟨v,rfl,dN.o _ _ hv,ns,mJ.o.gb (ai (au bC.o _) hg5)⟩),Fr.gb (ai (au bC.o _) hg5) hB⟩)
open Go.RowKit Go.Maps Go.WideMaps Go.Joins
theorem Tr.own{w:World}{B T:Nat}{ns:List Tn}{own:List Nat}{now:Nat}(h:Tr w B T ns own now)(W:WF ns own){p q:Nat}(h0:¬aj ns p=0)(hq:q∈ae ns p):Tr w B T ns (q :: own) now:=by
 obtain⟨N,c,M,xs,ks,e⟩:=h;refine⟨N,c,M,xs,ks,?_⟩;rw[XL ns own W p q h0 hq];exact⟨e.blk,e.bT,e.row,e.cel,e.kid,e.apart,e.map.mono (by simp),e.bM⟩
theorem aan{w:World}{B T:Nat}{ns:List Tn}{own:List Nat}{now:Nat}(h:Tr w B T ns own now){H:Nat}{cs:Array Value}(hH:w.heap[H]?=some (.cells cs 265 (0,0)))(o:Nat)(v:Value):Tr (w.setCell ⟨H,o,none⟩ v) B T ns own now:=by
 obtain⟨N,c,M,xs,ks,e⟩:=h;exact⟨N,c,M,xs,ks,e.keeps (FN hH (by decide) (by decide) (by decide) o v)⟩
theorem Ry(ns:List Tn)(up:Nat)(n:Tn)(hu:up<ns.length):ns.length∈ae (addN ns up n) up:=by
 rw[jB ns up n hu,if_neg (by omega),if_pos rfl];simp
theorem aao(B T:Nat)(ns:List Tn)(own:List Nat)(now t:Nat)(E:Int->TypeId × Value)(k:List UInt8)(pl:Nat)(w:World)(h:Tr w B T ns own now)(W:WF ns own)(ht:t<ns.length)(h0:aj ns t=0)(hsz:ns.length+own.length<=900000)(hk:k.length<=1048576)(he:Es w E) :
  Calls prog 191 #[.pointer (some ⟨T,0,none⟩),.int .i64 (t:Nat),.agg #[.string ⟨k.toArray⟩,.int .i64 (pl:Nat)]] w (yY B T own now E (fK ns t k pl) w):=by
 have CW:Hd (∀w,Calls prog 195 #[.iface (E 5).1 (E 5).2,.int .i64 (pl:Nat)] w fun e w'=>(∃v,e=.returned v/\FaultV w' v pl (E 5).1 (E 5).2)/\w.grownBy w' none):=fun w=>rE pl _ _ w
 have CA:Hd (ah ns t k=none->∀w',w.grownBy w' none->Calls prog 196 #[.pointer (some ⟨T,0,none⟩),.int .i64 (t:Nat),.int .i64 2,.agg #[.string ⟨k.toArray⟩,.int .i64 (pl:Nat)]] w' (qE B T ns own now t ⟨2,k,[],0,[],pl⟩ w')):=fun hn w' hg=>yL B T ns own now t 2 k pl w' (h.gb hg) W ht (fun _=>hn) (by omega) hk
 have CB:Hd (∀w',Tr w' B T (addN ns t ⟨2,k,[],0,[],pl⟩) own now->Calls prog 196 #[.pointer (some ⟨T,0,none⟩),.int .i64 (ns.length:Nat),.int .i64 0,.agg #[.string ⟨#[]⟩,.int .i64 (pl:Nat)]] w' (qE B T (addN ns t ⟨2,k,[],0,[],pl⟩) own now ns.length ⟨0,[],[],0,[],pl⟩ w')):=fun w' hg=>yL B T _ own now ns.length 0 [] pl w' hg (qx ns own t _ rfl ht W) (by rw[bZ];omega) (fun h2=>by rw[eQ ns t _ ht,if_pos rfl]at h2;exact absurd (show(2:Int)=0 from h2) (by decide)) (by rw[bZ];omega) (by simp)
 have CQ:Hd (∀q,q<ns.length->aj ns q=2->∀w',w.grownBy w' none->Calls prog 196 #[.pointer (some ⟨T,0,none⟩),.int .i64 (q:Nat),.int .i64 0,.agg #[.string ⟨#[]⟩,.int .i64 (pl:Nat)]] w' (qE B T ns own now q ⟨0,[],[],0,[],pl⟩ w')):=fun q hq h2 w' hg=>yL B T ns own now q 0 [] pl w' (h.gb hg) W hq (fun h3=>by rw[h2]at h3;exact absurd h3 (by decide)) (by omega) (by simp)
 have jL:Hd (fK ns t k pl=match ah ns t k with|none=>.ok (ns.length+1,addN (addN ns t ⟨2,k,[],0,[],pl⟩) ns.length ⟨0,[],[],0,[],pl⟩)|some q=>if aj ns q=2 then .ok (ns.length,addN ns q ⟨0,[],[],0,[],pl⟩) else .error (5,pl)):=rfl;have yN:Hd (∀q,ah ns t k=some q->q<ns.length):=fun q hq=>Jy W hq
 have rZ:Hd (WF ns own):=W;have mJ:Hd (Tr w B T ns own now):=h;have hB:B<=w.heap.size:=h.base;obtain⟨N,c,M,xs,ks,hD⟩:=h;have eG:w.grownBy (w.alloc (.cells #[.string ⟨k.toArray⟩,.int .i64 (pl:Nat)] 213)) none:=World.grownBy_alloc w _ none;have bY:=heap_alloc_new w (.cells #[.string ⟨k.toArray⟩,.int .i64 (pl:Nat)] 213);obtain⟨K,iR⟩:=zN (w.heap.size);rw[iR]at bY;have hD1:=hD.keeps (mD eG);have he1:=xE he eG;obtain⟨w1,hw1⟩:=zN (w.alloc (.cells #[.string ⟨k.toArray⟩,.int .i64 (pl:Nat)] 213));rw[hw1]at bY hD1 eG he1;obtain⟨-,t1,-,-⟩:=hD1.cells;have k0:=(gW bY).1;have gA:w1.grownBy (w1.alloc (.cells #[.int .i64 0,.bool false] 265)) none:=World.grownBy_alloc w1 _ none;have t1A:=gA.cell t1 (by simp);have k0A:=gA.cell k0 (by simp);have l1:=yM hD1 t k h0 (by omega) hk w1.drew (kL w1);have l2:=yM hD1 t k h0 (by omega) hk (w1.alloc (.cells #[.int .i64 0,.bool false] 265)).drew (pF w1 _)
 have ay:Hd (w.grownBy w1 none):=eG;have kK:Hd (w1.heap[K]?=some (.cells #[.string ⟨k.toArray⟩,.int .i64 (pl:Nat)] 213 (0,0))):=bY;have HD1:Hd (TrD w1 B T ns now N c M xs ks (ns.length+own.length) (hold ns own)):=hD1;have dN:Hd (∀w' v,FaultV w' v pl (E 5).1 (E 5).2->aS w' v E 5 pl):=fun _ _ h=>h
 have vI:Hd (∀w',w1.grownBy w' none->w'.cell? ⟨3,0,none⟩=some (.iface (E 5).1 (E 5).2)):=fun w' hg=>(xE he1 hg).tw
 obtain⟨ty,hty⟩:=zN ((E 5).1);obtain⟨pv,hpv⟩:=zN ((E 5).2);rw[hty,hpv]at CW dN vI;obtain⟨S,hS⟩:=zN (fK ns t k pl);rw[hS]at jL ⊢;clear hD bY hD1 eG he1 he hty hpv gA hS W
 cases hq:ah ns t k with
 | none =>
  have az:Hd (S=.ok (ns.length+1,addN (addN ns t ⟨2,k,[],0,[],pl⟩) ns.length ⟨0,[],[],0,[],pl⟩)):=by show S=_;rw[jL.o,hq]
  have AV:Hd (∀w',w.grownBy w' none->Calls prog 196 #[.pointer (some ⟨T,0,none⟩),.int .i64 (t:Nat),.int .i64 2,.agg #[.string ⟨k.toArray⟩,.int .i64 (pl:Nat)]] w' (qE B T ns own now t ⟨2,k,[],0,[],pl⟩ w')):=CA.o hq;have J7:Hd ((addN ns t ⟨2,k,[],0,[],pl⟩).length=ns.length+1):=bZ _ _ _;have HOW:Hd (∀w',Tr w' B T (addN (addN ns t ⟨2,k,[],0,[],pl⟩) ns.length ⟨0,[],[],0,[],pl⟩) own now->Tr w' B T (addN (addN ns t ⟨2,k,[],0,[],pl⟩) ns.length ⟨0,[],[],0,[],pl⟩) ((ns.length+1) :: own) now):=fun w' hh=>by
   have hu:ns.length<(addN ns t ⟨2,k,[],0,[],pl⟩).length:=by rw[bZ];omega
   have hw1:=qx ns own t ⟨2,k,[],0,[],pl⟩ rfl ht rZ.o;have hm:=Ry (addN ns t ⟨2,k,[],0,[],pl⟩) ns.length ⟨0,[],[],0,[],pl⟩ hu;rw[bZ]at hm;refine hh.own (qx _ own ns.length ⟨0,[],[],0,[],pl⟩ rfl hu hw1) (p:=ns.length) ?_ hm;rw[eQ _ _ _ hu,if_neg (by rw[bZ];omega),eQ _ _ _ ht,if_pos rfl];exact fun hh=>absurd (show(2:Int)=0 from hh) (by decide)
  rw[hq]at l1 l2;simp only[]at l1 l2;clear hq;go_enter func191,ntmps191;go_upto_region 1 with fail
  go_cut [8,9] from 10 (fun v8 v9 wx=>∃H:Nat,v8=.pointer (some ⟨H,0,none⟩)/\wx.heap[H]?=some (.cells #[.int .i64 0,.bool false] 265 (0,0))/\v9=.bool false/\w1.grownBy wx none/\w1.heap.size<=H)
  case first =>
   go_region
   all_goals (
    go_wp2_with fail;go_meet;exact⟨_,rfl,heap_alloc_new w1 _,rfl,pF w1 _,Nat.le_refl _⟩)
  case rest =>
   obtain⟨H,rfl,hH,rfl,hgc,hHw⟩:=hcut;have yZ:Hd (w.heap.size<=H):=Nat.le_trans ay.o.size hHw;have bC:Hd (w.grownBy wc none):=ai ay.o hgc;obtain⟨kc0,kc1,-⟩:=gW (jf kK.o hgc);have qP:Hd (wc.heap[H]?=some (.cells #[.int .i64 0,.bool false] 265 (0,0))):=hH;have y8:Hd (wc.heap[K]?=some (.cells #[.string ⟨k.toArray⟩,.int .i64 (pl:Nat)] 213 (0,0))):=jf kK.o hgc;clear hgc hH hHw t1 t1A k0 k0A l1 l2;go_wp2_with (go_at_call 196;refine(AV.o _ bC.o).mono ?_);rintro e w3 ⟨rfl,ht3,hf3⟩;have hH3:=(hf3.oth _ _ _ _ qP.o (by decide) (by decide) (by decide)).trans qP.o;have hK3:=(hf3.oth _ _ _ _ y8.o (by decide) (by decide) (by decide)).trans y8.o;obtain⟨hh0,hh1,su⟩:=gW hH3;have Rx:=su 0;obtain⟨kk0,kk1,-⟩:=gW hK3;have hkne:¬K=H:=aP hK3 hH3 (by decide);have HT4:Hd (Tr (w3.setCell ⟨H,0,none⟩ (.int .i64 (ns.length:Nat))) B T (addN ns t ⟨2,k,[],0,[],pl⟩) own now):=aan ht3 hH3 0 _
   have HF3:Hd (Fr B wc w3):=hf3;clear hH3 hK3 ht3 hf3 su kc0 kc1;go_wp2_with (go_at_call 196;refine(CB.o _ HT4.o).mono ?_;rintro e w4 ⟨rfl,pJ,hf4⟩);refine bodyPost_ret (results_tmp2 (t:=6) (u:=7) rfl _ _ _) rfl ?_;rw[az.o];refine⟨fun t' ns' hh=>(by cases hh;exact⟨by rw[J7.o];rfl,HOW.o _ pJ⟩),fun c p hh=>(by cases hh),(FO ((Fr.gb bC.o hB).two HF3.o) hB yZ.o 0 _).two hf4⟩
 | some q =>
  have dL:=yN.o q hq;obtain⟨x,hx⟩:=zN (ns[q]);have hkx:aj ns q=x.kd:=by unfold aj;rw[List.getElem?_eq_getElem dL,hx]
  have eH:Hd (S=if x.kd=2 then .ok (ns.length,addN ns q ⟨0,[],[],0,[],pl⟩) else .error (5,pl)):=by
   show S=_;rw[jL.o,hq];simp only[hkx]
  have AX:Hd (ns[q]=x):=hx;have y9:Hd (aj ns q=x.kd):=hkx;rw[hq]at l1 l2;simp only[]at l1 l2;generalize decide (q∈own)=bb at l1 l2;clear hq hx hkx;go_enter func191,ntmps191;go_upto_region 1 with fail
  go_cut [8,9] from 10 (fun v8 v9 wx=>∃H:Nat,v8=.pointer (some ⟨H,0,none⟩)/\wx.heap[H]?=some (.cells #[.int .i64 (q:Nat),.bool bb] 265 (0,0))/\v9=.bool true/\w1.grownBy wx none)
  case first =>
   go_region
   all_goals (
    go_wp2_with fail;go_meet;exact⟨_,rfl,heap_alloc_new w1 _,rfl,pF w1 _⟩)
  case rest =>
   obtain⟨H,rfl,hH,rfl,hgc⟩:=hcut;have bC:Hd (w.grownBy wc none):=ai ay.o hgc;obtain⟨kc0,kc1,-⟩:=gW (jf kK.o hgc);have hDc:=HD1.o.keeps (mD hgc);obtain⟨hh0,hh1,su⟩:=gW hH;obtain⟨T0,-,-,-⟩:=hDc.cells;obtain⟨n0,-,-,-,-,-,-⟩:=hDc.node q dL;rw[AX.o]at n0;have twc:=vI.o _ hgc;obtain⟨z,hz⟩:=zN (x.kd);rw[hz]at n0 eH y9;clear hgc hH hDc su hz t1 t1A k0 k0A l1 l2
   by_cases hok:z=2
   ·have az:Hd (S=.ok (ns.length,addN ns q ⟨0,[],[],0,[],pl⟩)):=by show S=_;rw[eH.o,if_pos hok]
    have hzb:(z != 2)=false:=by simp[hok]
    have iL:Hd (aj ns q=2):=y9.o.trans hok;have J9:Hd (∀w',w.grownBy w' none->Calls prog 196 #[.pointer (some ⟨T,0,none⟩),.int .i64 (q:Nat),.int .i64 0,.agg #[.string ⟨#[]⟩,.int .i64 (pl:Nat)]] w' (qE B T ns own now q ⟨0,[],[],0,[],pl⟩ w')):=CQ.o q dL iL.o;have HOW:Hd (∀w',Tr w' B T (addN ns q ⟨0,[],[],0,[],pl⟩) own now->Tr w' B T (addN ns q ⟨0,[],[],0,[],pl⟩) (ns.length :: own) now):=fun w' hh=>by
     refine hh.own (qx ns own q ⟨0,[],[],0,[],pl⟩ rfl dL rZ.o) (p:=q) ?_ (Ry ns q _ dL);rw[eQ _ _ _ dL,if_neg (by omega),iL.o];exact fun hh=>absurd hh (by decide)
    clear hok;go_upto_region 4 with fail
    go_quiet (fail);go_wp2_with (go_at_call 196;refine(J9.o _ (au bC.o _)).mono ?_;rintro e w4 ⟨rfl,pJ,hf4⟩);refine bodyPost_ret (results_tmp2 (t:=6) (u:=7) rfl _ _ _) rfl ?_;rw[az.o];exact⟨fun t' ns' hh=>(by cases hh;exact⟨rfl,HOW.o _ pJ⟩),fun c p hh=>(by cases hh),(Fr.gb (au bC.o _) hB).two hf4⟩
   ·have az:Hd (S=.error (5,pl)):=by show S=_;rw[eH.o,if_neg hok]
    have hzb:(z != 2)=true:=by simp[hok]
    clear hok;go_upto_region 4 with fail
    go_quiet (fail);go_wp2_with (go_at_call 195;refine(CW.o _).mono ?_;rintro e w5 ⟨⟨v,rfl,hv⟩,hg5⟩);refine bodyPost_ret (results_tmp2 (t:=6) (u:=7) rfl _ _ _) rfl ?_;rw[az.o];exact⟨fun t' ns' hh=>(by cases hh),fun c p hh=>(by cases hh;exact⟨v,rfl,dN.o _ _ hv,ns,mJ.o.gb (ai (au bC.o _) hg5)⟩),Fr.gb (ai (au bC.o _) hg5) hB⟩
open Go.RowKit Go.Maps Go.WideMaps Go.Joins
structure Lo(B:Nat):Prop where
 te:6<B
 ra:1<B
 ma:2<B
 tw:3<B
theorem xN{w w':World}{B:Nat}(hb:Below B w w')(a:Addr)(h:a.block<B):w'.cell? a=w.cell? a:=World.cell?_of_block (hb.block a.block h)
theorem Es.bel{w w':World}{E:Int->TypeId × Value}{B:Nat}(h:Es w E)(hL:Lo B)(hb:Below B w w'):Es w' E :=
 ⟨(xN hb _ hL.te).trans h.te,(xN hb _ hL.ra).trans h.ra,(xN hb _ hL.ma).trans h.ma,(xN hb _ hL.tw).trans h.tw⟩
def KyR(w:World)(g:Nat)(l:List (List UInt8 × Nat)):Prop:=∃cur:Array Value,w.heap[g]?=some (.cells cur 213 (0,0))/\∀i (hi:i<l.length),cur[i*2]?=some (.string ⟨l[i].1.toArray⟩)/\cur[i*2+1]?=some (.int .i64 (l[i].2:Nat))
theorem KyR.fr{w w':World}{B g:Nat}{l:List (List UInt8 × Nat)}(h:KyR w g l)(hf:Fr B w w'):KyR w' g l:=by
 obtain⟨cur,h1,h2⟩:=h;exact⟨cur,(hf.oth _ _ _ _ h1 (by decide) (by decide) (by decide)).trans h1,h2⟩
theorem KyR.at{w:World}{g:Nat}{l:List (List UInt8 × Nat)}(h:KyR w g l)(i:Nat)(hi:i<l.length):w.cell? ⟨g,i*2,none⟩=some (.string ⟨l[i].1.toArray⟩)/\w.cell? ⟨g,i*2+1,none⟩=some (.int .i64 (l[i].2:Nat)):=by
 obtain⟨cur,h1,h2⟩:=h;obtain⟨a,b⟩:=h2 i hi;exact⟨by rw[af h1];exact a,by rw[af h1];exact b⟩
theorem Rz{w:World}{v:Value}{E:Int->TypeId × Value}{c:Int}{p T o:Nat}{cs:Array Value}{x:Value}(h:aS w v E c p)(hT:w.heap[T]?=some (.cells cs 129 (0,0))):aS (w.setCell ⟨T,o,none⟩ x) v E c p:=by
 obtain⟨F,h1,h2⟩:=h;exact⟨F,h1,(heap_setCell_other _ _ _ _ (aP h2 hT (by decide))).trans h2⟩
def RD(B T:Nat)(own:List Nat)(E:Int->TypeId × Value)(r:Rs (Nat × List Tn))(w:World)(e:Ending)(w':World):Prop :=
 (∀t ns,r=.ok (t,ns)->e=.returned .nilIface/\Tr w' B T ns (t :: own) t)/\(∀c p,r=.error (c,p)->∃v,e=.returned v/\aS w' v E c p)/\Fr B w w'
theorem Tr.blk{w:World}{B T:Nat}{ns:List Tn}{own:List Nat}{now:Nat}(h:Tr w B T ns own now):(∃cs,w.heap[T]?=some (.cells cs 129 (0,0)))/\B<=T:=by
 obtain⟨N,c,M,xs,ks,hD⟩:=h;exact⟨⟨_,hD.blk⟩,hD.bT⟩
theorem Tr.hand{w:World}{B T:Nat}{ns:List Tn}{own:List Nat}{now:Nat}(h:Tr w B T ns own now)(m:Nat):Tr (w.setCell ⟨T,2,none⟩ (.int .i64 (m:Nat))) B T ns own m:=by
 obtain⟨N,c,M,xs,ks,hD⟩:=h;exact⟨N,c,M,xs,ks,hD.hand m⟩
theorem Fr.hand{w w1:World}{B T:Nat}{cs:Array Value}(h:Fr B w w1)(hT:w1.heap[T]?=some (.cells cs 129 (0,0)))(hB:B<=T)(v:Value):Fr B w (w1.setCell ⟨T,2,none⟩ v):=h.two (Fr.row (iq w1 T 2 v) (Nat.le_of_lt (Nat.lt_of_le_of_lt hB (aA hT))) hB hT (Or.inl rfl))
theorem Tr.two{w:World}{B T:Nat}{ns:List Tn}{own:List Nat}{now:Nat}(h:Tr w B T ns own now):w.cell? ⟨T,2,none⟩=some (.int .i64 (now:Nat))/\w.frozen? ⟨T,2,none⟩=false:=by
 obtain⟨N,c,M,xs,ks,hD⟩:=h;obtain⟨-,-,h2,h3⟩:=hD.cells;exact⟨h2,h3 2⟩
theorem aap(B T:Nat)(ns:List Tn)(own:List Nat)(now:Nat)(E:Int->TypeId × Value)(l:List (List UInt8 × Nat))(many:Bool)(g c d:Nat)(w:World)(h:Tr w B T ns own now)(J:Jt ns own 0)(hl:l.length=d+1)(hc:d+1<=c)(hK:KyR w g l)(hsz:ns.length+own.length+d<=800000)(hk:∀x∈l,x.1.length<=1048576)(he:Es w E)(hL:Lo B) :
  Calls prog 149 #[.pointer (some ⟨T,0,none⟩),.slice (some ⟨g,0,none⟩) (d+1) c,.bool many] w (RD B T own E (way many own l 0 ns) w):=by
 have CP:Hd (∀(m:List Tn) (t i:Nat) (hi:i<l.length) w',Tr w' B T m own now->Jt m own t->m.length<=ns.length+d->Fr B w w'->Calls prog 190 #[.pointer (some ⟨T,0,none⟩),.int .i64 (t:Nat),.agg #[.string ⟨l[i].1.toArray⟩,.int .i64 (l[i].2:Nat)]] w' (Jw B T own now E (fD m t l[i].1 l[i].2) w')):=fun m t i hi w' h1 j hm hf=>Y0 B T m own now t E l[i].1 l[i].2 w' h1 j.wf j.wt j.lt j.kd (by omega) (hk _ (List.getElem_mem hi)) (he.bel hL hf.bel)
 have CT:Hd (∀(m:List Tn) (t i:Nat) (hi:i<l.length) w',Tr w' B T m own now->Jt m own t->m.length<=ns.length+d->Fr B w w'->Calls prog 192 #[.pointer (some ⟨T,0,none⟩),.int .i64 (t:Nat),.agg #[.string ⟨l[i].1.toArray⟩,.int .i64 (l[i].2:Nat)]] w' (yY B T own now E (fJ m own t l[i].1 l[i].2) w')):=fun m t i hi w' h1 j hm hf=>aal B T m own now t E l[i].1 l[i].2 w' h1 j.wf j.lt j.kd (by omega) (hk _ (List.getElem_mem hi)) (he.bel hL hf.bel)
 have CL:Hd (∀(m:List Tn) (t i:Nat) (hi:i<l.length) w',Tr w' B T m own now->Jt m own t->m.length<=ns.length+d->Fr B w w'->Calls prog 191 #[.pointer (some ⟨T,0,none⟩),.int .i64 (t:Nat),.agg #[.string ⟨l[i].1.toArray⟩,.int .i64 (l[i].2:Nat)]] w' (yY B T own now E (fK m t l[i].1 l[i].2) w')):=fun m t i hi w' h1 j hm hf=>aao B T m own now t E l[i].1 l[i].2 w' h1 j.wf j.lt j.kd (by omega) (hk _ (List.getElem_mem hi)) (he.bel hL hf.bel)
 have hwd:wrap64 (d:Int)=(d:Int):=QN d (by omega);have hwd2:(wrap64 (d:Int)).toNat=d:=by rw[hwd];exact Int.toNat_natCast d
 have mJ:Hd (Tr w B T ns own now):=h;have HB:Hd (B<=w.heap.size):=h.base;have HJ:Hd (Jt ns own 0):=J;have HK:Hd (KyR w g l):=hK;have HL:Hd (l.length=d+1):=hl;have HW1:Hd (∀i (hi:i<l.length) t m,i+1<l.length->way many own (l.drop i) t m=match fD m t l[i].1 l[i].2 with | .error e=>.error e | .ok (t1,ns1)=>way many own (l.drop (i+1)) t1 ns1):=fun i hi t m h2=>by
  rw[List.drop_eq_getElem_cons hi,List.drop_eq_getElem_cons h2];exact Aj many own l[i].1 l[i].2 l[i+1] _ t m
 have HW0:Hd (∀i (hi:i<l.length) t m,i+1=l.length->way many own (l.drop i) t m=if many=true then fK m t l[i].1 l[i].2 else fJ m own t l[i].1 l[i].2):=fun i hi t m h2=>by
  rw[List.drop_eq_getElem_cons hi,List.drop_eq_nil_of_le (by omega)];exact Ai many own l[i].1 l[i].2 t m
 obtain⟨S,hS⟩:=zN (way many own l 0 ns);have HS:Hd (way many own l 0 ns=S):=hS;rw[hS];clear h J hK he hk hS hl;go_enter func149,ntmps149;go_wp2;go_loopw [8,21] (fun v8 v21 wr=>∃(i t:Nat) (m:List Tn),v21=.int .i64 (i:Nat)/\v8=.int .i64 (t:Nat)/\i<=d/\Jt m own t/\Tr wr B T m own now/\way many own (l.drop i) t m=S/\m.length<=ns.length+i/\Fr B w wr) (fun _ v21 _=>d-(intOf v21).toNat)
 case atStart=>exact⟨0,0,ns,rfl,rfl,Nat.zero_le _,HJ.o,mJ.o,HS.o,Nat.le_refl _,Fr.gb (ak w none) HB.o⟩
 case round =>
  obtain⟨i,t,m,rfl,rfl,hi,hj,htr,fV,hml,hfr⟩:=hrel;have HJm:Hd (Jt m own t):=hj;have RF:Hd (Tr wr B T m own now):=htr;have sD:Hd (Fr B w wr):=hfr;have hil:i<l.length:=by have:=HL.o;omega
  obtain⟨a1,a2⟩:=(HK.o.fr hfr).at i hil
  by_cases hlt:i<d
  ·rw[HW1.o i hil t m (by have:=HL.o;omega)]at fV;have vN:Hd ((match fD m t l[i].1 l[i].2 with | .error e=>.error e | .ok (t1,ns1)=>way many own (l.drop (i+1)) t1 ns1)=S):=fV;have uh:Hd (∀w',Tr w' B T m own now->Fr B w w'->Calls prog 190 #[.pointer (some ⟨T,0,none⟩),.int .i64 (t:Nat),.agg #[.string ⟨l[i].1.toArray⟩,.int .i64 (l[i].2:Nat)]] w' (Jw B T own now E (fD m t l[i].1 l[i].2) w')):=fun w' h1 h2=>CP.o m t i hil w' h1 hj (by omega) h2
   have HST:Hd (∀t1 m1,fD m t l[i].1 l[i].2=.ok (t1,m1)->Jt m1 own t1/\m.length<=m1.length/\m1.length<=m.length+1):=fun t1 m1 hs=>Ah hj hs
   obtain⟨x,hx⟩:=zN (l[i]);rw[hx]at a1 a2 uh vN HST;obtain⟨R,hR⟩:=zN (fD m t x.1 x.2);rw[hR]at uh vN HST;have hgA:wr.grownBy (wr.alloc (.cells #[.string ⟨x.1.toArray⟩,.int .i64 (x.2:Nat)] 213)) none:=World.grownBy_alloc wr _ none;have HTA:Hd (Tr (wr.alloc (.cells #[.string ⟨x.1.toArray⟩,.int .i64 (x.2:Nat)] 213)) B T m own now):=htr.gb hgA;have bH:Hd (Fr B w (wr.alloc (.cells #[.string ⟨x.1.toArray⟩,.int .i64 (x.2:Nat)] 213))):=hfr.two (Fr.gb hgA htr.base);clear hj htr fV hfr hx hR hgA;go_wp2_with (go_at_call 190;refine(uh.o _ HTA.o bH.o).mono ?_);rintro e w2 ⟨p1,p2,p3⟩;have HF2:Hd (Fr B w w2):=bH.o.two p3
   cases R with
   | error ec =>
    obtain⟨ec1,ec2⟩:=ec;obtain⟨v,rfl,F,rfl,hF⟩:=p2 ec1 ec2 rfl;have dS:Hd (aS w2 (.iface 130 (.pointer (some ⟨F,0,none⟩))) E ec1 ec2):=⟨F,rfl,hF⟩;have az:Hd (S=.error (ec1,ec2)):=vN.o.symm;clear p1 p2 p3 hF;go_wp2;refine bodyPost_ret (results_tmp (t:=6) rfl _ _ _) rfl ?_;rw[az.o];exact⟨fun t ns hh=>(by cases hh),fun c p hh=>(by cases hh;exact⟨_,rfl,dS.o⟩),HF2.o⟩
   | ok tm =>
    obtain⟨t1,m1⟩:=tm;obtain⟨rfl,ht1⟩:=p1 t1 m1 rfl;have HT1:Hd (Tr w2 B T m1 own now):=ht1;obtain⟨j1,-,j3⟩:=HST.o t1 m1 rfl;have qL:Hd (Jt m1 own t1):=j1;have az:Hd (way many own (l.drop (i+1)) t1 m1=S):=vN.o;clear p1 p2 p3 ht1 j1;go_wp2;go_roundw
    case rel=>exact⟨i+1,t1,m1,by go_num,rfl,by omega,qL.o,HT1.o,az.o,by omega,HF2.o⟩
    case measure=>simp[intOf];omega
  ·have hid:i=d:=by omega
   subst hid;rw[HW0.o i hil t m (by have:=HL.o;omega)]at fV;have vN:Hd ((if many=true then fK m t l[i].1 l[i].2 else fJ m own t l[i].1 l[i].2)=S):=fV;have Ko:Hd (∀w',Tr w' B T m own now->Fr B w w'->Calls prog 192 #[.pointer (some ⟨T,0,none⟩),.int .i64 (t:Nat),.agg #[.string ⟨l[i].1.toArray⟩,.int .i64 (l[i].2:Nat)]] w' (yY B T own now E (fJ m own t l[i].1 l[i].2) w')):=fun w' h1 h2=>CT.o m t i hil w' h1 hj (by omega) h2
   have lN:Hd (∀w',Tr w' B T m own now->Fr B w w'->Calls prog 191 #[.pointer (some ⟨T,0,none⟩),.int .i64 (t:Nat),.agg #[.string ⟨l[i].1.toArray⟩,.int .i64 (l[i].2:Nat)]] w' (yY B T own now E (fK m t l[i].1 l[i].2) w')):=fun w' h1 h2=>CL.o m t i hil w' h1 hj (by omega) h2
   obtain⟨x,hx⟩:=zN (l[i]);rw[hx]at a1 a2 Ko lN vN;obtain⟨⟨csT,oD⟩,hBT⟩:=htr.blk;clear hj htr fV hfr hx oD
   cases many with
   | true =>
    have xO:Hd (fK m t x.1 x.2=S):=vN.o;obtain⟨R,hR⟩:=zN (fK m t x.1 x.2);rw[hR]at lN xO;clear hR;go_wp2_with (go_at_call 191;refine(lN.o _ RF.o sD.o).mono ?_);rintro e w2 ⟨p1,p2,p3⟩;have HF2:Hd (Fr B w w2):=sD.o.two p3
    cases R with
    | error ec =>
     obtain⟨ec1,ec2⟩:=ec;obtain⟨v,rfl,⟨F,rfl,hF⟩,ns0,htr0⟩:=p2 ec1 ec2 rfl;have dS:Hd (aS w2 (.iface 130 (.pointer (some ⟨F,0,none⟩))) E ec1 ec2):=⟨F,rfl,hF⟩;obtain⟨⟨csT,oD⟩,-⟩:=htr0.blk;have nK:Hd (w2.heap[T]?=some (.cells csT 129 (0,0))):=oD;obtain⟨c2,f2⟩:=htr0.two;have az:Hd (S=.error (ec1,ec2)):=xO.o.symm;clear p1 p2 p3 hF oD htr0;go_wp2;refine bodyPost_ret (results_tmp (t:=6) rfl _ _ _) rfl ?_;rw[az.o];exact⟨fun t ns hh=>(by cases hh),fun c p hh=>(by cases hh;exact⟨_,rfl,Rz dS.o nK.o⟩),HF2.o.hand nK.o hBT _⟩
    | ok tm =>
     obtain⟨t1,m1⟩:=tm;obtain⟨rfl,ht1⟩:=p1 t1 m1 rfl;have HT1:Hd (Tr w2 B T m1 (t1 :: own) now):=ht1;obtain⟨⟨csT,oD⟩,-⟩:=ht1.blk;have nK:Hd (w2.heap[T]?=some (.cells csT 129 (0,0))):=oD;obtain⟨c2,f2⟩:=ht1.two;have az:Hd (S=.ok (t1,m1)):=xO.o.symm;clear p1 p2 p3 ht1 oD;go_wp2;refine bodyPost_ret (results_tmp (t:=6) rfl _ _ _) rfl ?_;rw[az.o];exact⟨fun t ns hh=>(by cases hh;exact⟨rfl,HT1.o.hand t1⟩),fun c p hh=>(by cases hh),HF2.o.hand nK.o hBT _⟩
   | false =>
    have xO:Hd (fJ m own t x.1 x.2=S):=vN.o;obtain⟨R,hR⟩:=zN (fJ m own t x.1 x.2);rw[hR]at Ko xO;clear hR;go_wp2_with (go_at_call 192;refine(Ko.o _ RF.o sD.o).mono ?_);rintro e w2 ⟨p1,p2,p3⟩;have HF2:Hd (Fr B w w2):=sD.o.two p3
    cases R with
    | error ec =>
     obtain⟨ec1,ec2⟩:=ec;obtain⟨v,rfl,⟨F,rfl,hF⟩,ns0,htr0⟩:=p2 ec1 ec2 rfl;have dS:Hd (aS w2 (.iface 130 (.pointer (some ⟨F,0,none⟩))) E ec1 ec2):=⟨F,rfl,hF⟩;obtain⟨⟨csT,oD⟩,-⟩:=htr0.blk;have nK:Hd (w2.heap[T]?=some (.cells csT 129 (0,0))):=oD;obtain⟨c2,f2⟩:=htr0.two;have az:Hd (S=.error (ec1,ec2)):=xO.o.symm;clear p1 p2 p3 hF oD htr0;go_wp2;refine bodyPost_ret (results_tmp (t:=6) rfl _ _ _) rfl ?_;rw[az.o];exact⟨fun t ns hh=>(by cases hh),fun c p hh=>(by cases hh;exact⟨_,rfl,Rz dS.o nK.o⟩),HF2.o.hand nK.o hBT _⟩
    | ok tm =>
     obtain⟨t1,m1⟩:=tm;obtain⟨rfl,ht1⟩:=p1 t1 m1 rfl;have HT1:Hd (Tr w2 B T m1 (t1 :: own) now):=ht1;obtain⟨⟨csT,oD⟩,-⟩:=ht1.blk;have nK:Hd (w2.heap[T]?=some (.cells csT 129 (0,0))):=oD;obtain⟨c2,f2⟩:=ht1.two;have az:Hd (S=.ok (t1,m1)):=xO.o.symm;clear p1 p2 p3 ht1 oD;go_wp2;refine bodyPost_ret (results_tmp (t:=6) rfl _ _ _) rfl ?_;rw[az.o];exact⟨fun t ns hh=>(by cases hh;exact⟨rfl,HT1.o.hand t1⟩),fun c p hh=>(by cases hh),HF2.o.hand nK.o hBT _⟩
open Go.RowKit Go.Maps Go.WideMaps Go.Joins
structure Gl(w:World)(B:Nat)(E:Int->TypeId × Value):Prop where
 es:Es w E
 lo:Lo B
 tabs:Lib.Utf8Tabs 10 11 w
 t3:10<B
 t4:11<B
theorem Gl.bel{w w':World}{B:Nat}{E:Int->TypeId × Value}(h:Gl w B E)(hb:Below B w w'):Gl w' B E :=
 ⟨h.es.bel h.lo hb,h.lo,⟨fun c hc=>(xN hb _ h.t3).trans (h.tabs.1 c hc),fun i hi=>⟨(xN hb _ h.t4).trans (h.tabs.2 i hi).1,(xN hb _ h.t4).trans (h.tabs.2 i hi).2⟩⟩,h.t3,h.t4⟩
theorem jM{w w':World}{B R:Nat}(hg:w.grownBy w' (some R))(hR:B<=R)(hB:B<=w.heap.size):Below B w w':=⟨hg.os,hg.tape,hg.output,hg.size,fun k hk=>hg.block k (by omega) (by simp;omega)⟩
theorem Gl.gb{w w':World}{B R:Nat}{E:Int->TypeId × Value}(h:Gl w B E)(hg:w.grownBy w' (some R))(hR:B<=R)(hB:B<=w.heap.size):Gl w' B E:=h.bel (jM hg hR hB)
theorem zg{B R:Nat}(h:Lo B)(hR:B<=R):Far R:=⟨by have:=h.te;omega,by have:=h.ra;omega,by have:=h.ma;omega,by have:=h.tw;omega⟩
theorem vO{w W:World}{r:Option Nat}{b:Nat}(h:w.grownBy W r)(hb:w.heap.size<=b)(o:Nat)(v:Value):w.grownBy (W.setCell ⟨b,o,none⟩ v) r :=
 ⟨h.os,h.tape,h.output,by have:=h.size;simpa [World.setCell] using this,fun k hk hn=>(heap_setCell_other _ _ _ _ (by simp;omega)).trans (h.block k hk hn)⟩
theorem FU{P:Program}{fn:Func}{p u:Tmp}{ty:TypeId}(h:fn.results=#[.cell p ty,.tmp u])(tmps:Array Value)(w:World)(g:Nat)(t:TypeId)(cs:Array Value)(fr:Nat × Nat)(d:TypeDesc)
  (hp:tmps.getD p undef=.pointer (some ⟨g,0,none⟩)) (hg:w.heap[g]?=some (.cells cs t fr))
  (hu:P.underlying ty=some d) (hd:(match d with | .struct _ | .array _ _=>true|_=>false)=true) (hi:(P.info? ty).map (·.size)=some cs.size) :
  (results fn tmps).run P w=.ok (.tuple #[.agg cs,tmps.getD u undef]) w:=by
 have hp':tmps[p]?.getD undef=.pointer (some ⟨g,0,none⟩):=by simpa using hp
 rw[results_cell_tmp h];simp[hp',asAddr,run_loadVar_row w g t ty cs fr d hg hu hd hi,Result.andThen]
def FV(R:Nat)(s:ByteArray)(T:Nat)(E:Int->TypeId × Value)(i:Nat)(g:Rs (List UInt8 × Nat))(w:World)(e:Ending)(w':World):Prop :=
 (∀k j,g=.ok (k,j)->e=.returned (.tuple #[.agg #[.string ⟨k.toArray⟩,.int .i64 (i:Nat)],.nilIface])/\Rd w' R s j T)/\(∀c p,g=.error (c,p)->∃(a:ByteArray) (b:Int) (v:Value),e=.returned (.tuple #[.agg #[.string a,.int .i64 b],v])/\aS w' v E c p)/\w.grownBy w' (some R)
theorem FW{w:World}{v:Value}{E:Int->TypeId × Value}{c:Int}{p Z o:Nat}{cs:Array Value}{x:Value}(h:aS w v E c p)(hZ:w.heap[Z]?=some (.cells cs 213 (0,0))):aS (w.setCell ⟨Z,o,none⟩ x) v E c p:=by
 obtain⟨F,h1,h2⟩:=h;exact⟨F,h1,(heap_setCell_other _ _ _ _ (aP h2 hZ (by decide))).trans h2⟩
theorem Rd.new{w:World}{R:Nat}{s:ByteArray}{i T Z o:Nat}{cs:Array Value}{x:Value}(h:Rd w R s i T)(hZ:w.heap[Z]?=some (.cells cs 213 (0,0))):Rd (w.setCell ⟨Z,o,none⟩ x) R s i T:=(heap_setCell_other _ _ _ _ (aP h hZ (by decide))).trans h
theorem FX{w:World}{Z:Nat}{a b x y:Value}(h:w.heap[Z]?=some (.cells #[a,b] 213 (0,0))):((w.setCell ⟨Z,0,none⟩ x).setCell ⟨Z,1,none⟩ y).heap[Z]?=some (.cells #[x,y] 213 (0,0)):=block_setCell (i:=1) (block_setCell (i:=0) h x) y
theorem RG(R:Nat)(s:ByteArray)(i T B:Nat)(E:Int->TypeId × Value)(w:World)(h:Rd w R s i T)(hi:i<=s.size)(hs:s.size<=1048576)(G:Gl w B E)(hR:B<=R)(hBw:B<=w.heap.size) :
  Calls prog 152 #[.pointer (some ⟨R,0,none⟩)] w (FV R s T E i (bW s.data.toList i) w):=by
 have CN:Hd (∀k w,Rd w R s k T->k<=s.size->Calls prog 104 #[.pointer (some ⟨R,0,none⟩)] w fun e w'=>e=.returned (.int .i64 (nx s.data.toList k))/\w.grownBy w' none):=fun k w h1 h2=>l7 R s k T w h1 h2 hs
 have CB:Hd (∀c w,Calls prog 106 #[.int .i64 c] w fun e w'=>e=.returned (.bool (aN c))/\w'=w):=Pg;have CH:Hd (∀k w',w.grownBy w' (some R)->Rd w' R s k T->Calls prog 156 #[.pointer (some ⟨R,0,none⟩)] w' fun e w''=>(∃v,e=.returned v/\aS w'' v E 2 k)/\w'.grownBy w'' none):=fun k w' hg hr=>(uS R s k T (E 2).1 (E 2).2 w' hr (G.gb hg hR hBw).es.te).mono fun e w'' h=>h
 have CQ:Hd (i<s.size->∀w',w.grownBy w' (some R)->Rd w' R s i T->Calls prog 193 #[.pointer (some ⟨R,0,none⟩)] w' (Fe R s T E (str s.data.toList (s.data.toList.length+1) (i+1) []) w')):=fun hlt w' hg hr=>QR R s i T E w' hr hlt hs (G.gb hg hR hBw).es (zg G.lo hR) (G.gb hg hR hBw).tabs (by have:=G.t3;omega) (by have:=G.t4;omega)
 have CC:Hd (∀(t:ByteArray) w,t.size<=1048576->Calls prog 194 #[.string t] w fun e w'=>e=.returned (.string t)/\w.grownBy w' none):=fun t w ht=>clone_any t w (by omega)
 have hl:s.data.toList.length=s.size:=by simp
 have RH:Hd (nx s.data.toList i=34->i<s.size):=fun hx=>by
  have:=bu (l:=s.data.toList) (i:=i) (by rw[hx];decide);omega
 have HST:Hd (∀k,k<s.size->aN (nx s.data.toList k)=true->toR aN s.data.toList k=toR aN s.data.toList (k+1)):=fun k hk hb=>ql aN _ k (by omega) hb
 have jH:Hd (∀k,aN (nx s.data.toList k)=false->toR aN s.data.toList k=k):=fun k hb=>lG aN _ k hb
 have cZ:Hd (∀k,k<=s.size->aN (nx s.data.toList k)=true->k<s.size):=fun k hk hb=>by
  apply Classical.byContradiction;intro hn;rw[ji _ _ (by omega)]at hb;exact absurd hb (by decide)
 have jX:Hd (bW s.data.toList i=if nx s.data.toList i=34 then str s.data.toList (s.data.toList.length+1) (i+1) [] else if toR aN s.data.toList i=i then .error (2,i) else .ok (ag s.data.toList i (toR aN s.data.toList i-i),toR aN s.data.toList i)):=rfl;have hij:=oQ aN s.data.toList i (by omega);rw[hl]at hij;obtain⟨J,hJ⟩:=zN (toR aN s.data.toList i);have HJ:Hd (toR aN s.data.toList i=J):=hJ;rw[hJ]at jX hij;obtain⟨hij1,hij2⟩:=hij;obtain⟨X,hX⟩:∃X:ByteArray,X=⟨(ag s.data.toList i (J-i)).toArray⟩:=⟨_,rfl⟩;have s1:∀wx,(Instr.slice 9 (.string s) (some (.int .i64 (i:Int))) (some (.int .i64 (J:Int))) none).run prog wx=.ok (.string X) wx:=fun wx=>by rw[hX];exact kS s i J hij1 hij2 wx
 have tJ:Hd (X=⟨(ag s.data.toList i (J-i)).toArray⟩):=hX;have HXS:Hd (X.size<=1048576):=by
  show _<=_;rw[hX];show(ag s.data.toList i (J-i)).toArray.size<=_;unfold ag;simp;omega
 obtain⟨SQ,Bz⟩:=zN (str s.data.toList (s.data.toList.length+1) (i+1) []);rw[Bz]at CQ jX;obtain⟨G0,hG0⟩:=zN (bW s.data.toList i);rw[hG0]at jX ⊢;have Kq:w.grownBy (w.alloc (.cells #[.string ⟨#[]⟩,.int .i64 0] 213)) (some R):=World.grownBy_alloc w _ _;have Kr:w.grownBy (w.alloc (.cells #[.string ⟨#[]⟩,.int .i64 0] 213)) none:=World.grownBy_alloc w _ _;have BA:=heap_alloc_new w (.cells #[.string ⟨#[]⟩,.int .i64 0] 213);obtain⟨Z,hZ⟩:=zN (w.heap.size);rw[hZ]at BA;obtain⟨w1,hw1⟩:=zN (w.alloc (.cells #[.string ⟨#[]⟩,.int .i64 0] 213));rw[hw1]at Kq Kr BA;have ay:Hd (w.grownBy w1 (some R)):=Kq;have HZ1:Hd (w1.heap[Z]?=some (.cells #[.string ⟨#[]⟩,.int .i64 0] 213 (0,0))):=BA;have H1:Hd (Rd w1 R s i T):=h.grow Kr;have RI:Hd (¬Z=R):=aP BA H1.o (by decide);obtain⟨c0,c1,-,-⟩:=H1.o.cells;have C1:Hd (Calls prog 104 #[.pointer (some ⟨R,0,none⟩)] w1 fun e w'=>e=.returned (.int .i64 (nx s.data.toList i))/\w1.grownBy w' none):=CN.o i w1 H1.o hi
 obtain⟨x,hx⟩:=zN (nx s.data.toList i);rw[hx]at C1 jX RH;have vP:Hd (w.heap.size<=Z):=by show _<=_;omega
 clear h hJ hX Bz hG0 Kq Kr BA hx G;go_enter func152,ntmps152;go_wp2_with (go_at_call 104;refine C1.o.mono ?_);rintro e w2 ⟨rfl,hg2⟩;have HG2:Hd (w.grownBy w2 (some R)):=aF ay.o hg2;have HR2:Hd (Rd w2 R s i T):=H1.o.grow hg2;have HZ2:Hd (w2.heap[Z]?=some (.cells #[.string ⟨#[]⟩,.int .i64 0] 213 (0,0))):=jf HZ1.o hg2;clear hg2 c0 c1
 by_cases hx34:x=34
 ·have hb:(x == 34)=true:=by simp[hx34]
  have hil:=RH.o hx34;have rM:Hd (G0=SQ):=by show _=_;rw[jX.o,if_pos hx34]
  clear hx34;go_wp2_with (go_at_call 193;refine(CQ.o hil _ HG2.o HR2.o).mono ?_);rintro e w3 ⟨p1,p2,p3⟩;have aO:Hd (w.grownBy w3 (some R)):=dH HG2.o p3;have hZ3:w3.heap[Z]?=some (.cells #[.string ⟨#[]⟩,.int .i64 0] 213 (0,0)):=(p3.block Z (aA HZ2.o) (by simp only[ne_eq,Option.some.injEq];exact RI.o)).trans HZ2.o;have HZ3:Hd (w3.heap[Z]?=some (.cells #[.string ⟨#[]⟩,.int .i64 0] 213 (0,0))):=hZ3;obtain⟨z0,z1,zf⟩:=gW hZ3;have zf0:=zf 0;have zf1:=zf 1
  cases SQ with
  | error ec =>
   obtain⟨ec1,ec2⟩:=ec;obtain⟨v,rfl,hv,-⟩:=p2 ec1 ec2 rfl;have dS:Hd (aS w3 v E ec1 ec2):=hv;clear p1 p2 p3 hv hZ3 zf;go_wp2;refine bodyPost_ret (FU rfl _ _ Z 213 #[.string ⟨#[]⟩,.int .i64 (i:Nat)] (0,0) _ rfl (FX HZ3.o) underlying213 rfl (by kernel_rfl)) rfl ?_;rw[rM.o];exact⟨fun k j hh=>(by cases hh),fun c p hh=>(by cases hh;exact⟨_,_,v,rfl,FW (FW dS.o HZ3.o) (block_setCell (i:=0) HZ3.o _)⟩),vO (vO aO.o vP.o 0 _) vP.o 1 _⟩
  | ok q =>
   obtain⟨tx,j⟩:=q;obtain⟨rfl,hr3⟩:=p1 tx j rfl;have HR3:Hd (Rd w3 R s j T):=hr3;clear p1 p2 p3 hr3 hZ3 zf;go_wp2;refine bodyPost_ret (FU rfl _ _ Z 213 #[.string ⟨tx.toArray⟩,.int .i64 (i:Nat)] (0,0) _ rfl (FX HZ3.o) underlying213 rfl (by kernel_rfl)) rfl ?_;rw[rM.o];exact⟨fun k j hh=>(by cases hh;exact⟨rfl,(HR3.o.new HZ3.o).new (block_setCell (i:=0) HZ3.o _)⟩),fun c p hh=>(by cases hh),vO (vO aO.o vP.o 0 _) vP.o 1 _⟩
 ·have hb:(x == 34)=false:=by simp[hx34]
  have rM:Hd (G0=if J=i then .error (2,i) else .ok (ag s.data.toList i (J-i),J)):=by show _=_;rw[jX.o,if_neg hx34]
  clear hx34;go_wp2;go_loopw [] (fun wr=>∃k:Nat,Rd wr R s k T/\k<=s.size/\toR aN s.data.toList k=J/\w.grownBy wr (some R)/\wr.heap[Z]?=some (.cells #[.string ⟨#[]⟩,.int .i64 0] 213 (0,0))) (fun wr=>s.size-(match wr.cell? ⟨R,1,none⟩ with|some (.int _ k)=>k.toNat|_=>0))
  case atStart=>exact⟨i,HR2.o,hi,HJ.o,HG2.o,HZ2.o⟩
  case round =>
   obtain⟨k,hrd,hk,hbl,hg,RJ⟩:=hrel;have dG:Hd (Rd wr R s k T):=hrd;have fP:Hd (toR aN s.data.toList k=J):=hbl;have HG:Hd (w.grownBy wr (some R)):=hg;have RN:Hd (wr.heap[Z]?=some (.cells #[.string ⟨#[]⟩,.int .i64 0] 213 (0,0))):=RJ;have Ck:Hd (Calls prog 104 #[.pointer (some ⟨R,0,none⟩)] wr fun e w'=>e=.returned (.int .i64 (nx s.data.toList k))/\wr.grownBy w' none):=CN.o k wr hrd hk;have gI:Hd ((match wr.cell? ⟨R,1,none⟩ with|some (.int _ k)=>k.toNat|_=>0)=k):=by show _=_;rw[hrd.cells.2.1];simp
   have eH:Hd (aN (nx s.data.toList k)=true->toR aN s.data.toList k=toR aN s.data.toList (k+1)):=fun hb=>HST.o k (cZ.o k hk hb) hb
   have HS2:Hd (aN (nx s.data.toList k)=false->toR aN s.data.toList k=k):=jH.o k;have HL2:Hd (aN (nx s.data.toList k)=true->k<s.size):=cZ.o k hk;obtain⟨c,hc⟩:=zN (nx s.data.toList k);rw[hc]at Ck eH HS2 HL2;have iU:Hd (∀w,Calls prog 106 #[.int .i64 c] w fun e w'=>e=.returned (.bool (aN c))/\w'=w):=fun w=>CB.o c w
   obtain⟨b,hb⟩:=zN (aN c);rw[hb]at iU eH HS2 HL2;clear hrd hbl hg RJ hc hb
   cases b with
   | true =>
    have hkl:k<s.size:=HL2.o (by trivial);have HN:Hd (toR aN s.data.toList (k+1)=J):=(eH.o (by trivial)).symm.trans fP.o;go_wp2_with (first|(go_at_call 104;refine Ck.o.mono ?_;rintro e w3 ⟨rfl,hg3⟩;obtain⟨-,d1,-,df⟩:=(dG.o.grow hg3).cells;have df1:=df 1)|(go_at_call 106;refine(iU.o _).mono ?_;rintro e w' ⟨rfl,rfl⟩));have jW:Hd (Rd (w'.setCell ⟨R,1,none⟩ (.int .i64 ((k:Int)+1))) R s (k+1) T):=(dG.o.grow hg3).set (k+1);refine⟨⟨k+1,jW.o,by omega,HN.o,aV (aF HG.o hg3) 1 _,(heap_setCell_other _ _ _ _ (by simp only[];exact RI.o)).trans (jf RN.o hg3)⟩,?_⟩;rw[gI.o,jW.o.cells.2.1];simp;omega
   | false =>
    have xk:Hd (k=J):=(HS2.o (by trivial)).symm.trans fP.o;go_wp2_with (go_at_call 104;refine Ck.o.mono ?_);rintro e w3 rfl hg3;have HR3:Hd (Rd w3 R s J T):=by rw[<-xk.o];exact dG.o.grow hg3
    have aO:Hd (w.grownBy w3 (some R)):=aF HG.o hg3;have HZ3:Hd (w3.heap[Z]?=some (.cells #[.string ⟨#[]⟩,.int .i64 0] 213 (0,0))):=jf RN.o hg3;obtain⟨d0,d1,-,-⟩:=HR3.o.cells;clear hg3
    by_cases hJi:J=i
    ·have hbj:((J:Int) == (i:Int))=true:=by simp[hJi]
     have gu:Hd (G0=.error (2,J)):=by show _=_;rw[rM.o,if_pos hJi,hJi]
     have uT:Hd (Calls prog 156 #[.pointer (some ⟨R,0,none⟩)] w3 fun e w''=>(∃v,e=.returned v/\aS w'' v E 2 J)/\w3.grownBy w'' none):=CH.o J _ aO.o HR3.o;clear hJi;go_wp2_with (first|(go_at_call 106;refine(iU.o _).mono ?_;rintro e w' ⟨rfl,rfl⟩)|(go_at_call 156;refine uT.o.mono ?_;rintro e w4 ⟨⟨v,rfl,hv⟩,hg4⟩;obtain⟨z0,z1,zf⟩:=gW (jf HZ3.o hg4);have zf0:=zf 0;have zf1:=zf 1));have xP:=jf HZ3.o hg4;refine bodyPost_ret (FU rfl _ _ Z 213 #[.string ⟨#[]⟩,.int .i64 0] (0,0) _ rfl (FX xP) underlying213 rfl (by kernel_rfl)) rfl ?_;rw[gu.o];exact⟨fun k j hh=>(by cases hh),fun c p hh=>(by cases hh;exact⟨_,_,v,rfl,FW (FW hv xP) (block_setCell (i:=0) xP _)⟩),vO (vO (aF aO.o hg4) vP.o 0 _) vP.o 1 _⟩
    ·have hbj:((J:Int) == (i:Int))=false:=by rw[beq_eq_false_iff_ne];omega
     have gu:Hd (G0=.ok (ag s.data.toList i (J-i),J)):=by show _=_;rw[rM.o,if_neg hJi]
     have CC1:Hd (∀w,Calls prog 194 #[.string X] w fun e w'=>e=.returned (.string X)/\w.grownBy w' none):=fun w=>CC.o X w HXS.o
     clear hJi;go_wp2_with (go_at_call 106;refine(iU.o _).mono ?_;rintro e w' ⟨rfl,rfl⟩);go_region_with (first|(go_at_call 194;refine(CC1.o _).mono ?_;rintro e w6 ⟨rfl,eu⟩;have nC:w'.grownBy w6 none:=⟨eu.os,eu.tape,eu.output,eu.size,eu.block⟩;obtain⟨z0,z1,zf⟩:=gW (jf HZ3.o nC);have zf0:=zf 0;have zf1:=zf 1))
     all_goals (
      have xP:=jf HZ3.o nC;go_wp2;refine bodyPost_ret (FU rfl _ _ Z 213 #[.string X,.int .i64 (i:Nat)] (0,0) _ rfl (FX xP) underlying213 rfl (by kernel_rfl)) rfl ?_;rw[gu.o];exact⟨fun k j hh=>(by cases hh;rw[<-tJ.o];exact⟨rfl,((HR3.o.grow nC).new xP).new (block_setCell (i:=0) xP _)⟩),fun c p hh=>(by cases hh),vO (vO (aF aO.o nC) vP.o 0 _) vP.o 1 _⟩)
open Go.RowKit Go.Maps Go.WideMaps Go.Joins
theorem Tr.keepR{w w':World}{B T:Nat}{ns:List Tn}{own:List Nat}{now R:Nat}{s:ByteArray}{i T':Nat}(h:Tr w B T ns own now)(hr:Rd w R s i T')(hg:w.grownBy w' (some R)):Tr w' B T ns own now:=by
 obtain⟨N,c,M,xs,ks,hD⟩:=h;exact⟨N,c,M,xs,ks,hD.keeps (YR hr hg)⟩
theorem Rd.fr{w w':World}{R:Nat}{s:ByteArray}{i T B:Nat}(h:Rd w R s i T)(hf:Fr B w w'):Rd w' R s i T:=(hf.oth _ _ _ _ h (by decide) (by decide) (by decide)).trans h
theorem RP(ns:List Tn)(up:Nat)(x:Tn)(h:ns.length<(addN ns up x).length):(addN ns up x)[ns.length]'h=x:=by
 obtain⟨X,h1,h2⟩:=I8 ns up x;have:(addN ns up x)[ns.length]?=some x:=by rw[h2,<-h1];simp
 rw[List.getElem?_eq_getElem h]at this;exact Option.some.inj this
theorem RQ(ns:List Tn)(own:List Nat)(up:Nat)(x y:Tn)(h1:y.kd=x.kd)(h2:y.ky=x.ky)(h3:y.ks=x.ks):hold (addN ns up y) own=hold (addN ns up x) own:=by
 have hl:ns.length<(addN ns up x).length:=by rw[bZ];omega
 have e:=RP ns up x hl;obtain⟨a,b,c⟩:=XM (addN ns up x) ns.length y hl (by rw[e];exact h1) (by rw[e];exact h2) (by rw[e];exact h3);rw[I9]at a b c;exact XN own a b c
theorem Tr.last{w:World}{B T:Nat}{ns:List Tn}{own:List Nat}{now up:Nat}{kd:Int}{k:List UInt8}{p:Nat}(h:Tr w B T (addN ns up ⟨kd,k,[],0,[],p⟩) own now) :
  ∃N cc,w.cell? ⟨T,0,none⟩=some (.slice (some ⟨N,0,none⟩) (ns.length+1) cc)/\(∃cs,w.heap[N]?=some (.cells cs 64 (0,0)))/\B<=N/\w.cell? ⟨N,ns.length*6+2,none⟩=some (.string ⟨#[]⟩)/\w.cell? ⟨N,ns.length*6+3,none⟩=some (.int .i64 0) ∧
   (∀t:List UInt8,Tr (w.setCell ⟨N,ns.length*6+2,none⟩ (.string ⟨t.toArray⟩)) B T (addN ns up ⟨kd,k,t,0,[],p⟩) own now)/\∀v:Int,Tr (w.setCell ⟨N,ns.length*6+3,none⟩ (.int .i64 v)) B T (addN ns up ⟨kd,k,[],v,[],p⟩) own now:=by
 obtain⟨N,c,M,xs,ks,hD⟩:=h;have hl:ns.length<(addN ns up ⟨kd,k,[],0,[],p⟩).length:=by rw[bZ];omega
 have e:=RP ns up ⟨kd,k,[],0,[],p⟩ hl;have hc:=hD.cells.1;rw[bZ]at hc;obtain⟨-,-,n2,n3,-,-,-⟩:=hD.node ns.length hl;rw[e]at n2 n3;refine⟨N,c,hc,hD.rowT,(bn hD.row rfl).1,n2,n3,fun t=>?_,fun v=>?_⟩
 ·refine⟨N,c,M,xs.set (ns.length*6+2) (.string ⟨t.toArray⟩),ks,?_⟩;have h1:=hD.cellSet ns.length 2 (.string ⟨t.toArray⟩) ⟨kd,k,t,0,[],p⟩ hl (by omega) (by omega) (by rw[e]) (fun j u hu=>by
   rw[e]at hu
   by_cases hj:j=2
   ·subst hj;rw[if_pos rfl]at hu;exact hu
   ·rw[if_neg hj]at hu
    match j,hj,hu with
    | 0,_,hu=>exact hu
    | 1,_,hu=>exact hu
    | 3,_,hu=>exact hu
    | 4,_,hu=>exact hu
    | 5,_,hu=>exact hu
    | j+6,_,hu=>simp at hu)
  rw[I9]at h1;rw[RQ ns own up ⟨kd,k,[],0,[],p⟩ ⟨kd,k,t,0,[],p⟩ rfl rfl rfl,bZ,<-bZ ns up ⟨kd,k,[],0,[],p⟩];exact h1
 ·refine⟨N,c,M,xs.set (ns.length*6+3) (.int .i64 v),ks,?_⟩;have h1:=hD.cellSet ns.length 3 (.int .i64 v) ⟨kd,k,[],v,[],p⟩ hl (by omega) (by omega) (by rw[e]) (fun j u hu=>by
   rw[e]at hu
   by_cases hj:j=3
   ·subst hj;rw[if_pos rfl]at hu;exact hu
   ·rw[if_neg hj]at hu
    match j,hj,hu with
    | 0,_,hu=>exact hu
    | 1,_,hu=>exact hu
    | 2,_,hu=>exact hu
    | 4,_,hu=>exact hu
    | 5,_,hu=>exact hu
    | j+6,_,hu=>simp at hu)
  rw[I9]at h1;rw[RQ ns own up ⟨kd,k,[],0,[],p⟩ ⟨kd,k,[],v,[],p⟩ rfl rfl rfl,bZ,<-bZ ns up ⟨kd,k,[],0,[],p⟩];exact h1
theorem Ku{w:World}{v:Value}{E:Int->TypeId × Value}{c:Int}{p N o:Nat}{cs:Array Value}{x:Value}(h:aS w v E c p)(hN:w.heap[N]?=some (.cells cs 64 (0,0))):aS (w.setCell ⟨N,o,none⟩ x) v E c p:=by
 obtain⟨F,h1,h2⟩:=h;exact⟨F,h1,(heap_setCell_other _ _ _ _ (aP h2 hN (by decide))).trans h2⟩
theorem Rd.node{w:World}{R:Nat}{s:ByteArray}{i T N o:Nat}{cs:Array Value}{x:Value}(h:Rd w R s i T)(hN:w.heap[N]?=some (.cells cs 64 (0,0))):Rd (w.setCell ⟨N,o,none⟩ x) R s i T:=(heap_setCell_other _ _ _ _ (aP h hN (by decide))).trans h
theorem vS{w w1:World}{B b:Nat}(h:Below B w w1)(hb:B<=b)(o:Nat)(v:Value):Below B w (w1.setCell ⟨b,o,none⟩ v):=⟨h.os,h.tape,h.output,by have:=h.size;simpa [World.setCell] using this,fun k hk=>(heap_setCell_other _ _ _ _ (by simp;omega)).trans (h.block k hk)⟩
theorem mQ{w w':World}{B:Nat}(hg:w.grownBy w' none)(hB:B<=w.heap.size):Below B w w':=⟨hg.os,hg.tape,hg.output,hg.size,fun k hk=>hg.block k (by omega) (by simp)⟩
def qQ(B R T:Nat)(s:ByteArray)(E:Int->TypeId × Value)(own:List Nat)(now:Nat)(r:Rs (Nat × List Tn))(w:World)(e:Ending)(w':World):Prop :=
 (∀j ns,r=.ok (j,ns)->e=.returned .nilIface/\Rd w' R s j T/\Tr w' B T ns own now)/\(∀c p,r=.error (c,p)->∃v,e=.returned v/\aS w' v E c p)/\Below B w w'
def BB(f:Nat):Prop:=∀(B R T:Nat) (s:ByteArray) (E:Int->TypeId × Value) (own:List Nat) (now i up:Nat) (k:List UInt8) (p d:Nat) (ns:List Tn) (w:World),Rd w R s i T->Tr w B T ns own now->Gl w B E->B<=R->i<=s.size->s.size<=100000->WF ns own->WT ns->up<ns.length->¬aj ns up=2->(aj ns up=0->ah ns up k=none)->k.length<=1048576->d<=8->ns.length+own.length+(s.size-i)<=700000->2*(s.size-i)+1<=f →
 Calls prog 154 #[.pointer (some ⟨R,0,none⟩),.int .i64 (up:Nat),.agg #[.string ⟨k.toArray⟩,.int .i64 (p:Nat)],.int .i64 (d:Nat)] w (qQ B R T s E own now (val s.data.toList f i up k p d ns) w)
def RU(f:Nat):Prop:=∀(B R T:Nat) (s:ByteArray) (E:Int->TypeId × Value) (own:List Nat) (now i up d:Nat) (ns:List Tn) (w:World),Rd w R s i T->Tr w B T ns own now->Gl w B E->B<=R->i<s.size->s.size<=100000->WF ns own->WT ns->up<ns.length->aj ns up=1->d<=8->ns.length+own.length+(s.size-i)<=700001->2*(s.size-i)<=f →
 Calls prog 199 #[.pointer (some ⟨R,0,none⟩),.int .i64 (up:Nat),.int .i64 (d:Nat)] w (qQ B R T s E own now (lst s.data.toList f (i+1) up d ns) w)
end Go.Proofs.YtnnbgjaphfhibaaGreatDoor
