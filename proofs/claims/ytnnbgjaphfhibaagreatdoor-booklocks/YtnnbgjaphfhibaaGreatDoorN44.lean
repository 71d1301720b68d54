import Derived.Test.YtnnbgjaphfhibaaGreatDoorN40
import Derived.Test.YtnnbgjaphfhibaaGreatDoorN13
set_option linter.unusedVariables false
set_option linter.unusedSimpArgs false
set_option maxRecDepth 100000
set_option maxHeartbeats 6400000
open Go.Proofs.Tryz
namespace Go.Proofs.YtnnbgjaphfhibaaGreatDoor
open Go.RowKit Go.Maps Go.WideMaps Go.Joins
section
variable {w0:World} {T D Lb:Nat} {nv:Value} {kv:Nat->Value} {ns:List Tn} {d:Dr} {w w':World} {vt ve vw:Value} {xs:List Value} {vs:Nat->Value}
theorem Dm.size(h:Dm w0 T D Lb nv kv ns d w vt ve vw xs vs):w0.heap.size<=w.heap.size:=Nat.le_of_lt (Nat.lt_of_le_of_lt h.bD (aA h.dra))
theorem Oa{t:TypeId}{s n:Nat}{v:Value}{ys:List Value}(h:Dm w0 T D Lb nv kv ns d w vt ve vw xs vs)(hr:w.ownsRow w0.heap.size t s v n ys)(ht:¬62=t):some D≠v.ownBlock:=fun e=>by
 obtain⟨cc,hcc⟩:=(bn hr e.symm).2;exact aP h.dra hcc ht rfl
theorem sW{t X:TypeId}{s n a:Nat}{v:Value}{ys:List Value}{cs:Array Value}{fz:Nat × Nat}(ha:w.heap[a]?=some (.cells cs X fz))(hr:w.ownsRow w0.heap.size t s v n ys)(ht:¬X=t):some a≠v.ownBlock:=fun e=>by
 obtain⟨cc,hcc⟩:=(bn hr e.symm).2;exact aP ha hcc ht rfl
theorem cells9{w w':World}{a b bx:Nat}{va vb vc v0 v1 v2 v3 v4 v5:Value}(hg:w.grownBy w' none)(h:w.cell? ⟨a,0,none⟩=some va/\w.cell? ⟨b,0,none⟩=some vb/\w.cell? ⟨b,3,none⟩=some vc/\w.cell? ⟨bx,0,none⟩=some v0/\w.cell? ⟨bx,1,none⟩=some v1/\w.cell? ⟨bx,2,none⟩=some v2/\w.cell? ⟨bx,3,none⟩=some v3/\w.cell? ⟨bx,4,none⟩=some v4/\w.cell? ⟨bx,5,none⟩=some v5):w'.cell? ⟨a,0,none⟩=some va/\w'.cell? ⟨b,0,none⟩=some vb/\w'.cell? ⟨b,3,none⟩=some vc/\w'.cell? ⟨bx,0,none⟩=some v0/\w'.cell? ⟨bx,1,none⟩=some v1/\w'.cell? ⟨bx,2,none⟩=some v2/\w'.cell? ⟨bx,3,none⟩=some v3/\w'.cell? ⟨bx,4,none⟩=some v4/\w'.cell? ⟨bx,5,none⟩=some v5 :=
 ⟨hg.cell h.1 (by simp),hg.cell h.2.1 (by simp),hg.cell h.2.2.1 (by simp),hg.cell h.2.2.2.1 (by simp),hg.cell h.2.2.2.2.1 (by simp),hg.cell h.2.2.2.2.2.1 (by simp),hg.cell h.2.2.2.2.2.2.1 (by simp),hg.cell h.2.2.2.2.2.2.2.1 (by simp),hg.cell h.2.2.2.2.2.2.2.2 (by simp)⟩
theorem yu(w:World)(o:Obj):w.grownBy (w.drew.alloc o) none:=by
 have:=World.grownBy_alloc w.drew o none;exact⟨this.os,this.tape,this.output,this.size,this.block⟩
theorem yw{w w3:World}{o:Obj}{r:Option Nat}{b g k:Nat}{cs cg:Array Value}{t tg:TypeId}{fz fg:Nat × Nat}{v:Value}(hb:w.heap[b]?=some (.cells cs t fz))(hg:(w.drew.alloc o).grownBy w3 r)(hne:some b≠r)(hG:w.heap[g]?=some (.cells cg tg fg))(ht:¬t=tg):(w3.setCell ⟨g,k,none⟩ v).heap[b]?=some (.cells cs t fz):=by
 have h1:=(aX (yu w o)).blk hb;have h2:=(hg.block b (aA h1) hne).trans h1;exact(heap_setCell_other _ _ _ _ (aP hb hG ht)).trans h2
theorem Dm.tabs(h:Dm w0 T D Lb nv kv ns d w vt ve vw xs vs)(q:Nat){w1:World}{v':Value}(ho:w1.ownsRow w0.heap.size 64 6 v' (d.tb.length+1) (d.tb.flatMap (nR kv ns)++nR kv ns q))(hg:w.grownBy w1 vt.ownBlock):Dm w0 T D Lb nv kv ns ⟨d.lk,d.fm,d.tb++[q],d.es,d.wt⟩ (w1.setCell ⟨D,2,none⟩ v') v' ve vw xs vs:=by
 have kt:∀t,¬t=64->Kt t w w1:=fun t ht=>yh h.tab hg ht
 have hc:=(kt _ (by decide)).blk h.dra;have k2:∀t,¬t=62->Kt t w1 (w1.setCell ⟨D,2,none⟩ v'):=fun t ht=>iE _ hc ht
 have k3:∀t,¬t=64->¬t=62->Kt t w (w1.setCell ⟨D,2,none⟩ v'):=fun t h1 h2=>(kt t h1).two (k2 t h2)
 have g1:w0.grownBy w1 none:=by
  cases hb:vt.ownBlock with
  | none=>rw[hb]at hg;exact ai h.gb hg
  | some g =>
   rw[hb]at hg;exact mX h.gb hg (bn h.tab hb).1
 refine⟨mX g1 (iq w1 D 2 _) h.bD,(k3 _ (by decide) (by decide)).blk h.tre,block_setCell (i:=2) hc _,h.lok.keep (k3 _ (by decide) (by decide)) ⟨k3 _ (by decide) (by decide),k3 _ (by decide) (by decide),k3 _ (by decide) (by decide)⟩,?_,h.ent.keep (k3 _ (by decide) (by decide)) (k3 _ (by decide) (by decide)),(k3 _ (by decide) (by decide)).row h.wan,h.bD,h.bL⟩;rw[List.length_append,List.flatMap_append];simp only[List.length_cons,List.length_nil,List.flatMap_cons,List.flatMap_nil,List.append_nil];exact(k2 _ (by decide)).row ho
theorem aez{W w3:World}{a bx q tl c2 g cap:Nat}{o2:Option Addr}{ys L6:List Value}{A6:Array Value}(h:Dm w0 T D Lb nv kv ns d W (.slice o2 tl c2) ve vw xs vs)(htl:d.tb.length=tl)(hys:d.tb.flatMap (nR kv ns)=ys)(hX:nR kv ns q=L6)(hb:W.heap[bx]?=some (.cells A6 64 (0,0)))(ha:W.heap[a]?=some (.cells #[.pointer (some ⟨D,0,none⟩)] 59 (0,0)))
  (hfb:some bx≠(Value.slice o2 tl c2).ownBlock) (hfa:some a≠(Value.slice o2 tl c2).ownBlock) (ho:w3.ownsRow w0.heap.size 64 6 (.slice (some ⟨g,0,none⟩) (tl+1) cap) (tl+1) (ys++L6)) (hg:(W.drew.alloc (.cells A6 64)).grownBy w3 (Value.slice o2 tl c2).ownBlock) :
  ∃v',Dm w0 T D Lb nv kv ns ⟨d.lk,d.fm,d.tb++[q],d.es,d.wt⟩ (w3.setCell ⟨D,2,none⟩ (.slice (some ⟨g,0,none⟩) (tl+1) cap)) v' ve vw xs vs/\(w3.setCell ⟨D,2,none⟩ (.slice (some ⟨g,0,none⟩) (tl+1) cap)).heap[bx]?=some (.cells A6 64 (0,0))/\(w3.setCell ⟨D,2,none⟩ (.slice (some ⟨g,0,none⟩) (tl+1) cap)).heap[a]?=some (.cells #[.pointer (some ⟨D,0,none⟩)] 59 (0,0)):=by
 have h2:=h.grow (yu W (.cells A6 64));refine⟨_,h2.tabs q (v':=.slice (some ⟨g,0,none⟩) (tl+1) cap) ?_ hg,yw hb hg hfb h.dra (by decide),yw ha hg hfa h.dra (by decide)⟩;rw[htl,hys,hX];exact ho
theorem Dm.ents(h:Dm w0 T D Lb nv kv ns d w vt ve vw xs vs){w1:World}{v':Value}(ho:w1.ownsRow w0.heap.size 33 4 v' (d.es.length+1) (xs++zE))(hg:w.grownBy w1 ve.ownBlock):Dm w0 T D Lb nv kv ns ⟨d.lk,d.fm,d.tb,d.es++[en0],d.wt⟩ (w1.setCell ⟨D,3,none⟩ v') vt v' vw (xs++zE) (fun i=>if i=d.es.length then .slice none 0 0 else vs i):=by
 have kt:∀t,¬t=33->Kt t w w1:=fun t ht=>yh h.ent.row hg ht
 have hc:=(kt _ (by decide)).blk h.dra;have k2:∀t,¬t=62->Kt t w1 (w1.setCell ⟨D,3,none⟩ v'):=fun t ht=>iE _ hc ht
 have k3:∀t,¬t=33->¬t=62->Kt t w (w1.setCell ⟨D,3,none⟩ v'):=fun t h1 h2=>(kt t h1).two (k2 t h2)
 have g1:w0.grownBy w1 none:=by
  cases hb:ve.ownBlock with
  | none=>rw[hb]at hg;exact ai h.gb hg
  | some g =>
   rw[hb]at hg;exact mX h.gb hg (bn h.ent.row hb).1
 exact⟨mX g1 (iq w1 D 3 _) h.bD,(k3 _ (by decide) (by decide)).blk h.tre,block_setCell (i:=3) hc _,h.lok.keep (k3 _ (by decide) (by decide)) ⟨k3 _ (by decide) (by decide),k3 _ (by decide) (by decide),k3 _ (by decide) (by decide)⟩,(k3 _ (by decide) (by decide)).row h.tab,(h.ent.push ho hg).keep (k2 _ (by decide)) (k2 _ (by decide)),(k3 _ (by decide) (by decide)).row h.wan,h.bD,h.bL⟩
theorem aeA{W w3:World}{a bx el c3 g cap:Nat}{o3:Option Addr}{A6:Array Value}(h:Dm w0 T D Lb nv kv ns d W vt (.slice o3 el c3) vw xs vs)(hel:d.es.length=el)(hb:W.heap[bx]?=some (.cells A6 64 (0,0)))(ha:W.heap[a]?=some (.cells #[.pointer (some ⟨D,0,none⟩)] 59 (0,0)))
  (ho:w3.ownsRow w0.heap.size 33 4 (.slice (some ⟨g,0,none⟩) (el+1) cap) (el+1) (xs++[.string ⟨#[]⟩,.string ⟨#[]⟩,.string ⟨#[]⟩,.slice none 0 0])) (hg:(W.drew.alloc (.cells #[.string ⟨#[]⟩,.string ⟨#[]⟩,.string ⟨#[]⟩,.slice none 0 0] 33)).grownBy w3 (Value.slice o3 el c3).ownBlock) :
  ∃c' xs' vs' g',Dm w0 T D Lb nv kv ns ⟨d.lk,d.fm,d.tb,d.es++[en0],d.wt⟩ (w3.setCell ⟨D,3,none⟩ (.slice (some ⟨g,0,none⟩) (el+1) cap)) vt (.slice (some ⟨g',0,none⟩) (el+1) c') vw xs' vs'/\(w3.setCell ⟨D,3,none⟩ (.slice (some ⟨g,0,none⟩) (el+1) cap)).heap[bx]?=some (.cells A6 64 (0,0))/\(w3.setCell ⟨D,3,none⟩ (.slice (some ⟨g,0,none⟩) (el+1) cap)).heap[a]?=some (.cells #[.pointer (some ⟨D,0,none⟩)] 59 (0,0)):=by
 have h2:=h.grow (yu W (.cells #[.string ⟨#[]⟩,.string ⟨#[]⟩,.string ⟨#[]⟩,.slice none 0 0] 33));have hr:=h.ent.row;exact⟨cap,_,_,g,h2.ents (v':=.slice (some ⟨g,0,none⟩) (el+1) cap) (by rw[hel];exact ho) hg,yw hb hg (sW hb hr (by decide)) h.dra (by decide),yw ha hg (sW ha hr (by decide)) h.dra (by decide)⟩
theorem aeB(h:Dm w0 T D Lb nv kv ns d w vt ve vw xs vs)(q:Nat)(hq:q<ns.length)(hk:NuS w0 (kv q) ns[q].ks)(hr:∀p∈ns[q].ks,p<ns.length)(hl:ns[q].ks.length<=1000000)(hel:d.es.length<=1000)(htl:d.tb.length<=1000)(a:Nat)(ha:w.heap[a]?=some (.cells #[.pointer (some ⟨D,0,none⟩)] 59 (0,0))) :
  Calls prog 49 #[.agg (dK ns[q] (kv q)),.pointer (some ⟨a,0,none⟩)] w (pX w0 T D Lb nv kv ns (gm d q ns[q] .tabs) w):=by
 have jT:Hd (NuS w0 (kv q) ns[q].ks):=hk;obtain⟨o,c,hk0,-⟩:=hk;have HR:Hd (∀p∈ns[q].ks,p<ns.length):=hr;have HX:Hd (nR kv ns q=(dK ns[q] (kv q)).toList):=by
  show _=_;unfold nR;rw[List.getElem?_eq_getElem hq]
 obtain⟨x,hx⟩:=zN (ns[q]);rw[hx]at jT HR HX hl hk0 ⊢;obtain⟨kd,ky,tx,nu,ks,pl⟩:=x;obtain⟨KY,gU⟩:∃t:ByteArray,⟨ky.toArray⟩=t:=⟨_,rfl⟩;obtain⟨TX,dW⟩:∃t:ByteArray,⟨tx.toArray⟩=t:=⟨_,rfl⟩;have dY:Hd ((⟨ky.toArray⟩:ByteArray)=KY/\(⟨tx.toArray⟩:ByteArray)=TX):=⟨gU,dW⟩;obtain⟨m,hm⟩:=zN (ks.length);have hk1:kv q=.slice o m c:=by rw[hk0];show Value.slice o ks.length c=_;rw[hm]
 rw[hk1]at jT HX ⊢;unfold dK at HX ⊢;simp only[]at jT HR HX hl ⊢;rw[gU,dW]at HX ⊢;obtain⟨bx,hbx⟩:=zN (w.heap.size);obtain⟨W,hW⟩:=zN (w.alloc (.cells #[.int .i64 kd,.string KY,.string TX,.int .i64 nu,.slice o m c,.int .i64 (pl:Nat)] 64));have HG:Hd (w.grownBy W none):=hW ▸ dn (ak w none) _;have HD:Hd (Dm w0 T D Lb nv kv ns d W vt ve vw xs vs):=h.grow HG.o;have hB:W.heap[bx]?=some (.cells #[.int .i64 kd,.string KY,.string TX,.int .i64 nu,.slice o m c,.int .i64 (pl:Nat)] 64 (0,0)):=by rw[<-hW,<-hbx];exact heap_alloc_new _ _
 have uK:=(aX HG.o).blk ha;have jU:Hd (W.heap[bx]?=some (.cells #[.int .i64 kd,.string KY,.string TX,.int .i64 nu,.slice o m c,.int .i64 (pl:Nat)] 64 (0,0))/\W.heap[a]?=some (.cells #[.pointer (some ⟨D,0,none⟩)] 59 (0,0))):=⟨hB,uK⟩;have HW:Hd (w.alloc (.cells #[.int .i64 kd,.string KY,.string TX,.int .i64 nu,.slice o m c,.int .i64 (pl:Nat)] 64)=W/\w.heap.size=bx):=⟨hW,hbx⟩;obtain⟨o2,c2,hvt⟩:=kV HD.o.tab;obtain⟨o3,c3,uM⟩:=kV HD.o.ent.row;subst hvt uM;have hrw:=h.tab;have ca:W.cell? ⟨a,0,none⟩=some (.pointer (some ⟨D,0,none⟩)):=by rw[af uK];rfl
 have b0:W.cell? ⟨bx,0,none⟩=some (.int .i64 kd):=by rw[af hB];rfl
 have b1:W.cell? ⟨bx,1,none⟩=some (.string KY):=by rw[af hB];rfl
 have b2:W.cell? ⟨bx,2,none⟩=some (.string TX):=by rw[af hB];rfl
 have b3:W.cell? ⟨bx,3,none⟩=some (.int .i64 nu):=by rw[af hB];rfl
 have b4:W.cell? ⟨bx,4,none⟩=some (.slice o m c):=by rw[af hB];rfl
 have b5:W.cell? ⟨bx,5,none⟩=some (.int .i64 (pl:Nat)):=by rw[af hB];rfl
 obtain⟨-,-,d0,-,d2,d3,-,-⟩:=HD.o.cells;have VJ:=HD.o.gb;obtain⟨tl,zL⟩:∃tl,d.tb.length=tl:=⟨_,rfl⟩;have Ih:Hd (d.tb.length=tl):=zL;unfold gm;simp only[];rw[zL]at d2 htl HD ⊢
 by_cases h50:tl=50
 ·have hb:((tl:Int) == 50)=true:=by rw[h50];rfl
  rw[if_pos h50];have aB:Hd (w.grownBy W none):=HG.o;clear h hr hk0 ha hB uK hW hbx gU dW hm hk1 hx VJ zL h50 hrw d3 d0 b0 b1 b2 b3 b4 b5;go_enter func49,ntmps49;go_upto_region 1 with fail
  try rw[HW.o.1]
  try rw[HW.o.2]
  go_wp2;go_ret;exact lZ (by decide) aB.o
 ·have hb:((tl:Int) == 50)=false:=by simpa using(show ¬(tl:Int)=50 by omega)
  rw[if_neg h50];obtain⟨i0,hi0,hii⟩:=Option.map_eq_some_iff.1 QG;simp only[Prod.mk.injEq]at hii;obtain⟨hz0,hz1,hzb⟩:=hii;have hrow:=HD.o.tab;rw[zL]at hrow;obtain⟨ys,hys⟩:=zN (d.tb.flatMap (nR kv ns));have kT:Hd (d.tb.flatMap (nR kv ns)=ys):=hys;rw[hys]at hrow;have hone:∀u∈([.int .i64 kd,.string KY,.string TX,.int .i64 nu,.slice o m c,.int .i64 (pl:Nat)]:List Value),u.oneCell'=true:=by simp[Value.oneCell']
  have qc:Hd (some D≠(Value.slice o2 tl c2).ownBlock):=Oa HD.o hrow (by decide);have kD:Hd (some bx≠(Value.slice o2 tl c2).ownBlock):=by
   show _≠_;intro e;rw[zL]at hrw;obtain⟨cc,hcc⟩:=(bn hrw e.symm).2;have:=aA hcc;omega
  have bH:Hd (some a≠(Value.slice o2 tl c2).ownBlock):=sW uK hrow (by decide);have nP:Hd (W.heap[D]?=some (.cells #[.pointer (some ⟨T,0,none⟩),.bool d.fm,.slice o2 tl c2,.slice o3 d.es.length c3,vw] 62 (0,0))):=HD.o.dra;obtain⟨K,hK⟩:=zN (W.heap.size);have hB0:w0.heap.size<=K:=by rw[<-hK];exact HD.o.size
  have dP:Hd ((W.drew.alloc (.cells #[.int .i64 kd,.string KY,.string TX,.int .i64 nu,.slice o m c,.int .i64 (pl:Nat)] 64)).heap[K]?=some (.cells #[.int .i64 kd,.string KY,.string TX,.int .i64 nu,.slice o m c,.int .i64 (pl:Nat)] 64 (0,0))):=by
   have:=heap_alloc_new W.drew (.cells #[.int .i64 kd,.string KY,.string TX,.int .i64 nu,.slice o m c,.int .i64 (pl:Nat)] 64);rw[show W.drew.heap.size=K from hK]at this;exact this
  have caA:(W.alloc (.cells #[.int .i64 kd,.string KY,.string TX,.int .i64 nu,.slice o m c,.int .i64 (pl:Nat)] 64)).cell? ⟨a,0,none⟩=some (.pointer (some ⟨D,0,none⟩)):=(World.grownBy_alloc W _ none).cell ca (by simp);have d2A:(W.alloc (.cells #[.int .i64 kd,.string KY,.string TX,.int .i64 nu,.slice o m c,.int .i64 (pl:Nat)] 64)).cell? ⟨D,2,none⟩=some (.slice o2 tl c2):=(World.grownBy_alloc W _ none).cell d2 (by simp);clear h hr hk0 ha hB uK hW hbx gU dW hm hk1 hx VJ zL h50 hys hrw;go_enter func49,ntmps49;go_upto_region 1 with fail
  try rw[HW.o.1]
  try rw[HW.o.2]
  go_upto_region 3 with fail
  go_cut [] from 20 (fun wx=>∃v',Dm w0 T D Lb nv kv ns ⟨d.lk,d.fm,d.tb++[q],d.es,d.wt⟩ wx v' (.slice o3 d.es.length c3) vw xs vs/\wx.heap[bx]?=some (.cells #[.int .i64 kd,.string KY,.string TX,.int .i64 nu,.slice o m c,.int .i64 (pl:Nat)] 64 (0,0))/\wx.heap[a]?=some (.cells #[.pointer (some ⟨D,0,none⟩)] 59 (0,0)))
  case first =>
   go_region_law (refine step_append_lies _ (by rfl) _ _ _ (by rfl) w0.heap.size 64 i0 _ 6 80 underlying54 hi0 hz0 hz1 hzb (by rfl) (by decide) (.slice o2 tl c2) tl ys (by rfl) (hrow.drew.alloc _) ⟨K,0,none⟩ 1 1 [.int .i64 kd,.string KY,.string TX,.int .i64 nu,.slice o m c,.int .i64 (pl:Nat)] (by rfl) (by rfl) (World.news_of_block dP.o) hone (by omega) (by unfold maxLen;omega) (by omega) (by simp;omega) _ rfl ?_;intro g cap w3 hown3 hgrow hat hlt3;have hc3:w3.cell? ⟨D,2,none⟩=some (.slice o2 tl c2):=mF d2 hgrow qc.o;have oq:w3.frozen? ⟨D,2,none⟩=false:=qF nP.o hgrow qc.o;have aeC:w3.cell? ⟨a,0,none⟩=some (.pointer (some ⟨D,0,none⟩)):=mF ca hgrow bH.o)
   all_goals (
    go_wp2_with fail;go_meet;exact aez HD.o Ih.o kT.o HX.o jU.o.1 jU.o.2 kD.o bH.o hown3 hgrow)
  case rest =>
   obtain⟨v',hd2,hbx2,ha2⟩:=hcut;clear HD kT kD qc bH nP dP hrow hi0 hz0 hz1 hzb ca d2 caA d2A b0 b1 b2 b3 b4 b5;obtain⟨i1,hi1,hjj⟩:=Option.map_eq_some_iff.1 Zg;simp only[Prod.mk.injEq]at hjj;obtain⟨hy0,hy1,hyb⟩:=hjj;obtain⟨el,nS⟩:∃el,d.es.length=el:=⟨_,rfl⟩;have aU:Hd (d.es.length=el):=nS;rw[nS]at hd2 hel;have hrow:=hd2.ent.row;rw[show(⟨d.lk,d.fm,d.tb++[q],d.es,d.wt⟩:Dr).es.length=el from nS]at hrow;obtain⟨-,-,-,-,-,d3,-,-⟩:=hd2.cells;have ca:wc.cell? ⟨a,0,none⟩=some (.pointer (some ⟨D,0,none⟩)):=by rw[af ha2];rfl
   have AQ:∀u∈([.string ⟨#[]⟩,.string ⟨#[]⟩,.string ⟨#[]⟩,.slice none 0 0]:List Value),u.oneCell'=true:=by simp[Value.oneCell']
   have qc:Hd (some D≠(Value.slice o3 el c3).ownBlock):=Oa hd2 hrow (by decide);have bH:Hd (some a≠(Value.slice o3 el c3).ownBlock):=sW ha2 hrow (by decide);have nP:Hd (wc.heap[D]?=some (.cells #[.pointer (some ⟨T,0,none⟩),.bool d.fm,v',.slice o3 el c3,vw] 62 (0,0))):=hd2.dra;obtain⟨K2,hK2⟩:∃K,wc.heap.size=K:=⟨_,rfl⟩;have hB2:w0.heap.size<=K2:=by rw[<-hK2];exact hd2.size
   have dP:Hd ((wc.drew.alloc (.cells #[.string ⟨#[]⟩,.string ⟨#[]⟩,.string ⟨#[]⟩,.slice none 0 0] 33)).heap[K2]?=some (.cells #[.string ⟨#[]⟩,.string ⟨#[]⟩,.string ⟨#[]⟩,.slice none 0 0] 33 (0,0))):=by
    have:=heap_alloc_new wc.drew (.cells #[.string ⟨#[]⟩,.string ⟨#[]⟩,.string ⟨#[]⟩,.slice none 0 0] 33);rw[show wc.drew.heap.size=K2 from hK2]at this;exact this
   have caA:(wc.alloc (.cells #[.string ⟨#[]⟩,.string ⟨#[]⟩,.string ⟨#[]⟩,.slice none 0 0] 33)).cell? ⟨a,0,none⟩=some (.pointer (some ⟨D,0,none⟩)):=(World.grownBy_alloc wc _ none).cell ca (by simp);have d3A:(wc.alloc (.cells #[.string ⟨#[]⟩,.string ⟨#[]⟩,.string ⟨#[]⟩,.slice none 0 0] 33)).cell? ⟨D,3,none⟩=some (.slice o3 el c3):=(World.grownBy_alloc wc _ none).cell d3 (by simp);have HD2:Hd (Dm w0 T D Lb nv kv ns ⟨d.lk,d.fm,d.tb++[q],d.es,d.wt⟩ wc v' (.slice o3 el c3) vw xs vs):=hd2;have Ob:Hd (wc.heap[bx]?=some (.cells #[.int .i64 kd,.string KY,.string TX,.int .i64 nu,.slice o m c,.int .i64 (pl:Nat)] 64 (0,0))/\wc.heap[a]?=some (.cells #[.pointer (some ⟨D,0,none⟩)] 59 (0,0))):=⟨hbx2,ha2⟩;clear hd2 hbx2 ha2 nS;go_upto_region 4 with fail
   go_cut [] from 30 (fun wx=>∃c' xs' vs' g',Dm w0 T D Lb nv kv ns ⟨d.lk,d.fm,d.tb++[q],d.es++[en0],d.wt⟩ wx v' (.slice (some ⟨g',0,none⟩) (el+1) c') vw xs' vs'/\wx.heap[bx]?=some (.cells #[.int .i64 kd,.string KY,.string TX,.int .i64 nu,.slice o m c,.int .i64 (pl:Nat)] 64 (0,0))/\wx.heap[a]?=some (.cells #[.pointer (some ⟨D,0,none⟩)] 59 (0,0)))
   case first =>
    go_region_law (refine step_append_lies _ (by rfl) _ _ _ (by rfl) w0.heap.size 33 i1 _ 4 72 underlying22 hi1 hy0 hy1 hyb (by rfl) (by decide) (.slice o3 el c3) el xs (by rfl) (hrow.drew.alloc _) ⟨K2,0,none⟩ 1 1 [.string ⟨#[]⟩,.string ⟨#[]⟩,.string ⟨#[]⟩,.slice none 0 0] (by rfl) (by rfl) (World.news_of_block dP.o) AQ (by omega) (by unfold maxLen;omega) (by omega) (by simp;omega) _ rfl ?_;intro g cap w3 hown3 hgrow hat hlt3;have hc3:w3.cell? ⟨D,3,none⟩=some (.slice o3 el c3):=mF d3 hgrow qc.o;have oq:w3.frozen? ⟨D,3,none⟩=false:=qF nP.o hgrow qc.o;have aeC:w3.cell? ⟨a,0,none⟩=some (.pointer (some ⟨D,0,none⟩)):=mF ca hgrow bH.o)
    all_goals (
     go_wp2_with fail;go_meet;exact aeA HD2.o aU.o Ob.o.1 Ob.o.2 hown3 hgrow)
   case rest =>
    obtain⟨c',xs',vs',g',hd3,wX,Oc⟩:=hcut;clear HD2 Ob qc bH nP dP hrow hi1 hy0 hy1 hyb ca d3 caA d3A;obtain⟨-,-,e0,-,-,e3,-,-⟩:=hd3.cells;have ca:wc.cell? ⟨a,0,none⟩=some (.pointer (some ⟨D,0,none⟩)):=by rw[af Oc];rfl
    have b0:wc.cell? ⟨bx,0,none⟩=some (.int .i64 kd):=by rw[af wX];rfl
    have b1:wc.cell? ⟨bx,1,none⟩=some (.string KY):=by rw[af wX];rfl
    have b2:wc.cell? ⟨bx,2,none⟩=some (.string TX):=by rw[af wX];rfl
    have b3:wc.cell? ⟨bx,3,none⟩=some (.int .i64 nu):=by rw[af wX];rfl
    have b4:wc.cell? ⟨bx,4,none⟩=some (.slice o m c):=by rw[af wX];rfl
    have b5:wc.cell? ⟨bx,5,none⟩=some (.int .i64 (pl:Nat)):=by rw[af wX];rfl
    have HD3:Hd (Dm w0 T D Lb nv kv ns ⟨d.lk,d.fm,d.tb++[q],d.es++[en0],d.wt⟩ wc v' (.slice (some ⟨g',0,none⟩) (el+1) c') vw xs' vs'):=hd3;have VK:Hd (wc.heap[bx]?=some (.cells #[.int .i64 kd,.string KY,.string TX,.int .i64 nu,.slice o m c,.int .i64 (pl:Nat)] 64 (0,0))/\wc.heap[a]?=some (.cells #[.pointer (some ⟨D,0,none⟩)] 59 (0,0))):=⟨wX,Oc⟩;have iw:Hd (wc.grownBy wc.drew none):=au (ak wc none) 1;have CT:Hd (Calls prog 50 #[.pointer (some ⟨D,0,none⟩),.int .i64 (el:Nat)] wc.drew fun e w'=>∃A C,e=.returned (.func (.func 75) #[] #[.pointer (some ⟨A,0,none⟩),.pointer (some ⟨C,0,none⟩)])/\(w'.heap[A]?=some (.cells #[.pointer (some ⟨D,0,none⟩)] 59 (0,0))/\w'.heap[C]?=some (.cells #[.int .i64 (el:Nat)] 3 (0,0)))/\wc.drew.grownBy w' none):=(ad3 D (el:Nat) wc.drew).mono fun e w' ⟨a1,a2⟩=>by
     refine⟨_,_,a1,⟨?_,?_⟩,by rw[a2];exact dn (dn (ak _ none) _) _⟩
     ·rw[a2,Lib.alloc_old _ _ _ (by simp)];exact heap_alloc_new _ _
     ·rw[a2];have:=heap_alloc_new (wc.drew.alloc (.cells #[.pointer (some ⟨D,0,none⟩)] 59)) (.cells #[.int .i64 (el:Nat)] 3)
      rwa [World.size_alloc]at this
    have CK:Hd (∀A C w2,wc.drew.grownBy w2 none->(w2.heap[A]?=some (.cells #[.pointer (some ⟨D,0,none⟩)] 59 (0,0))/\w2.heap[C]?=some (.cells #[.int .i64 (el:Nat)] 3 (0,0)))->Calls prog 22 #[.pointer (some ⟨T,0,none⟩),.agg #[.int .i64 kd,.string KY,.string TX,.int .i64 nu,.slice o m c,.int .i64 (pl:Nat)],.func (.func 75) #[] #[.pointer (some ⟨A,0,none⟩),.pointer (some ⟨C,0,none⟩)]] w2 fun e w3=>e=.returned (.tuple #[])/\Hd (Dm w0 T D Lb nv kv ns (keepD ⟨d.lk,d.fm,d.tb++[q],d.es++[en0],d.wt⟩ ks (.key el)) w3 v' (.slice (some ⟨g',0,none⟩) (el+1) c') vw xs' vs')/\w3.cell? ⟨a,0,none⟩=some (.pointer (some ⟨D,0,none⟩))/\w3.cell? ⟨D,0,none⟩=some (.pointer (some ⟨T,0,none⟩))/\w3.cell? ⟨D,3,none⟩=some (.slice (some ⟨g',0,none⟩) (el+1) c')/\w3.cell? ⟨bx,0,none⟩=some (.int .i64 kd)/\w3.cell? ⟨bx,1,none⟩=some (.string KY)/\w3.cell? ⟨bx,2,none⟩=some (.string TX)/\w3.cell? ⟨bx,3,none⟩=some (.int .i64 nu)/\w3.cell? ⟨bx,4,none⟩=some (.slice o m c)/\w3.cell? ⟨bx,5,none⟩=some (.int .i64 (pl:Nat))):=fun A C w2 hg hAC=>by
     have hgW:=ai iw.o hg;have:=keep_any (HD3.o.grow hgW) ⟨kd,ky,tx,nu,ks,pl⟩ (.slice o m c) jT.o HR.o hl 75 #[.pointer (some ⟨A,0,none⟩),.pointer (some ⟨C,0,none⟩)] (.key el) ⟨A,C,rfl,hAC.1,hAC.2⟩;unfold dK at this;simp only[]at this;rw[dY.o.1,dY.o.2]at this;refine this.mono fun e w3 ⟨a1,a2,a3⟩=>?_
     have y1:=(a3 _ (by decide)).blk ((aX hgW).blk VK.o.1);have y2:=(a3 _ (by decide)).blk ((aX hgW).blk VK.o.2);obtain⟨-,-,f0,-,-,f3,-,-⟩:=a2.cells;exact⟨a1,a2,by rw[af y2];rfl,f0,f3,by rw[af y1];rfl,by rw[af y1];rfl,by rw[af y1];rfl,by rw[af y1];rfl,by rw[af y1];rfl,by rw[af y1];rfl⟩
    have hwr:IntKind.i64.wrap (el:Int)=(el:Int):=by rw[IntKind.wrap_i64];omega
    clear hd3 wX Oc;go_upto_region 5 with fail
    go_region_held3 (fun u=>u.cell? ⟨a,0,none⟩=some (.pointer (some ⟨D,0,none⟩))/\u.cell? ⟨D,0,none⟩=some (.pointer (some ⟨T,0,none⟩))/\u.cell? ⟨D,3,none⟩=some (.slice (some ⟨g',0,none⟩) (el+1) c')/\u.cell? ⟨bx,0,none⟩=some (.int .i64 kd)/\u.cell? ⟨bx,1,none⟩=some (.string KY)/\u.cell? ⟨bx,2,none⟩=some (.string TX)/\u.cell? ⟨bx,3,none⟩=some (.int .i64 nu)/\u.cell? ⟨bx,4,none⟩=some (.slice o m c)/\u.cell? ⟨bx,5,none⟩=some (.int .i64 (pl:Nat))) ((first|assumption|exact cells9 (by assumption) (by assumption)|go_keep)) (first|(go_at_call 50;(try rw[hwr]);refine CT.o.mono ?_;rintro e w6 ⟨A,C,rfl,DN,eu⟩)|(go_at_call 22;refine(CK.o _ _ _ eu DN).mono ?_;rintro e w7 ⟨rfl,hall,hcl⟩))
    go_wp2;go_ret;have:=hall.o;rw[aU.o];exact wU hall.o
end
end Go.Proofs.YtnnbgjaphfhibaaGreatDoor
