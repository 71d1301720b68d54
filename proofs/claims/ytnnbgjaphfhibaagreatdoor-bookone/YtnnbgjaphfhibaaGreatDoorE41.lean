import Derived.Test.YtnnbgjaphfhibaaGreatDoorE34
import Derived.Test.YtnnbgjaphfhibaaGreatDoorE29
set_option linter.all false
set_option maxRecDepth 100000
set_option maxHeartbeats 0
open Go.Proofs.Tryz
namespace Go.Proofs.YtnnbgjaphfhibaaGreatDoor
open Go.RowKit Go.Maps Go.WideMaps Go.Joins
section
variable {w0:World} {T D Lb:Nat} {nv:Value} {kv:Nat->Value} {ns:List Tn} {d:Dr} {w w':World} {vt ve vw:Value} {xs:List Value} {vs:Nat->Value}
theorem Dm.size(h:Dm w0 T D Lb nv kv ns d w vt ve vw xs vs):w0.heap.size<=w.heap.size:=Nat.le_of_lt (Nat.lt_of_le_of_lt h.bD (aB h.dra))
theorem QO{t:TypeId}{s n:Nat}{v:Value}{ys:List Value}(h:Dm w0 T D Lb nv kv ns d w vt ve vw xs vs)(hr:w.ownsRow w0.heap.size t s v n ys)(ht:¬62=t):some D≠v.ownBlock:=fun e=>by
 obtain⟨cc,hcc⟩:=(bH hr e.symm).2;exact aO h.dra hcc ht rfl
theorem uM{t X:TypeId}{s n a:Nat}{v:Value}{ys:List Value}{cs:Array Value}{fz:Nat × Nat}(ha:w.heap[a]?=some (.cells cs X fz))(hr:w.ownsRow w0.heap.size t s v n ys)(ht:¬X=t):some a≠v.ownBlock:=fun e=>by
 obtain⟨cc,hcc⟩:=(bH hr e.symm).2;exact aO ha hcc ht rfl
theorem cells9{w w':World}{a b bx:Nat}{va vb vc v0 v1 v2 v3 v4 v5:Value}(hg:w.grownBy w' none)(h:w.cell? ⟨a,0,none⟩=some va/\w.cell? ⟨b,0,none⟩=some vb/\w.cell? ⟨b,3,none⟩=some vc/\w.cell? ⟨bx,0,none⟩=some v0/\w.cell? ⟨bx,1,none⟩=some v1/\w.cell? ⟨bx,2,none⟩=some v2/\w.cell? ⟨bx,3,none⟩=some v3/\w.cell? ⟨bx,4,none⟩=some v4/\w.cell? ⟨bx,5,none⟩=some v5):w'.cell? ⟨a,0,none⟩=some va/\w'.cell? ⟨b,0,none⟩=some vb/\w'.cell? ⟨b,3,none⟩=some vc/\w'.cell? ⟨bx,0,none⟩=some v0/\w'.cell? ⟨bx,1,none⟩=some v1/\w'.cell? ⟨bx,2,none⟩=some v2/\w'.cell? ⟨bx,3,none⟩=some v3/\w'.cell? ⟨bx,4,none⟩=some v4/\w'.cell? ⟨bx,5,none⟩=some v5 :=
 ⟨hg.cell h.1 (by simp),hg.cell h.2.1 (by simp),hg.cell h.2.2.1 (by simp),hg.cell h.2.2.2.1 (by simp),hg.cell h.2.2.2.2.1 (by simp),hg.cell h.2.2.2.2.2.1 (by simp),hg.cell h.2.2.2.2.2.2.1 (by simp),hg.cell h.2.2.2.2.2.2.2.1 (by simp),hg.cell h.2.2.2.2.2.2.2.2 (by simp)⟩
theorem zO(w:World)(o:Obj):w.grownBy (w.drew.alloc o) none:=by
 have:=World.grownBy_alloc w.drew o none;exact⟨this.os,this.tape,this.output,this.size,this.block⟩
theorem zQ{w w3:World}{o:Obj}{r:Option Nat}{b g k:Nat}{cs cg:Array Value}{t tg:TypeId}{fz fg:Nat × Nat}{v:Value}(hb:w.heap[b]?=some (.cells cs t fz))(hg:(w.drew.alloc o).grownBy w3 r)(hne:some b≠r)(hG:w.heap[g]?=some (.cells cg tg fg))(ht:¬t=tg):(w3.setCell ⟨g,k,none⟩ v).heap[b]?=some (.cells cs t fz):=by
 have h1:=(aV (zO w o)).blk hb;have h2:=(hg.block b (aB h1) hne).trans h1;exact(heap_setCell_other _ _ _ _ (aO hb hG ht)).trans h2
theorem Dm.tabs(h:Dm w0 T D Lb nv kv ns d w vt ve vw xs vs)(q:Nat){w1:World}{v':Value}(ho:w1.ownsRow w0.heap.size 64 6 v' (d.tb.length+1) (d.tb.flatMap (pO kv ns)++pO kv ns q))(hg:w.grownBy w1 vt.ownBlock):Dm w0 T D Lb nv kv ns ⟨d.lk,d.fm,d.tb++[q],d.es,d.wt⟩ (w1.setCell ⟨D,2,none⟩ v') v' ve vw xs vs:=by
 have kt:∀t,¬t=64->Kt t w w1:=fun t ht=>zB h.tab hg ht
 have hc:=(kt _ (by decide)).blk h.dra;have k2:∀t,¬t=62->Kt t w1 (w1.setCell ⟨D,2,none⟩ v'):=fun t ht=>iO _ hc ht
 have k3:∀t,¬t=64->¬t=62->Kt t w (w1.setCell ⟨D,2,none⟩ v'):=fun t h1 h2=>(kt t h1).two (k2 t h2)
 have g1:w0.grownBy w1 none:=by
  cases hb:vt.ownBlock with
  | none=>rw[hb]at hg;exact ai h.gb hg
  | some g =>
   rw[hb]at hg;exact nR h.gb hg (bH h.tab hb).1
 refine⟨nR g1 (iL w1 D 2 _) h.bD,(k3 _ (by decide) (by decide)).blk h.tre,block_setCell (i:=2) hc _,h.lok.keep (k3 _ (by decide) (by decide)) ⟨k3 _ (by decide) (by decide),k3 _ (by decide) (by decide),k3 _ (by decide) (by decide)⟩,?_,h.ent.keep (k3 _ (by decide) (by decide)) (k3 _ (by decide) (by decide)),(k3 _ (by decide) (by decide)).row h.wan,h.bD,h.bL⟩;rw[List.length_append,List.flatMap_append];simp only[List.length_cons,List.length_nil,List.flatMap_cons,List.flatMap_nil,List.append_nil];exact(k2 _ (by decide)).row ho
theorem aiT{W w3:World}{a bx q tl c2 g cap:Nat}{o2:Option Addr}{ys L6:List Value}{A6:Array Value}(h:Dm w0 T D Lb nv kv ns d W (.slice o2 tl c2) ve vw xs vs)(htl:d.tb.length=tl)(hys:d.tb.flatMap (pO kv ns)=ys)(hX:pO kv ns q=L6)(hb:W.heap[bx]?=some (.cells A6 64 (0,0)))(ha:W.heap[a]?=some (.cells #[.pointer (some ⟨D,0,none⟩)] 59 (0,0)))
  (hfb:some bx≠(Value.slice o2 tl c2).ownBlock) (hfa:some a≠(Value.slice o2 tl c2).ownBlock) (ho:w3.ownsRow w0.heap.size 64 6 (.slice (some ⟨g,0,none⟩) (tl+1) cap) (tl+1) (ys++L6)) (hg:(W.drew.alloc (.cells A6 64)).grownBy w3 (Value.slice o2 tl c2).ownBlock) :
  ∃v',Dm w0 T D Lb nv kv ns ⟨d.lk,d.fm,d.tb++[q],d.es,d.wt⟩ (w3.setCell ⟨D,2,none⟩ (.slice (some ⟨g,0,none⟩) (tl+1) cap)) v' ve vw xs vs/\(w3.setCell ⟨D,2,none⟩ (.slice (some ⟨g,0,none⟩) (tl+1) cap)).heap[bx]?=some (.cells A6 64 (0,0))/\(w3.setCell ⟨D,2,none⟩ (.slice (some ⟨g,0,none⟩) (tl+1) cap)).heap[a]?=some (.cells #[.pointer (some ⟨D,0,none⟩)] 59 (0,0)):=by
 have h2:=h.grow (zO W (.cells A6 64));refine⟨_,h2.tabs q (v':=.slice (some ⟨g,0,none⟩) (tl+1) cap) ?_ hg,zQ hb hg hfb h.dra (by decide),zQ ha hg hfa h.dra (by decide)⟩;rw[htl,hys,hX];exact ho
theorem Dm.ents(h:Dm w0 T D Lb nv kv ns d w vt ve vw xs vs){w1:World}{v':Value}(ho:w1.ownsRow w0.heap.size 33 4 v' (d.es.length+1) (xs++zE))(hg:w.grownBy w1 ve.ownBlock):Dm w0 T D Lb nv kv ns ⟨d.lk,d.fm,d.tb,d.es++[en0],d.wt⟩ (w1.setCell ⟨D,3,none⟩ v') vt v' vw (xs++zE) (fun i=>if i=d.es.length then .slice none 0 0 else vs i):=by
 have kt:∀t,¬t=33->Kt t w w1:=fun t ht=>zB h.ent.row hg ht
 have hc:=(kt _ (by decide)).blk h.dra;have k2:∀t,¬t=62->Kt t w1 (w1.setCell ⟨D,3,none⟩ v'):=fun t ht=>iO _ hc ht
 have k3:∀t,¬t=33->¬t=62->Kt t w (w1.setCell ⟨D,3,none⟩ v'):=fun t h1 h2=>(kt t h1).two (k2 t h2)
 have g1:w0.grownBy w1 none:=by
  cases hb:ve.ownBlock with
  | none=>rw[hb]at hg;exact ai h.gb hg
  | some g =>
   rw[hb]at hg;exact nR h.gb hg (bH h.ent.row hb).1
 exact⟨nR g1 (iL w1 D 3 _) h.bD,(k3 _ (by decide) (by decide)).blk h.tre,block_setCell (i:=3) hc _,h.lok.keep (k3 _ (by decide) (by decide)) ⟨k3 _ (by decide) (by decide),k3 _ (by decide) (by decide),k3 _ (by decide) (by decide)⟩,(k3 _ (by decide) (by decide)).row h.tab,(h.ent.push ho hg).keep (k2 _ (by decide)) (k2 _ (by decide)),(k3 _ (by decide) (by decide)).row h.wan,h.bD,h.bL⟩
theorem aiU{W w3:World}{a bx el c3 g cap:Nat}{o3:Option Addr}{A6:Array Value}(h:Dm w0 T D Lb nv kv ns d W vt (.slice o3 el c3) vw xs vs)(hel:d.es.length=el)(hb:W.heap[bx]?=some (.cells A6 64 (0,0)))(ha:W.heap[a]?=some (.cells #[.pointer (some ⟨D,0,none⟩)] 59 (0,0)))
  (ho:w3.ownsRow w0.heap.size 33 4 (.slice (some ⟨g,0,none⟩) (el+1) cap) (el+1) (xs++[.string ⟨#[]⟩,.string ⟨#[]⟩,.string ⟨#[]⟩,.slice none 0 0])) (hg:(W.drew.alloc (.cells #[.string ⟨#[]⟩,.string ⟨#[]⟩,.string ⟨#[]⟩,.slice none 0 0] 33)).grownBy w3 (Value.slice o3 el c3).ownBlock) :
  ∃c' xs' vs' g',Dm w0 T D Lb nv kv ns ⟨d.lk,d.fm,d.tb,d.es++[en0],d.wt⟩ (w3.setCell ⟨D,3,none⟩ (.slice (some ⟨g,0,none⟩) (el+1) cap)) vt (.slice (some ⟨g',0,none⟩) (el+1) c') vw xs' vs'/\(w3.setCell ⟨D,3,none⟩ (.slice (some ⟨g,0,none⟩) (el+1) cap)).heap[bx]?=some (.cells A6 64 (0,0))/\(w3.setCell ⟨D,3,none⟩ (.slice (some ⟨g,0,none⟩) (el+1) cap)).heap[a]?=some (.cells #[.pointer (some ⟨D,0,none⟩)] 59 (0,0)):=by
 have h2:=h.grow (zO W (.cells #[.string ⟨#[]⟩,.string ⟨#[]⟩,.string ⟨#[]⟩,.slice none 0 0] 33));have hr:=h.ent.row;exact⟨cap,_,_,g,h2.ents (v':=.slice (some ⟨g,0,none⟩) (el+1) cap) (by rw[hel];exact ho) hg,zQ hb hg (uM hb hr (by decide)) h.dra (by decide),zQ ha hg (uM ha hr (by decide)) h.dra (by decide)⟩
theorem aiV(h:Dm w0 T D Lb nv kv ns d w vt ve vw xs vs)(q:Nat)(hq:q<ns.length)(hk:NuS w0 (kv q) ns[q].ks)(hr:∀p∈ns[q].ks,p<ns.length)(hl:ns[q].ks.length<=1000000)(hel:d.es.length<=1000)(htl:d.tb.length<=1000)(a:Nat)(ha:w.heap[a]?=some (.cells #[.pointer (some ⟨D,0,none⟩)] 59 (0,0))) :
  Calls prog 49 #[.agg (dQ ns[q] (kv q)),.pointer (some ⟨a,0,none⟩)] w (sK w0 T D Lb nv kv ns (eQ d q ns[q] .tabs) w):=by
 have kG:Hd (NuS w0 (kv q) ns[q].ks):=hk;obtain⟨o,c,hk0,-⟩:=hk;have HR:Hd (∀p∈ns[q].ks,p<ns.length):=hr;have HX:Hd (pO kv ns q=(dQ ns[q] (kv q)).toList):=by
  show _=_;unfold pO;rw[List.getElem?_eq_getElem hq]
 obtain⟨x,hx⟩:=zN (ns[q]);rw[hx]at kG HR HX hl hk0 ⊢;obtain⟨kd,ky,tx,nu,ks,pl⟩:=x;obtain⟨KY,iC⟩:∃t:ByteArray,⟨ky.toArray⟩=t:=⟨_,rfl⟩;obtain⟨TX,eH⟩:∃t:ByteArray,⟨tx.toArray⟩=t:=⟨_,rfl⟩;have eP:Hd ((⟨ky.toArray⟩:ByteArray)=KY/\(⟨tx.toArray⟩:ByteArray)=TX):=⟨iC,eH⟩;obtain⟨m,hm⟩:=zN (ks.length);have hk1:kv q=.slice o m c:=by rw[hk0];show Value.slice o ks.length c=_;rw[hm]
 rw[hk1]at kG HX ⊢;unfold dQ at HX ⊢;simp only[]at kG HR HX hl ⊢;rw[iC,eH]at HX ⊢;obtain⟨bx,hbx⟩:=zN (w.heap.size);obtain⟨W,hW⟩:=zN (w.alloc (.cells #[.int .i64 kd,.string KY,.string TX,.int .i64 nu,.slice o m c,.int .i64 (pl:Nat)] 64));have HG:Hd (w.grownBy W none):=hW ▸ bC (au w none) _;have HD:Hd (Dm w0 T D Lb nv kv ns d W vt ve vw xs vs):=h.grow HG.o;have hB:W.heap[bx]?=some (.cells #[.int .i64 kd,.string KY,.string TX,.int .i64 nu,.slice o m c,.int .i64 (pl:Nat)] 64 (0,0)):=by rw[<-hW,<-hbx];exact heap_alloc_new _ _
 have ww:=(aV HG.o).blk ha;have kH:Hd (W.heap[bx]?=some (.cells #[.int .i64 kd,.string KY,.string TX,.int .i64 nu,.slice o m c,.int .i64 (pl:Nat)] 64 (0,0))/\W.heap[a]?=some (.cells #[.pointer (some ⟨D,0,none⟩)] 59 (0,0))):=⟨hB,ww⟩;have HW:Hd (w.alloc (.cells #[.int .i64 kd,.string KY,.string TX,.int .i64 nu,.slice o m c,.int .i64 (pl:Nat)] 64)=W/\w.heap.size=bx):=⟨hW,hbx⟩;obtain⟨o2,c2,hvt⟩:=mG HD.o.tab;obtain⟨o3,c3,sN⟩:=mG HD.o.ent.row;subst hvt sN;have hrw:=h.tab;have ca:W.cell? ⟨a,0,none⟩=some (.pointer (some ⟨D,0,none⟩)):=by rw[ag ww];rfl
 have b0:W.cell? ⟨bx,0,none⟩=some (.int .i64 kd):=by rw[ag hB];rfl
 have b1:W.cell? ⟨bx,1,none⟩=some (.string KY):=by rw[ag hB];rfl
 have b2:W.cell? ⟨bx,2,none⟩=some (.string TX):=by rw[ag hB];rfl
 have b3:W.cell? ⟨bx,3,none⟩=some (.int .i64 nu):=by rw[ag hB];rfl
 have b4:W.cell? ⟨bx,4,none⟩=some (.slice o m c):=by rw[ag hB];rfl
 have b5:W.cell? ⟨bx,5,none⟩=some (.int .i64 (pl:Nat)):=by rw[ag hB];rfl
 obtain⟨-,-,d0,-,d2,d3,-,-⟩:=HD.o.cells;have Zz:=HD.o.gb;obtain⟨tl,BV⟩:=zN d.tb.length;have yh:Hd (d.tb.length=tl):=BV;unfold eQ;simp only[];rw[BV]at d2 htl HD ⊢
 by_cases h50:tl=50
 ·have hb:((tl:Int) == 50)=true:=by rw[h50];rfl
  rw[if_pos h50];have aC:Hd (w.grownBy W none):=HG.o;clear h hr hk0 ha hB ww hW hbx iC eH hm hk1 hx Zz BV h50 hrw d3 d0 b0 b1 b2 b3 b4 b5;go_enter func49,ntmps49;go_upto_region 1 with fail
  try rw[HW.o.1]
  try rw[HW.o.2]
  go_wp2;go_ret;exact mW (by decide) aC.o
 ·have hb:((tl:Int) == 50)=false:=by simpa using(show ¬(tl:Int)=50 by omega)
  rw[if_neg h50];obtain⟨i0,hi0,hii⟩:=Option.map_eq_some_iff.1 UI;simp only[Prod.mk.injEq]at hii;obtain⟨hz0,hz1,hzb⟩:=hii;have hrow:=HD.o.tab;rw[BV]at hrow;obtain⟨ys,hys⟩:=zN (d.tb.flatMap (pO kv ns));have lN:Hd (d.tb.flatMap (pO kv ns)=ys):=hys;rw[hys]at hrow;have hone:∀u∈([.int .i64 kd,.string KY,.string TX,.int .i64 nu,.slice o m c,.int .i64 (pl:Nat)]:List Value),u.oneCell'=true:=by simp[Value.oneCell']
  have qQ:Hd (some D≠(Value.slice o2 tl c2).ownBlock):=QO HD.o hrow (by decide);have kT:Hd (some bx≠(Value.slice o2 tl c2).ownBlock):=by
   show _≠_;intro e;rw[BV]at hrw;obtain⟨cc,hcc⟩:=(bH hrw e.symm).2;have:=aB hcc;omega
  have bi:Hd (some a≠(Value.slice o2 tl c2).ownBlock):=uM ww hrow (by decide);have oL:Hd (W.heap[D]?=some (.cells #[.pointer (some ⟨T,0,none⟩),.bool d.fm,.slice o2 tl c2,.slice o3 d.es.length c3,vw] 62 (0,0))):=HD.o.dra;obtain⟨K,hK⟩:=zN (W.heap.size);have hB0:w0.heap.size<=K:=by rw[<-hK];exact HD.o.size
  have dY:Hd ((W.drew.alloc (.cells #[.int .i64 kd,.string KY,.string TX,.int .i64 nu,.slice o m c,.int .i64 (pl:Nat)] 64)).heap[K]?=some (.cells #[.int .i64 kd,.string KY,.string TX,.int .i64 nu,.slice o m c,.int .i64 (pl:Nat)] 64 (0,0))):=by
   have:=heap_alloc_new W.drew (.cells #[.int .i64 kd,.string KY,.string TX,.int .i64 nu,.slice o m c,.int .i64 (pl:Nat)] 64);rw[show W.drew.heap.size=K from hK]at this;exact this
  have caA:(W.alloc (.cells #[.int .i64 kd,.string KY,.string TX,.int .i64 nu,.slice o m c,.int .i64 (pl:Nat)] 64)).cell? ⟨a,0,none⟩=some (.pointer (some ⟨D,0,none⟩)):=(World.grownBy_alloc W _ none).cell ca (by simp);have d2A:(W.alloc (.cells #[.int .i64 kd,.string KY,.string TX,.int .i64 nu,.slice o m c,.int .i64 (pl:Nat)] 64)).cell? ⟨D,2,none⟩=some (.slice o2 tl c2):=(World.grownBy_alloc W _ none).cell d2 (by simp);clear h hr hk0 ha hB ww hW hbx iC eH hm hk1 hx Zz BV h50 hys hrw;go_enter func49,ntmps49;go_upto_region 1 with fail
  try rw[HW.o.1]
  try rw[HW.o.2]
  go_upto_region 3 with fail
  go_cut [] from 20 (fun wx=>∃v',Dm w0 T D Lb nv kv ns ⟨d.lk,d.fm,d.tb++[q],d.es,d.wt⟩ wx v' (.slice o3 d.es.length c3) vw xs vs/\wx.heap[bx]?=some (.cells #[.int .i64 kd,.string KY,.string TX,.int .i64 nu,.slice o m c,.int .i64 (pl:Nat)] 64 (0,0))/\wx.heap[a]?=some (.cells #[.pointer (some ⟨D,0,none⟩)] 59 (0,0)))
  case first =>
   go_region_law (refine step_append_lies _ (by rfl) _ _ _ (by rfl) w0.heap.size 64 i0 _ 6 80 underlying54 hi0 hz0 hz1 hzb (by rfl) (by decide) (.slice o2 tl c2) tl ys (by rfl) (hrow.drew.alloc _) ⟨K,0,none⟩ 1 1 [.int .i64 kd,.string KY,.string TX,.int .i64 nu,.slice o m c,.int .i64 (pl:Nat)] (by rfl) (by rfl) (World.news_of_block dY.o) hone (by omega) (by unfold maxLen;omega) (by omega) (by simp;omega) _ rfl ?_;intro g cap w3 hown3 hgrow hat hlt3;have hc3:w3.cell? ⟨D,2,none⟩=some (.slice o2 tl c2):=nH d2 hgrow qQ.o;have o8:w3.frozen? ⟨D,2,none⟩=false:=rH oL.o hgrow qQ.o;have aiW:w3.cell? ⟨a,0,none⟩=some (.pointer (some ⟨D,0,none⟩)):=nH ca hgrow bi.o)
   all_goals (
    go_wp2_with fail;go_meet;exact aiT HD.o yh.o lN.o HX.o kH.o.1 kH.o.2 kT.o bi.o hown3 hgrow)
  case rest =>
   obtain⟨v',hd2,hbx2,ha2⟩:=hcut;clear HD lN kT qQ bi oL dY hrow hi0 hz0 hz1 hzb ca d2 caA d2A b0 b1 b2 b3 b4 b5;obtain⟨i1,hi1,hjj⟩:=Option.map_eq_some_iff.1 U6;simp only[Prod.mk.injEq]at hjj;obtain⟨hy0,hy1,hyb⟩:=hjj;obtain⟨el,oO⟩:=zN d.es.length;have bn:Hd (d.es.length=el):=oO;rw[oO]at hd2 hel;have hrow:=hd2.ent.row;rw[show(⟨d.lk,d.fm,d.tb++[q],d.es,d.wt⟩:Dr).es.length=el from oO]at hrow;obtain⟨-,-,-,-,-,d3,-,-⟩:=hd2.cells;have ca:wc.cell? ⟨a,0,none⟩=some (.pointer (some ⟨D,0,none⟩)):=by rw[ag ha2];rfl
   have DC:∀u∈([.string ⟨#[]⟩,.string ⟨#[]⟩,.string ⟨#[]⟩,.slice none 0 0]:List Value),u.oneCell'=true:=by simp[Value.oneCell']
   have qQ:Hd (some D≠(Value.slice o3 el c3).ownBlock):=QO hd2 hrow (by decide);have bi:Hd (some a≠(Value.slice o3 el c3).ownBlock):=uM ha2 hrow (by decide);have oL:Hd (wc.heap[D]?=some (.cells #[.pointer (some ⟨T,0,none⟩),.bool d.fm,v',.slice o3 el c3,vw] 62 (0,0))):=hd2.dra;obtain⟨K2,hK2⟩:=zN wc.heap.size;have hB2:w0.heap.size<=K2:=by rw[<-hK2];exact hd2.size
   have dY:Hd ((wc.drew.alloc (.cells #[.string ⟨#[]⟩,.string ⟨#[]⟩,.string ⟨#[]⟩,.slice none 0 0] 33)).heap[K2]?=some (.cells #[.string ⟨#[]⟩,.string ⟨#[]⟩,.string ⟨#[]⟩,.slice none 0 0] 33 (0,0))):=by
    have:=heap_alloc_new wc.drew (.cells #[.string ⟨#[]⟩,.string ⟨#[]⟩,.string ⟨#[]⟩,.slice none 0 0] 33);rw[show wc.drew.heap.size=K2 from hK2]at this;exact this
   have caA:(wc.alloc (.cells #[.string ⟨#[]⟩,.string ⟨#[]⟩,.string ⟨#[]⟩,.slice none 0 0] 33)).cell? ⟨a,0,none⟩=some (.pointer (some ⟨D,0,none⟩)):=(World.grownBy_alloc wc _ none).cell ca (by simp);have d3A:(wc.alloc (.cells #[.string ⟨#[]⟩,.string ⟨#[]⟩,.string ⟨#[]⟩,.slice none 0 0] 33)).cell? ⟨D,3,none⟩=some (.slice o3 el c3):=(World.grownBy_alloc wc _ none).cell d3 (by simp);have HD2:Hd (Dm w0 T D Lb nv kv ns ⟨d.lk,d.fm,d.tb++[q],d.es,d.wt⟩ wc v' (.slice o3 el c3) vw xs vs):=hd2;have QP:Hd (wc.heap[bx]?=some (.cells #[.int .i64 kd,.string KY,.string TX,.int .i64 nu,.slice o m c,.int .i64 (pl:Nat)] 64 (0,0))/\wc.heap[a]?=some (.cells #[.pointer (some ⟨D,0,none⟩)] 59 (0,0))):=⟨hbx2,ha2⟩;clear hd2 hbx2 ha2 oO;go_upto_region 4 with fail
   go_cut [] from 30 (fun wx=>∃c' xs' vs' g',Dm w0 T D Lb nv kv ns ⟨d.lk,d.fm,d.tb++[q],d.es++[en0],d.wt⟩ wx v' (.slice (some ⟨g',0,none⟩) (el+1) c') vw xs' vs'/\wx.heap[bx]?=some (.cells #[.int .i64 kd,.string KY,.string TX,.int .i64 nu,.slice o m c,.int .i64 (pl:Nat)] 64 (0,0))/\wx.heap[a]?=some (.cells #[.pointer (some ⟨D,0,none⟩)] 59 (0,0)))
   case first =>
    go_region_law (refine step_append_lies _ (by rfl) _ _ _ (by rfl) w0.heap.size 33 i1 _ 4 72 underlying22 hi1 hy0 hy1 hyb (by rfl) (by decide) (.slice o3 el c3) el xs (by rfl) (hrow.drew.alloc _) ⟨K2,0,none⟩ 1 1 [.string ⟨#[]⟩,.string ⟨#[]⟩,.string ⟨#[]⟩,.slice none 0 0] (by rfl) (by rfl) (World.news_of_block dY.o) DC (by omega) (by unfold maxLen;omega) (by omega) (by simp;omega) _ rfl ?_;intro g cap w3 hown3 hgrow hat hlt3;have hc3:w3.cell? ⟨D,3,none⟩=some (.slice o3 el c3):=nH d3 hgrow qQ.o;have o8:w3.frozen? ⟨D,3,none⟩=false:=rH oL.o hgrow qQ.o;have aiW:w3.cell? ⟨a,0,none⟩=some (.pointer (some ⟨D,0,none⟩)):=nH ca hgrow bi.o)
    all_goals (
     go_wp2_with fail;go_meet;exact aiU HD2.o bn.o QP.o.1 QP.o.2 hown3 hgrow)
   case rest =>
    obtain⟨c',xs',vs',g',hd3,yA,QQ⟩:=hcut;clear HD2 QP qQ bi oL dY hrow hi1 hy0 hy1 hyb ca d3 caA d3A;obtain⟨-,-,e0,-,-,e3,-,-⟩:=hd3.cells;have ca:wc.cell? ⟨a,0,none⟩=some (.pointer (some ⟨D,0,none⟩)):=by rw[ag QQ];rfl
    have b0:wc.cell? ⟨bx,0,none⟩=some (.int .i64 kd):=by rw[ag yA];rfl
    have b1:wc.cell? ⟨bx,1,none⟩=some (.string KY):=by rw[ag yA];rfl
    have b2:wc.cell? ⟨bx,2,none⟩=some (.string TX):=by rw[ag yA];rfl
    have b3:wc.cell? ⟨bx,3,none⟩=some (.int .i64 nu):=by rw[ag yA];rfl
    have b4:wc.cell? ⟨bx,4,none⟩=some (.slice o m c):=by rw[ag yA];rfl
    have b5:wc.cell? ⟨bx,5,none⟩=some (.int .i64 (pl:Nat)):=by rw[ag yA];rfl
    have HD3:Hd (Dm w0 T D Lb nv kv ns ⟨d.lk,d.fm,d.tb++[q],d.es++[en0],d.wt⟩ wc v' (.slice (some ⟨g',0,none⟩) (el+1) c') vw xs' vs'):=hd3;have ZA:Hd (wc.heap[bx]?=some (.cells #[.int .i64 kd,.string KY,.string TX,.int .i64 nu,.slice o m c,.int .i64 (pl:Nat)] 64 (0,0))/\wc.heap[a]?=some (.cells #[.pointer (some ⟨D,0,none⟩)] 59 (0,0))):=⟨yA,QQ⟩;have iy:Hd (wc.grownBy wc.drew none):=ay (au wc none) 1;have CT:Hd (Calls prog 50 #[.pointer (some ⟨D,0,none⟩),.int .i64 (el:Nat)] wc.drew fun e w'=>∃A C,e=.returned (.func (.func 75) #[] #[.pointer (some ⟨A,0,none⟩),.pointer (some ⟨C,0,none⟩)])/\(w'.heap[A]?=some (.cells #[.pointer (some ⟨D,0,none⟩)] 59 (0,0))/\w'.heap[C]?=some (.cells #[.int .i64 (el:Nat)] 3 (0,0)))/\wc.drew.grownBy w' none):=(ahi D (el:Nat) wc.drew).mono fun e w' ⟨a1,a2⟩=>by
     refine⟨_,_,a1,⟨?_,?_⟩,by rw[a2];exact bC (bC (au _ none) _) _⟩
     ·rw[a2,Lib.alloc_old _ _ _ (by simp)];exact heap_alloc_new _ _
     ·rw[a2];have:=heap_alloc_new (wc.drew.alloc (.cells #[.pointer (some ⟨D,0,none⟩)] 59)) (.cells #[.int .i64 (el:Nat)] 3)
      rwa [World.size_alloc]at this
    have CK:Hd (∀A C w2,wc.drew.grownBy w2 none->(w2.heap[A]?=some (.cells #[.pointer (some ⟨D,0,none⟩)] 59 (0,0))/\w2.heap[C]?=some (.cells #[.int .i64 (el:Nat)] 3 (0,0)))->Calls prog 22 #[.pointer (some ⟨T,0,none⟩),.agg #[.int .i64 kd,.string KY,.string TX,.int .i64 nu,.slice o m c,.int .i64 (pl:Nat)],.func (.func 75) #[] #[.pointer (some ⟨A,0,none⟩),.pointer (some ⟨C,0,none⟩)]] w2 fun e w3=>e=.returned (.tuple #[])/\Hd (Dm w0 T D Lb nv kv ns (keepD ⟨d.lk,d.fm,d.tb++[q],d.es++[en0],d.wt⟩ ks (.key el)) w3 v' (.slice (some ⟨g',0,none⟩) (el+1) c') vw xs' vs')/\w3.cell? ⟨a,0,none⟩=some (.pointer (some ⟨D,0,none⟩))/\w3.cell? ⟨D,0,none⟩=some (.pointer (some ⟨T,0,none⟩))/\w3.cell? ⟨D,3,none⟩=some (.slice (some ⟨g',0,none⟩) (el+1) c')/\w3.cell? ⟨bx,0,none⟩=some (.int .i64 kd)/\w3.cell? ⟨bx,1,none⟩=some (.string KY)/\w3.cell? ⟨bx,2,none⟩=some (.string TX)/\w3.cell? ⟨bx,3,none⟩=some (.int .i64 nu)/\w3.cell? ⟨bx,4,none⟩=some (.slice o m c)/\w3.cell? ⟨bx,5,none⟩=some (.int .i64 (pl:Nat))):=fun A C w2 hg hAC=>by
     have hgW:=ai iy.o hg;have:=keep_any (HD3.o.grow hgW) ⟨kd,ky,tx,nu,ks,pl⟩ (.slice o m c) kG.o HR.o hl 75 #[.pointer (some ⟨A,0,none⟩),.pointer (some ⟨C,0,none⟩)] (.key el) ⟨A,C,rfl,hAC.1,hAC.2⟩;unfold dQ at this;simp only[]at this;rw[eP.o.1,eP.o.2]at this;refine this.mono fun e w3 ⟨a1,a2,a3⟩=>?_
     have y1:=(a3 _ (by decide)).blk ((aV hgW).blk ZA.o.1);have y2:=(a3 _ (by decide)).blk ((aV hgW).blk ZA.o.2);obtain⟨-,-,f0,-,-,f3,-,-⟩:=a2.cells;exact⟨a1,a2,by rw[ag y2];rfl,f0,f3,by rw[ag y1];rfl,by rw[ag y1];rfl,by rw[ag y1];rfl,by rw[ag y1];rfl,by rw[ag y1];rfl,by rw[ag y1];rfl⟩
    have hwr:IntKind.i64.wrap (el:Int)=(el:Int):=by rw[IntKind.wrap_i64];omega
    clear hd3 yA QQ;go_upto_region 5 with fail
    go_region_held3 (fun u=>u.cell? ⟨a,0,none⟩=some (.pointer (some ⟨D,0,none⟩))/\u.cell? ⟨D,0,none⟩=some (.pointer (some ⟨T,0,none⟩))/\u.cell? ⟨D,3,none⟩=some (.slice (some ⟨g',0,none⟩) (el+1) c')/\u.cell? ⟨bx,0,none⟩=some (.int .i64 kd)/\u.cell? ⟨bx,1,none⟩=some (.string KY)/\u.cell? ⟨bx,2,none⟩=some (.string TX)/\u.cell? ⟨bx,3,none⟩=some (.int .i64 nu)/\u.cell? ⟨bx,4,none⟩=some (.slice o m c)/\u.cell? ⟨bx,5,none⟩=some (.int .i64 (pl:Nat))) ((first|assumption|exact cells9 (by assumption) (by assumption)|go_keep)) (first|(go_at_call 50;(try rw[hwr]);refine CT.o.mono ?_;rintro e w6 ⟨A,C,rfl,Fz,eY⟩)|(go_at_call 22;refine(CK.o _ _ _ eY Fz).mono ?_;rintro e w7 ⟨rfl,hall,hcl⟩))
    go_wp2;go_ret;have:=hall.o;rw[bn.o];exact yu hall.o
end
open Go.RowKit Go.Maps Go.WideMaps Go.Joins
theorem QR{α:Type}(f:α->List Value)(s:Nat):∀(L:List α) (i k:Nat) (hi:i<L.length),(∀x∈L,(f x).length=s)->k<s->(L.flatMap f)[i*s+k]?=(f L[i])[k]?
 | [],i,k,hi,_,_=>absurd hi (by simp)
 | x :: L,0,k,hi,h,hk=>by
  rw[List.flatMap_cons,List.getElem?_append_left (by rw[h x (by simp)];omega)];simp
 | x :: L,i+1,k,hi,h,hk=>by
  have hx:=h x (by simp);rw[List.flatMap_cons,List.getElem?_append_right (by rw[hx,Nat.succ_mul];omega),hx,show(i+1)*s+k-s=i*s+k by rw[Nat.succ_mul];omega];exact QR f s L i k (by simpa using hi) (fun y hy=>h y (by simp[hy])) hk
theorem aiX(v:Value)(L:List En)(w:World)(h:EnS w v L)(hL:L.length<=1048576)(hz:∀x∈L,x.nm.size<=maxLen) :
  Calls prog 17 #[v] w fun e w'=>∃B,e=.returned (.map (some B))/\w'.ownsMap prog 9 (plainElem (H:=Unit) prog 3) B L.length (gu L L.length)/\w.grownBy w' none:=by
 rcases h with⟨rfl,rfl⟩|⟨a,cap,rfl,hcap,h⟩
 ·have hmm:=Ou 0 w;go_enter func17,ntmps17;go_wp2;obtain⟨B,hB⟩:=zN (w.heap.size);have HB:=ae hB
  try rw[hB]
  clear hB;go_loopw [13] (fun vi wr=>vi=.int .i64 0/\wr.ownsMap prog 9 (plainElem (H:=Unit) prog 3) B 0 (.map [])/\w.grownBy wr none) (fun vi _=>0)
  case atStart=>exact⟨rfl,HB.o ▸ World.ownsMap_made _ _ _ _,bC (au w none) _⟩
  case round =>
   obtain⟨rfl,ho,hb⟩:=hrel;have HG:=ae hb;have HO:=ae ho;clear hb hmm ho;go_wp2;refine bodyPost_ret (results_tmp (t:=2) rfl _ _ _) rfl ⟨B,rfl,HO.o,HG.o⟩
 ·exact Xa a cap L w hL hcap hz h
theorem ZB{α:Type}(p:α->Bool)(L:List α)(i:Nat)(hi:i<L.length)(h:(L.take i).find? p=none):(p L[i]=false->(L.take (i+1)).find? p=none)/\(p L[i]=true->L.find? p=some L[i]):=by
 constructor
 ·intro hp;rw[List.take_succ_eq_append_getElem hi,List.find?_append,h];simp[hp]
 ·intro hp;have e:L=L.take i++L[i] :: L.drop (i+1):=by rw[<-List.drop_eq_getElem_cons hi,List.take_append_drop]
  have e2:L.find? p=(L.take i++L[i] :: L.drop (i+1)).find? p:=congrArg _ e;rw[e2,List.find?_append,h,List.find?_cons_of_pos hp];rfl
section
variable {w0:World} {T D Lb:Nat} {nv:Value} {kv:Nat->Value} {ns:List Tn} {d:Dr} {w w':World} {vt ve vw:Value} {xs:List Value} {vs:Nat->Value}
theorem ZC{t:TypeId}{s n g c:Nat}{ys:List Value}(h:w.ownsRow w0.heap.size t s (.slice (some ⟨g,0,none⟩) n c) n ys)(j:Nat)(u:Value)(hu:ys[j]?=some u):w.cell? ⟨g,j,none⟩=some u:=by
 have:=h.cells (g:=g) rfl j u hu;rw[nC]at this;exact this
theorem ZE{t:TypeId}{s n:Nat}{v:Value}{ys:List Value}(h:w.ownsRow w0.heap.size t s v n ys)(hn:0<n):∃g c,v=.slice (some ⟨g,0,none⟩) n c/\n<=c:=by
 rcases h.2 with⟨_,e⟩|⟨g,cap,cu,e1,_,_,hn',_⟩
 ·omega
 ·exact⟨g,cap,e1,hn'⟩
theorem aiY{N c:Nat}(h:Dm w0 T D Lb nv kv ns d w vt ve vw xs vs)(H:Nd w0 N c kv ns)(I:DrI d)(M:DrN d)(hwt:d.wt.length<=1000000)(htb:∀q∈d.tb,q<ns.length) :
  Calls prog 28 #[.pointer (some ⟨D,0,none⟩)] w fun e w'=>e=.returned (.tuple #[.int .i64 (lC ns d).1,.int .i64 ((lC ns d).2:Nat)])/\w.grownBy w' none:=by
 obtain⟨-,-,-,d1,d2,d3,d4,-⟩:=h.cells;obtain⟨Z,Y,hZ⟩:∃Z Y,lC ns d=(Z,Y):=⟨_,_,rfl⟩;rw[hZ];simp only[];have HZ:=ae hZ;clear hZ;have HD:=ae h;obtain⟨fm,hfm⟩:=zN d.fm;have QS:=ae hfm;rw[hfm]at d1;clear hfm
 cases fm with
 | false =>
  have HY:Hd (Z=6/\Y=0):=by
   have:=HZ.o;unfold lC at this;rw[if_pos QS.o]at this;injection this with h1 h2
   exact⟨h1.symm,h2.symm⟩
  clear h d2 d3 d4 HZ;go_enter func28,ntmps28;go_wp2;refine bodyPost_ret (results_tmp2 (t:=2) (u:=3) rfl _ _ _) rfl ⟨?_,au _ _⟩;rw[HY.o.1,HY.o.2];rfl
 | true =>
  obtain⟨o2,c2,hvt⟩:=mG h.tab;obtain⟨o5,c5,hvw⟩:=mG h.wan;subst hvt hvw;have hrt:=h.tab;have hrw:=h.wan;obtain⟨tl,htl⟩:=zN (d.tb.length);obtain⟨wl,hwl⟩:=zN (d.wt.length);have ajI:tl<=50:=by rw[<-htl];exact I.t50
  have ajJ:wl<=1000000:=by rw[<-hwl];exact hwt
  rw[htl]at hrt d2;rw[hwl]at hrw d4;have ZF:=ae hrt;have HRW:=ae hrw;have HL:Hd (d.tb.length=tl/\d.wt.length=wl):=⟨htl,hwl⟩;have HH:=ae H;have JE:=ae htb;have jl:=ae h.gb;have nI:=ae M.wt;have HC:=ae (fun w' (hg:w.grownBy w' none)=>aiX ve d.es w' (h.ent.ens.grow hg) (by have:=I.tl;have:=I.t50;omega) (fun x hx=>by have:=M.es x hx;unfold maxLen;omega));have HZ2:Hd ((match d.tb.find? (fun q=>decide ((af ns q).length<4)) with|some q=>((6:Int),iM ns q)|none=>match d.wt.find? (fun y=>!aT d.es y.1) with|some y=>(6,y.2)|none=>(0,0))=(Z,Y)):=by
   have:=HZ.o;unfold lC at this;rw[QS.o,if_neg (by simp)]at this;exact this
  have ZG:∀t,Maps.has (gu d.es d.es.length) (je t)=aT d.es t:=fun t=>by rw[Ez d.es t _ (Nat.le_refl _),List.take_length]
  have EF:=ae ZG;obtain⟨oe,ce,sN⟩:=mG h.ent.row;clear h hrt hrw htl hwl htb hwt HZ QS ZG H M I HD;subst sN;go_enter func28,ntmps28;go_wp2;go_loopw [21] (fun vi wr=>∃i:Nat,vi=.int .i64 (i:Nat)/\i<=tl/\(d.tb.take i).find? (fun q=>decide ((af ns q).length<4))=none/\w.grownBy wr none) (fun vi _=>tl-(intOf vi).toNat)
  case atStart=>exact⟨0,rfl,by omega,rfl,au _ _⟩
  case round =>
   obtain⟨i,rfl,hi,hf,hg⟩:=hrel;have HF:=ae hf;have HG:=ae hg;clear hf hg
   by_cases hlt:i<tl
   ·have hin:i<d.tb.length:=by rw[HL.o.1];exact hlt
    obtain⟨g,c',hsl,hnc⟩:=ZE ZF.o (by omega)
    cases hsl
    obtain⟨q,hq⟩:=zN (d.tb[i]);have dU:=JE.o q (by rw[<-hq];exact List.getElem_mem hin);have ZH:pO kv ns q=(dQ ns[q] (kv q)).toList:=by unfold pO;rw[List.getElem?_eq_getElem dU]
    have key:∀k u,k<6->(dQ ns[q] (kv q)).toList[k]?=some u->wr.cell? ⟨g,i*6+k,none⟩=some u:=fun k u hk hu=>by
     refine HG.o.cell (ZC ZF.o (i*6+k) u ?_) (by simp);rw[QR (pO kv ns) 6 d.tb i k hin (fun p hp=>by unfold pO;rw[List.getElem?_eq_getElem (JE.o p hp)];rfl) hk,hq,ZH];exact hu
    obtain⟨ok,ck,hkk,-⟩:=HH.o.kid q dU;have hkl:=HH.o.num q dU;have hks:af ns q=ns[q].ks:=by unfold af;rw[List.getElem?_eq_getElem dU]
    have hpl:iM ns q=ns[q].pl:=by unfold iM;rw[List.getElem?_eq_getElem dU]
    have iI:Hd ((¬ns[q].ks.length<4->(d.tb.take (i+1)).find? (fun q=>decide ((af ns q).length<4))=none)/\(ns[q].ks.length<4->Z=6/\Y=ns[q].pl)):=by
     have:=ZB (fun q=>decide ((af ns q).length<4)) d.tb i hin HF.o;rw[hq,hks]at this;refine⟨fun hh=>this.1 (decide_eq_false hh),fun hh=>?_⟩;have h2:=this.2 (decide_eq_true hh);have h3:=HZ2.o;rw[h2]at h3;simp only[]at h3;injection h3 with h4 h5
     exact⟨h4.symm,by rw[<-h5,hpl]⟩
    obtain⟨x,hx⟩:=zN (ns[q]);rw[hx]at key hkk iI hkl;rw[hkk]at key;have k0:wr.cell? ⟨g,i*6,none⟩=some (.int .i64 x.kd):=key 0 _ (by decide) rfl;have k1:=key 1 _ (by decide) rfl;have k2:=key 2 _ (by decide) rfl;have k3:=key 3 _ (by decide) rfl;have k4:=key 4 _ (by decide) rfl;have k5:=key 5 _ (by decide) rfl;obtain⟨m,hm⟩:=zN (x.ks.length);rw[hm]at k4 iI hkl;clear key ZH hkk hx hm hks hpl hq hin dU
    by_cases h4:m<4
    ·have h4I:(m:Int)<4:=by omega
     have yB:=ae (iI.o.2 h4);clear iI h4;go_wp2;go_quiet (fail);go_wp2;refine bodyPost_ret (results_tmp2 (t:=2) (u:=3) rfl _ _ _) rfl ⟨?_,?_⟩
     ·rw[yB.o.1,yB.o.2];rfl
     ·exact ai HG.o (ay (bC (au wr none) _) _)
    ·have h4I:¬(m:Int)<4:=by omega
     have kR:=ae (iI.o.1 h4);clear iI h4;go_wp2;exact⟨⟨i+1,by go_num,by omega,kR.o,ai HG.o (bC (au wr none) _)⟩,by simp[intOf];omega⟩
   ·have ZI:Hd (d.tb.find? (fun q=>decide ((af ns q).length<4))=none):=by
     have:=HF.o;have e:i=d.tb.length:=by rw[HL.o.1];omega
     rw[e,List.take_length]at this;exact this
    have d3w:=HG.o.cell d3 (by simp);have d4w:=HG.o.cell d4 (by simp);clear HF;go_wp2_with (go_at_call 17;refine(HC.o _ HG.o).mono ?_);rintro e w2 ⟨B,rfl,ho,hg2⟩;have HG2:=ae (ai HG.o hg2);have HO:=ae ho;have d4':=hg2.cell d4w (by simp);clear hg2 ho d3w d4w;go_wp2;go_loopw [42] (fun vi wr=>∃i:Nat,vi=.int .i64 (i:Nat)/\i<=wl/\(d.wt.take i).find? (fun y=>!aT d.es y.1)=none/\wr.ownsMap prog 9 (plainElem (H:=Unit) prog 3) B d.es.length (gu d.es d.es.length)/\w.grownBy wr none) (fun vi _=>wl-(intOf vi).toNat)
    case atStart=>exact⟨0,rfl,by omega,rfl,HO.o,HG2.o⟩
    case round =>
     obtain⟨j,rfl,hj,hf,hown,hg⟩:=hrel;have HF:=ae hf;have aK:=ae hg;have HO3:=ae hown;clear hf hg hown
     by_cases hlt:j<wl
     ·have hjn:j<d.wt.length:=by rw[HL.o.2];exact hlt
      obtain⟨g,c',hsl,hnc⟩:=ZE HRW.o (by omega)
      cases hsl
      obtain⟨y,hy⟩:=zN (d.wt[j]);have key:∀k u,k<2->(yt y)[k]?=some u->wr.cell? ⟨g,j*2+k,none⟩=some u:=fun k u hk hu=>by
       refine aK.o.cell (ZC HRW.o (j*2+k) u ?_) (by simp);rw[QR yt 2 d.wt j k hjn (fun p hp=>rfl) hk,hy];exact hu
      have k0:wr.cell? ⟨g,j*2,none⟩=some (.string y.1):=key 0 _ (by decide) rfl;have k1:=key 1 _ (by decide) rfl;have hys:=nI.o y (by rw[<-hy];exact List.getElem_mem hjn);have hkey:keyOf prog 9 (.string y.1)=some (je y.1):=Go.WideMaps.keyOf_string_mk underlying9 (by unfold maxLen;omega);have iI:Hd ((aT d.es y.1=true->(d.wt.take (j+1)).find? (fun y=>!aT d.es y.1)=none)/\(aT d.es y.1=false->Z=6/\Y=y.2)):=by
       have:=ZB (fun y=>!aT d.es y.1) d.wt j hjn HF.o;rw[hy]at this;refine⟨fun hh=>this.1 (by rw[hh];rfl),fun hh=>?_⟩;have h2:=this.2 (by rw[hh];rfl);have h3:=HZ2.o;rw[ZI.o,h2]at h3;simp only[]at h3;injection h3 with h4 h5
       exact⟨h4.symm,h5.symm⟩
      have hown2:=HO3.o.alloc (.cells #[.string y.1,.int .i64 (y.2:Nat)] 109);obtain⟨q,hq⟩:=zN (Maps.has (gu d.es d.es.length) (je y.1));have HQ:=ae ((EF.o y.1).symm.trans hq);clear key hjn hy hys
      cases q with
      | true =>
       have kR:=iI.o.1 HQ.o;have tV:=ae kR;clear iI kR;go_wp2_with (first|(at_lookup;refine wpList_lookup_own_ok_int _ rfl _ _ 50 rfl 9 3 .i64 keyS underlying50 underlying3 (A7 _) B _ _ rfl hown2 _ _ rfl hkey ?_;intro cc hat hwc;rw[hq])|go_in);exact⟨⟨j+1,by go_num,by omega,tV.o,hown2,ai aK.o (bC (au wr none) _)⟩,by simp[intOf];omega⟩
      | false =>
       have yB:=ae (iI.o.2 HQ.o);clear iI;go_wp2_with (first|(at_lookup;refine wpList_lookup_own_ok_int _ rfl _ _ 50 rfl 9 3 .i64 keyS underlying50 underlying3 (A7 _) B _ _ rfl hown2 _ _ rfl hkey ?_;intro cc hat hwc;rw[hq])|go_in);go_quiet (fail);go_wp2;refine bodyPost_ret (results_tmp2 (t:=2) (u:=3) rfl _ _ _) rfl ⟨?_,?_⟩
       ·rw[yB.o.1,yB.o.2];rfl
       ·exact ai aK.o (ay (bC (au wr none) _) _)
     ·have DK:Hd (d.wt.find? (fun y=>!aT d.es y.1)=none):=by
       have:=HF.o;have e:j=d.wt.length:=by rw[HL.o.2];omega
       rw[e,List.take_length]at this;exact this
      have yB:Hd (Z=0/\Y=0):=by
       have h3:=HZ2.o;rw[ZI.o,DK.o]at h3;simp only[]at h3;injection h3 with h4 h5
       exact⟨h4.symm,h5.symm⟩
      clear HF;go_wp2;refine bodyPost_ret (results_tmp2 (t:=2) (u:=3) rfl _ _ _) rfl ⟨?_,aK.o⟩;rw[yB.o.1,yB.o.2];rfl
end
end Go.Proofs.YtnnbgjaphfhibaaGreatDoor
