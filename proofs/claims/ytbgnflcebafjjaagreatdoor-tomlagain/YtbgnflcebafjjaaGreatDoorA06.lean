import Derived.Test.YtbgnflcebafjjaaGreatDoorA04
namespace Go.Proofs.YtbgnflcebafjjaaGreatDoor
open Go.RowKit Go.Maps Go.WideMaps Go.Joins
set_option linter.unusedVariables false
theorem hold_at (ns:List Tn) (own:List Nat) (t:Nat) (k:List UInt8) (h0:kdAt ns t=0):hold ns own t k=(kidO ns t k).map fun q=>(q,decide (q ∈ own)):=by unfold hold;rw [if_pos h0]
theorem es_gb {w w':World} {E:Int->TypeId × Value} (h:Es w E) (hg:w.grownBy w' none):Es w' E:=⟨hg.cell h.te (by simp),hg.cell h.ra (by simp),hg.cell h.ma (by simp),hg.cell h.tw (by simp)⟩
theorem gb_dr2 (w:World) (o:Obj):w.grownBy (w.alloc o).drew none:=by
 have:=World.grownBy_alloc w o none
 exact ⟨this.os,this.tape,this.output,this.size,this.block⟩
def FePost (E:Int->TypeId × Value) (r:Option Nat) (pl:Nat) (w:World) (e:Ending) (w':World):Prop:=(r=none->e=.returned .nilIface)/\(∀q,r=some q->∃v,e=.returned v/\FaultE w' v E 5 pl)/\w.grownBy w' none
set_option maxRecDepth 100000 in
set_option maxHeartbeats 1600000 in
theorem tFree_any (B T:Nat) (ns:List Tn) (own:List Nat) (now:Nat) (E:Int->TypeId × Value) (k:List UInt8) (pl:Nat) (w:World) (h:Tr w B T ns own now) (h0:kdAt ns now=0) (hnw:now<=1000000) (hk:k.length<=1048576) (he:Es w E) :
  Calls Tryz.prog 76 #[.pointer (some ⟨T,0,none⟩),.agg #[.string ⟨k.toArray⟩,.int .i64 (pl:Nat)]] w (FePost E (kidO ns now k) pl w):=by
 obtain ⟨N,c,M,xs,ks,hD⟩:=h
 have CW:Hid (∀w,Calls Tryz.prog 101 #[.iface (E 5).1 (E 5).2,.int .i64 (pl:Nat)] w fun e w'=>(∃v,e=.returned v/\FaultV w' v pl (E 5).1 (E 5).2)/\w.grownBy w' none):=fun w=>tWrong_any pl _ _ w
 have hgK:w.grownBy (w.alloc (.cells #[.string ⟨k.toArray⟩,.int .i64 (pl:Nat)] 133)) none:=World.grownBy_alloc w _ none
 have hbK:=heap_alloc_new w (.cells #[.string ⟨k.toArray⟩,.int .i64 (pl:Nat)] 133)
 obtain ⟨K,hKe⟩:∃K,w.heap.size=K:=⟨_,rfl⟩
 rw [hKe] at hbK
 have hD1:=hD.keeps (keeps_gb hgK)
 have he1:=es_gb he hgK
 obtain ⟨w1,hw1⟩:∃w1,w.alloc (.cells #[.string ⟨k.toArray⟩,.int .i64 (pl:Nat)] 133)=w1:=⟨_,rfl⟩
 rw [hw1] at hbK hD1 hgK he1
 obtain ⟨-,t1,t2,-⟩:=hD1.cells
 have k0:w1.cell? ⟨K,0,none⟩=some (.string ⟨k.toArray⟩):=by rw [Lib.cell_of_heap hbK];rfl
 have k1:w1.cell? ⟨K,1,none⟩=some (.int .i64 (pl:Nat)):=by rw [Lib.cell_of_heap hbK];rfl
 have gA:w1.grownBy (w1.alloc (.cells #[.int .i64 0,.bool false] 164)) none:=World.grownBy_alloc w1 _ none
 have t1A:=gA.cell t1 (by simp)
 have t2A:=gA.cell t2 (by simp)
 have k0A:=gA.cell k0 (by simp)
 have hl:∀W:World,W.heap[M]?=w1.heap[M]?->(Instr.lookup 62 (.map (some M)) (keyV now k) true).run Tryz.prog W=.ok (match hold ns own now k with | some v=>.tuple #[.agg #[.int .i64 (v.1:Nat),.bool v.2],.bool true] | none=>.tuple #[.agg #[.int .i64 0,.bool false],.bool false]) W:=fun W hW=>(hD1.map.block hW).look now k (by omega) hk
 obtain ⟨es,cc,hm0⟩:=hD1.map.map
 have l1:=hl w1.drew rfl
 have l2:=hl (w1.alloc (.cells #[.int .i64 0,.bool false] 164)).drew ((gA.block M (blk_lt hm0) (by simp)))
 rw [hold_at ns own now k h0] at l1 l2
 unfold keyV at l1 l2
 have HG1:Hid (w.grownBy w1 none):=hgK
 have HE1:Hid (Es w1 E):=he1
 have HFE:Hid (∀w' v,FaultV w' v pl (E 5).1 (E 5).2->FaultE w' v E 5 pl):=fun _ _ h=>h
 obtain ⟨ty,hty⟩:∃ty,(E 5).1=ty:=⟨_,rfl⟩
 obtain ⟨pv,hpv⟩:∃pv,(E 5).2=pv:=⟨_,rfl⟩
 have tw1:=he1.tw
 rw [hty,hpv] at CW HFE tw1
 clear hD hbK hD1 hgK he1 he hl hm0 hty hpv gA
 cases hq:kidO ns now k with
 | none =>
  rw [hq] at l1 l2
  simp only [Option.map_none] at l1 l2
  clear hq
  go_enter Tryz.func76,Tryz.ntmps76
  go_wp2
  go_region
  all_goals (
   go_wp2
   exact bodyPost_ret (results_tmp (t:=4) rfl _ _ _) rfl ⟨fun _=>rfl,fun q hh=>(by cases hh),gb_trans HG1.out (gb_dr2 w1 _)⟩)
 | some q =>
  rw [hq] at l1 l2
  simp only [Option.map_some] at l1 l2
  have gB:w1.grownBy (w1.alloc (.cells #[.int .i64 (q:Nat),.bool (decide (q ∈ own))] 164)) none:=World.grownBy_alloc w1 _ none
  have twB:=gB.cell tw1 (by simp)
  have k1B:=gB.cell k1 (by simp)
  clear hq gB
  generalize decide (q ∈ own)=bb at l1 l2 twB k1B
  go_enter Tryz.func76,Tryz.ntmps76
  go_wp2
  go_region
  all_goals (
   go_wp2_with (first | (go_at_call 101;refine (CW.out _).mono ?_;rintro e w3 ⟨⟨v,rfl,hv⟩,hg3⟩))
   exact bodyPost_ret (results_tmp (t:=4) rfl _ _ _) rfl ⟨fun hh=>(by cases hh),fun q hh=>⟨v,rfl,HFE.out _ _ hv⟩,gb_trans (gb_trans HG1.out (gb_dr2 w1 _)) hg3⟩)
def PsPost (B T:Nat) (own:List Nat) (now:Nat) (E:Int->TypeId × Value) (r:Rs (Nat × List Tn)) (w:World) (e:Ending) (w':World):Prop :=
 (∀t ns,r=.ok (t,ns)->e=.returned (.tuple #[.int .i64 (t:Nat),.nilIface])/\Tr w' B T ns own now)/\(∀c p,r=.error (c,p)->∃v,e=.returned (.tuple #[.int .i64 0,v])/\FaultE w' v E c p)/\Fr B w w'
theorem kid_lt {ns:List Tn} {own:List Nat} (W:WF ns own) {t q:Nat} {k:List UInt8} (h:kidO ns t k=some q):q < ns.length:=W.lt _ _ (kidO_mem h).1
theorem Tr.gb {w w':World} {B T:Nat} {ns:List Tn} {own:List Nat} {now:Nat} (h:Tr w B T ns own now) (hg:w.grownBy w' none):Tr w' B T ns own now:=by
 obtain ⟨N,c,M,xs,ks,hD⟩:=h
 exact ⟨N,c,M,xs,ks,hD.keeps (keeps_gb hg)⟩
theorem Tr.base {w:World} {B T:Nat} {ns:List Tn} {own:List Nat} {now:Nat} (h:Tr w B T ns own now):B<=w.heap.size:=by
 obtain ⟨N,c,M,xs,ks,hD⟩:=h
 exact Nat.le_of_lt (Nat.lt_of_le_of_lt hD.bT (blk_lt hD.blk))
theorem two_cells {w:World} {b:Nat} {v0 v1:Value} {t:TypeId} (h:w.heap[b]?=some (.cells #[v0,v1] t (0,0))):w.cell? ⟨b,0,none⟩=some v0/\w.cell? ⟨b,1,none⟩=some v1/\∀i,w.frozen? ⟨b,i,none⟩=false :=
 ⟨by rw [Lib.cell_of_heap h];rfl,by rw [Lib.cell_of_heap h];rfl,fun i=>Lib.frozen_of_heap h i⟩
theorem six_cells {w:World} {b:Nat} {v0 v1 v2 v3 v4 v5:Value} {t:TypeId} (h:w.heap[b]?=some (.cells #[v0,v1,v2,v3,v4,v5] t (0,0))):w.cell? ⟨b,0,none⟩=some v0/\w.cell? ⟨b,4,none⟩=some v4 :=
 ⟨by rw [Lib.cell_of_heap h];rfl,by rw [Lib.cell_of_heap h];rfl⟩
theorem blk_gb {w w':World} {b:Nat} {o:Obj} (h:w.heap[b]?=some o) (hg:w.grownBy w' none):w'.heap[b]?=some o:=(hg.block b (blk_lt h) (by simp)).trans h
theorem look_all {w1:World} {B T:Nat} {ns:List Tn} {now N c M:Nat} {xs:List Value} {ks:Nat->Value} {n:Nat} {own:List Nat} (hD1:TrD w1 B T ns now N c M xs ks n (hold ns own)) (t:Nat) (k:List UInt8) (h0:kdAt ns t=0) (ht:t < 4611686018427387904) (hk:k.length<=1048576) (W:World) (hW:w1.grownBy W none) :
  (Instr.lookup 62 (.map (some M)) (.agg #[.int .i64 (t:Nat),.string ⟨k.toArray⟩]) true).run Tryz.prog W=.ok (match kidO ns t k with | some q=>.tuple #[.agg #[.int .i64 (q:Nat),.bool (decide (q ∈ own))],.bool true] | none=>.tuple #[.agg #[.int .i64 0,.bool false],.bool false]) W:=by
 obtain ⟨es,cc,hm0⟩:=hD1.map.map
 have h1:=(hD1.map.block (hW.block M (blk_lt hm0) (by simp))).look t k ht hk
 rw [hold_at ns own t k h0] at h1
 unfold keyV at h1
 cases hq:kidO ns t k with
 | none=>rw [hq] at h1;exact h1
 | some q=>rw [hq] at h1;exact h1
theorem wrapJ (j:Nat) (h:j<=1000000):wrap64 (j:Int)=(j:Int):=by
 unfold wrap64
 omega
theorem gb_d (w:World):w.grownBy w.drew none:=⟨rfl,rfl,rfl,Nat.le_refl _,fun _ _ _=>rfl⟩
set_option maxRecDepth 100000 in
set_option maxHeartbeats 3200000 in
theorem tPass_any (B T:Nat) (ns:List Tn) (own:List Nat) (now t:Nat) (E:Int->TypeId × Value) (k:List UInt8) (pl:Nat) (w:World) (h:Tr w B T ns own now) (W:WF ns own) (WW:WT ns) (ht:t < ns.length) (h0:kdAt ns t=0) (hsz:ns.length+own.length<=1000000) (hk:k.length<=1048576) (he:Es w E) :
  Calls Tryz.prog 96 #[.pointer (some ⟨T,0,none⟩),.int .i64 (t:Nat),.agg #[.string ⟨k.toArray⟩,.int .i64 (pl:Nat)]] w (PsPost B T own now E (stp ns t k pl) w):=by
 have CW:Hid (∀w,Calls Tryz.prog 101 #[.iface (E 5).1 (E 5).2,.int .i64 (pl:Nat)] w fun e w'=>(∃v,e=.returned v/\FaultV w' v pl (E 5).1 (E 5).2)/\w.grownBy w' none):=fun w=>tWrong_any pl _ _ w
 have CA:Hid (kidO ns t k=none->∀w',w.grownBy w' none->Calls Tryz.prog 102 #[.pointer (some ⟨T,0,none⟩),.int .i64 (t:Nat),.int .i64 0,.agg #[.string ⟨k.toArray⟩,.int .i64 (pl:Nat)]] w' (AdPost B T ns own now t ⟨0,k,[],0,[],pl⟩ w')):=fun hn w' hg=>tAdd_any B T ns own now t 0 k pl w' (h.gb hg) W ht (fun _=>hn) hsz hk
 have HSS:Hid (stp ns t k pl=match kidO ns t k with | none=>.ok (ns.length,addN ns t ⟨0,k,[],0,[],pl⟩) | some q=>if kdAt ns q=0 then .ok (q,ns) else if kdAt ns q=2 then (match ns[q]? with | some u=>.ok (u.ks.getLastD 0,ns) | none=>.error (5,pl)) else .error (5,pl)):=rfl
 have HQL:Hid (∀q,kidO ns t k=some q->q < ns.length):=fun q hq=>kid_lt W hq
 have HKL:Hid (∀p,(ksAt ns p).length<=ns.length):=W.len
 have HTR:Hid (Tr w B T ns own now):=h
 have hB:B<=w.heap.size:=h.base
 obtain ⟨N,c,M,xs,ks,hD⟩:=h
 have hgK:w.grownBy (w.alloc (.cells #[.string ⟨k.toArray⟩,.int .i64 (pl:Nat)] 133)) none:=World.grownBy_alloc w _ none
 have hbK:=heap_alloc_new w (.cells #[.string ⟨k.toArray⟩,.int .i64 (pl:Nat)] 133)
 obtain ⟨K,hKe⟩:∃K,w.heap.size=K:=⟨_,rfl⟩
 rw [hKe] at hbK
 have hD1:=hD.keeps (keeps_gb hgK)
 have he1:=es_gb he hgK
 obtain ⟨w1,hw1⟩:∃w1,w.alloc (.cells #[.string ⟨k.toArray⟩,.int .i64 (pl:Nat)] 133)=w1:=⟨_,rfl⟩
 rw [hw1] at hbK hD1 hgK he1
 obtain ⟨-,t1,-,-⟩:=hD1.cells
 have k0:=(two_cells hbK).1
 have gA:w1.grownBy (w1.alloc (.cells #[.int .i64 0,.bool false] 164)) none:=World.grownBy_alloc w1 _ none
 have t1A:=gA.cell t1 (by simp)
 have k0A:=gA.cell k0 (by simp)
 have l1:=look_all hD1 t k h0 (by omega) hk w1.drew (gb_d w1)
 have l2:=look_all hD1 t k h0 (by omega) hk (w1.alloc (.cells #[.int .i64 0,.bool false] 164)).drew (gb_dr2 w1 _)
 have HG1:Hid (w.grownBy w1 none):=hgK
 have HE1:Hid (Es w1 E):=he1
 have HBK:Hid (w1.heap[K]?=some (.cells #[.string ⟨k.toArray⟩,.int .i64 (pl:Nat)] 133 (0,0))):=hbK
 have HD1:Hid (TrD w1 B T ns now N c M xs ks (ns.length+own.length) (hold ns own)):=hD1
 have HWW:Hid (WT ns):=WW
 have HFE:Hid (∀w' v,FaultV w' v pl (E 5).1 (E 5).2->FaultE w' v E 5 pl):=fun _ _ h=>h
 have HTW:Hid (∀w',w1.grownBy w' none->w'.cell? ⟨3,0,none⟩=some (.iface (E 5).1 (E 5).2)):=fun w' hg=>(es_gb he1 hg).tw
 obtain ⟨ty,hty⟩:∃ty,(E 5).1=ty:=⟨_,rfl⟩
 obtain ⟨pv,hpv⟩:∃pv,(E 5).2=pv:=⟨_,rfl⟩
 rw [hty,hpv] at CW HFE HTW
 obtain ⟨S,hS⟩:∃S,stp ns t k pl=S:=⟨_,rfl⟩
 rw [hS] at HSS ⊢
 clear hD hbK hD1 hgK he1 he hty hpv gA hS W WW
 cases hq:kidO ns t k with
 | none =>
  have HSE:Hid (S=.ok (ns.length,addN ns t ⟨0,k,[],0,[],pl⟩)):=by show S=_;rw [HSS.out,hq]
  have CA1:=CA.out hq
  have CA2:Hid (∀w',w.grownBy w' none->Calls Tryz.prog 102 #[.pointer (some ⟨T,0,none⟩),.int .i64 (t:Nat),.int .i64 0,.agg #[.string ⟨k.toArray⟩,.int .i64 (pl:Nat)]] w' (AdPost B T ns own now t ⟨0,k,[],0,[],pl⟩ w')):=CA1
  rw [hq] at l1 l2
  clear hq CA1
  simp only [] at l1 l2
  go_enter Tryz.func96,Tryz.ntmps96
  go_upto_region 1 with fail
  go_cut [8,9] from 11 (fun v8 v9 wx=>v9=.bool false/\w1.grownBy wx none)
  case first =>
   go_region
   all_goals (
    go_wp2_with fail
    go_meet
    exact ⟨rfl,gb_dr2 w1 _⟩)
  case rest =>
   obtain ⟨rfl,hgc⟩:=hcut
   have HGC:Hid (w.grownBy wc none):=gb_trans HG1.out hgc
   have hbk:=blk_gb HBK.out hgc
   obtain ⟨kc0,kc1,-⟩:=two_cells hbk
   clear hgc hbk t1 k0 t1A k0A l1 l2
   go_wp2_with (first | (go_at_call 102;refine (CA2.out _ HGC.out).mono ?_;rintro e w3 ⟨rfl,ht3,hf3⟩))
   refine bodyPost_ret (results_tmp2 (t:=6) (u:=7) rfl _ _ _) rfl ?_
   rw [HSE.out]
   exact ⟨fun t' ns' hh=>(by cases hh;exact ⟨rfl,ht3⟩),fun c p hh=>(by cases hh),(Fr.gb HGC.out hB).two hf3⟩
 | some q =>
  have hql:=HQL.out q hq
  obtain ⟨x,hx⟩:∃x,ns[q]=x:=⟨_,rfl⟩
  have hkx:kdAt ns q=x.kd:=by unfold kdAt;rw [List.getElem?_eq_getElem hql,hx]
  have HSE:Hid (S=if x.kd=0 then .ok (q,ns) else if x.kd=2 then .ok (x.ks.getLastD 0,ns) else .error (5,pl)):=by
   show S=_
   rw [HSS.out,hq]
   simp only [hkx,List.getElem?_eq_getElem hql,hx]
  have HKN:Hid (x.kd=2->x.ks ≠ []):=fun h2=>by
   have:=(HWW.out q (hkx.trans h2)).1
   unfold ksAt at this
   rw [List.getElem?_eq_getElem hql,hx] at this
   exact this
  have HXQ:Hid (ns[q]=x):=hx
  have hxl:x.ks.length<=1000000:=by
   have:=HKL.out q
   unfold ksAt at this
   rw [List.getElem?_eq_getElem hql,hx] at this
   simp only [] at this
   omega
  have HXL:Hid (x.ks.length<=1000000):=hxl
  clear hxl
  rw [hq] at l1 l2
  simp only [] at l1 l2
  generalize decide (q ∈ own)=bb at l1 l2
  clear hq hx hkx
  go_enter Tryz.func96,Tryz.ntmps96
  go_upto_region 1 with fail
  go_cut [8,9] from 11 (fun v8 v9 wx=>∃H:Nat,v8=.pointer (some ⟨H,0,none⟩)/\wx.heap[H]?=some (.cells #[.int .i64 (q:Nat),.bool bb] 164 (0,0))/\v9=.bool true/\w1.grownBy wx none)
  case first =>
   go_region
   all_goals (
    go_wp2_with fail
    go_meet
    exact ⟨_,rfl,heap_alloc_new w1 _,rfl,gb_dr2 w1 _⟩)
  case rest =>
   obtain ⟨H,rfl,hH,rfl,hgc⟩:=hcut
   obtain ⟨w2,hw2⟩:∃w2,w2=wc:=⟨_,rfl⟩
   subst hw2
   have HG2:Hid (w.grownBy w2 none):=gb_trans HG1.out hgc
   have HGC:Hid (w1.grownBy w2 none):=hgc
   have hbk:=blk_gb HBK.out hgc
   have hD2:=HD1.out.keeps (keeps_gb hgc)
   obtain ⟨T0,-,-,-⟩:=hD2.cells
   obtain ⟨n0,n1,n2,n3,n4,n5,-⟩:=hD2.node q hql
   have hkr:=hD2.kid q hql
   rw [HXQ.out] at n0 n1 n2 n3 n5 hkr
   obtain ⟨o4,m4,hv4⟩:=own_slice hkr
   rw [hv4] at n4 hkr
   obtain ⟨H0,H1,-⟩:=two_cells hH
   have HKR:Hid (w2.ownsRow B 3 1 (.slice o4 x.ks.length m4) x.ks.length (x.ks.map fun q=>.int .i64 (q:Nat))):=hkr
   have HHB:Hid (w2.heap[H]?=some (.cells #[.int .i64 (q:Nat),.bool bb] 164 (0,0))):=hH
   have HB2:Hid (w2.heap[K]?=some (.cells #[.string ⟨k.toArray⟩,.int .i64 (pl:Nat)] 133 (0,0))):=hbk
   have gZ:w2.grownBy (w2.alloc (.cells #[.int .i64 0,.string ⟨#[]⟩,.string ⟨#[]⟩,.int .i64 0,.slice none 0 0,.int .i64 0] 33)) none:=World.grownBy_alloc w2 _ none
   have T0Z:=gZ.cell T0 (by simp)
   have n0Z:=gZ.cell n0 (by simp)
   have n1Z:=gZ.cell n1 (by simp)
   have n2Z:=gZ.cell n2 (by simp)
   have n3Z:=gZ.cell n3 (by simp)
   have n4Z:=gZ.cell n4 (by simp)
   have n5Z:=gZ.cell n5 (by simp)
   have H0Z:=gZ.cell H0 (by simp)
   generalize hkm:x.ks.length=m at n4 n4Z HKR
   have HKM:Hid (x.ks.length=m):=hkm
   clear hgc hbk hD2 hkr hv4 hH gZ hkm t1 k0 t1A k0A l1 l2
   go_upto_region 4 with fail
   go_cut [10] from 29 (fun v10 wx=>∃Z:Nat,v10=.pointer (some ⟨Z,0,none⟩)/\wx.heap[Z]?=some (.cells #[.int .i64 x.kd,.string ⟨x.ky.toArray⟩,.string ⟨x.tx.toArray⟩,.int .i64 x.nu,.slice o4 m m4,.int .i64 (x.pl:Nat)] 33 (0,0))/\w2.grownBy wx none)
   case first =>
    go_region
    all_goals (
     go_wp2_with fail
     go_meet
     exact ⟨_,rfl,heap_alloc_new w2 _,gb_dr2 w2 _⟩)
   case rest =>
    obtain ⟨Z,rfl,hZ,hgc⟩:=hcut
    obtain ⟨z0,z4⟩:=six_cells hZ
    have HG3:Hid (w.grownBy wc none):=gb_trans HG2.out hgc
    obtain ⟨H0c,-,-⟩:=two_cells (blk_gb HHB.out hgc)
    obtain ⟨-,k1c,-⟩:=two_cells (blk_gb HB2.out hgc)
    have twc:=HTW.out _ (gb_trans HGC.out hgc)
    have hkr:=HKR.out.kept hgc (by cases (Value.slice o4 m m4).ownBlock <;> simp)
    have HKRc:Hid (wc.ownsRow B 3 1 (.slice o4 m m4) m (x.ks.map fun q=>.int .i64 (q:Nat))):=hkr
    clear hZ hgc hkr T0 T0Z n0 n1 n2 n3 n4 n5 n0Z n1Z n2Z n3Z n4Z n5Z H0 H1 H0Z
    obtain ⟨z,hz⟩:∃z,x.kd=z:=⟨_,rfl⟩
    have HZ:Hid (x.kd=z):=hz
    rw [hz] at z0
    clear hz
    by_cases c0:z=0
    ·have hb0:(z == 0)=true:=by simp [c0]
     have HRR:Hid (S=.ok (q,ns)):=by show S=_;rw [HSE.out,if_pos (HZ.out.trans c0)]
     clear c0
     go_wp2
     refine bodyPost_ret (results_tmp2 (t:=6) (u:=7) rfl _ _ _) rfl ?_
     rw [HRR.out]
     exact ⟨fun t' ns' hh=>(by cases hh;exact ⟨rfl,HTR.out.gb HG3.out⟩),fun c p hh=>(by cases hh),Fr.gb HG3.out hB⟩
    ·have hb0:(z == 0)=false:=by simp [c0]
     by_cases c2:z=2
     ·have hb2:(z == 2)=true:=by simp [c2]
      have hkn:=HKN.out (HZ.out.trans c2)
      have HRR:Hid (S=.ok (x.ks.getLastD 0,ns)):=by show S=_;rw [HSE.out,if_neg (by rw [HZ.out];exact c0),if_pos (HZ.out.trans c2)]
      obtain ⟨j,hj⟩:∃j,m=j+1:=⟨m - 1,by have:=HKM.out;have:=List.length_pos_iff.2 hkn;omega⟩
      obtain ⟨g,cap,hvg,-,-⟩:=HKRc.out.form (by omega)
      have hlast:x.ks[j]?=some (x.ks.getLastD 0):=by
       have hl:x.ks.length=j+1:=HKM.out.trans hj
       rw [List.getLastD_eq_getLast?,List.getLast?_eq_getElem?,hl]
       have:x.ks[j+1 - 1]?=some (x.ks[j]'(by omega)):=List.getElem?_eq_getElem (by omega)
       rw [this]
       exact List.getElem?_eq_getElem (by omega)
      have hcl:=HKRc.out.cells (g:=g) (by rw [hvg];rfl) j (.int .i64 ((x.ks.getLastD 0:Nat):Int)) (by rw [List.getElem?_map,hlast];rfl)
      rw [zero_off] at hcl
      obtain ⟨la,hla⟩:∃la,x.ks.getLastD 0=la:=⟨_,rfl⟩
      rw [hla] at hcl
      have HLA:Hid (x.ks.getLastD 0=la):=hla
      cases hvg
      subst hj
      have hj1:j<=1000000:=by
       have h1:=HXL.out
       have h2:=HKM.out
       omega
      have hwj:wrap64 (j:Int)=(j:Int):=wrapJ j hj1
      have hwk:(wrap64 (j:Int)).toNat=j:=by rw [hwj];exact Int.toNat_natCast j
      clear hj1
      clear c0 c2 hkn hlast hla
      go_wp2
      refine bodyPost_ret (results_tmp2 (t:=6) (u:=7) rfl _ _ _) rfl ?_
      rw [HRR.out,HLA.out]
      exact ⟨fun t' ns' hh=>(by cases hh;exact ⟨rfl,HTR.out.gb HG3.out⟩),fun c p hh=>(by cases hh),Fr.gb HG3.out hB⟩
     ·have hb2:(z == 2)=false:=by simp [c2]
      have HRR:Hid (S=.error (5,pl)):=by show S=_;rw [HSE.out,if_neg (by rw [HZ.out];exact c0),if_neg (by rw [HZ.out];exact c2)]
      clear c0 c2
      go_wp2_with (first | (go_at_call 101;refine (CW.out _).mono ?_;rintro e w5 ⟨⟨v,rfl,hv⟩,hg5⟩))
      refine bodyPost_ret (results_tmp2 (t:=6) (u:=7) rfl _ _ _) rfl ?_
      rw [HRR.out]
      exact ⟨fun t' ns' hh=>(by cases hh),fun c p hh=>(by cases hh;exact ⟨v,rfl,HFE.out _ _ hv⟩),Fr.gb (gb_trans HG3.out hg5) hB⟩
def EtPost (B T:Nat) (own:List Nat) (now:Nat) (E:Int->TypeId × Value) (r:Rs (Nat × List Tn)) (w:World) (e:Ending) (w':World):Prop :=
 (∀t ns,r=.ok (t,ns)->e=.returned (.tuple #[.int .i64 (t:Nat),.nilIface])/\Tr w' B T ns (t :: own) now)/\(∀c p,r=.error (c,p)->∃v,e=.returned (.tuple #[.int .i64 0,v])/\FaultE w' v E c p/\∃ns0,Tr w' B T ns0 own now)/\Fr B w w'
theorem keeps_set {w:World} {b:Nat} {cs:Array Value} {t:TypeId} {fz:Nat × Nat} (hb:w.heap[b]?=some (.cells cs t fz)) (h1:¬ t=64) (h2:¬ t=33) (h3:¬ t=3) (o:Nat) (v:Value):Keeps w (w.setCell ⟨b,o,none⟩ v) :=
 ⟨fun b' cs' t' fz' hb' ht=>heap_setCell_other _ _ _ _ (ne_typ hb' hb (fun e=>by subst e;rcases ht with e | e | e;exact h1 e;exact h2 e;exact h3 e)),fun b' es c hb'=>heap_setCell_other _ _ _ _ (fun e=>ne_map hb hb' e.symm)⟩
theorem fr_new {w w1:World} {B b:Nat} (h:Fr B w w1) (hB:B<=w.heap.size) (hb:w.heap.size<=b) (o:Nat) (v:Value):Fr B w (w1.setCell ⟨b,o,none⟩ v) :=
 ⟨⟨h.bel.os,h.bel.tape,h.bel.output,by have:=h.bel.size;simpa [World.setCell] using this,fun k hk=>(heap_setCell_other _ _ _ _ (by simp;omega)).trans (h.bel.block k hk)⟩,fun b' cs t fz hb' h1 h2 h3=>(heap_setCell_other _ _ _ _ (by have:=blk_lt hb';simp;omega)).trans (h.oth b' cs t fz hb' h1 h2 h3)⟩
set_option maxRecDepth 100000 in
set_option maxHeartbeats 6400000 in
theorem tEndT_any (B T:Nat) (ns:List Tn) (own:List Nat) (now t:Nat) (E:Int->TypeId × Value) (k:List UInt8) (pl:Nat) (w:World) (h:Tr w B T ns own now) (W:WF ns own) (ht:t < ns.length) (h0:kdAt ns t=0) (hsz:ns.length+own.length<=900000) (hk:k.length<=1048576) (he:Es w E) :
  Calls Tryz.prog 98 #[.pointer (some ⟨T,0,none⟩),.int .i64 (t:Nat),.agg #[.string ⟨k.toArray⟩,.int .i64 (pl:Nat)]] w (EtPost B T own now E (endT ns own t k pl) w):=by
 have CW:Hid (∀w,Calls Tryz.prog 101 #[.iface (E 5).1 (E 5).2,.int .i64 (pl:Nat)] w fun e w'=>(∃v,e=.returned v/\FaultV w' v pl (E 5).1 (E 5).2)/\w.grownBy w' none):=fun w=>tWrong_any pl _ _ w
 have CA:Hid (kidO ns t k=none->∀w',w.grownBy w' none->Calls Tryz.prog 102 #[.pointer (some ⟨T,0,none⟩),.int .i64 (t:Nat),.int .i64 0,.agg #[.string ⟨k.toArray⟩,.int .i64 (pl:Nat)]] w' (AdPost B T ns own now t ⟨0,k,[],0,[],pl⟩ w')):=fun hn w' hg=>tAdd_any B T ns own now t 0 k pl w' (h.gb hg) W ht (fun _=>hn) (by omega) hk
 have HSS:Hid (endT ns own t k pl=match kidO ns t k with | none=>.ok (ns.length,addN ns t ⟨0,k,[],0,[],pl⟩) | some q=>if kdAt ns q=0/\¬ q ∈ own then .ok (q,ns) else .error (5,pl)):=rfl
 have HQL:Hid (∀q,kidO ns t k=some q->q < ns.length):=fun q hq=>kid_lt W hq
 have HTR:Hid (Tr w B T ns own now):=h
 have HWF:Hid (WF ns own):=W
 have hB:B<=w.heap.size:=h.base
 obtain ⟨N,c,M,xs,ks,hD⟩:=h
 have hgK:w.grownBy (w.alloc (.cells #[.string ⟨k.toArray⟩,.int .i64 (pl:Nat)] 133)) none:=World.grownBy_alloc w _ none
 have hbK:=heap_alloc_new w (.cells #[.string ⟨k.toArray⟩,.int .i64 (pl:Nat)] 133)
 obtain ⟨K,hKe⟩:∃K,w.heap.size=K:=⟨_,rfl⟩
 rw [hKe] at hbK
 have hsK:(w.alloc (.cells #[.string ⟨k.toArray⟩,.int .i64 (pl:Nat)] 133)).heap.size=K+1:=by rw [World.size_alloc,hKe]
 obtain ⟨wa,hwa⟩:∃w1,w.alloc (.cells #[.string ⟨k.toArray⟩,.int .i64 (pl:Nat)] 133)=w1:=⟨_,rfl⟩
 rw [hwa] at hbK hgK hsK
 have hgS:wa.grownBy (wa.alloc (.cells #[.int .i64 (t:Nat),.string ⟨k.toArray⟩] 167)) none:=World.grownBy_alloc wa _ none
 have hbS:=heap_alloc_new wa (.cells #[.int .i64 (t:Nat),.string ⟨k.toArray⟩] 167)
 rw [hsK] at hbS
 obtain ⟨S8,hS8⟩:∃S8,K+1=S8:=⟨_,rfl⟩
 rw [hS8] at hbS hsK
 obtain ⟨w1,hw1⟩:∃w1,wa.alloc (.cells #[.int .i64 (t:Nat),.string ⟨k.toArray⟩] 167)=w1:=⟨_,rfl⟩
 rw [hw1] at hbS hgS
 have k0a:=(two_cells hbK).1
 have hbK1:=blk_gb hbK hgS
 have hgK1:=gb_trans hgK hgS
 have hD1:=hD.keeps (keeps_gb hgK1)
 have he1:=es_gb he hgK1
 obtain ⟨-,t1,-,-⟩:=hD1.cells
 obtain ⟨s0,s1,-⟩:=two_cells hbS
 have gA:w1.grownBy (w1.alloc (.cells #[.int .i64 0,.bool false] 164)) none:=World.grownBy_alloc w1 _ none
 have t1A:=gA.cell t1 (by simp)
 have s0A:=gA.cell s0 (by simp)
 have s1A:=gA.cell s1 (by simp)
 have l1:=look_all hD1 t k h0 (by omega) hk w1.drew (gb_d w1)
 have l2:=look_all hD1 t k h0 (by omega) hk (w1.alloc (.cells #[.int .i64 0,.bool false] 164)).drew (gb_dr2 w1 _)
 have HG1:Hid (w.grownBy w1 none):=hgK1
 have HBK:Hid (w1.heap[K]?=some (.cells #[.string ⟨k.toArray⟩,.int .i64 (pl:Nat)] 133 (0,0))):=hbK1
 have HBS:Hid (w1.heap[S8]?=some (.cells #[.int .i64 (t:Nat),.string ⟨k.toArray⟩] 167 (0,0))):=hbS
 have HD1:Hid (TrD w1 B T ns now N c M xs ks (ns.length+own.length) (hold ns own)):=hD1
 have HFE:Hid (∀w' v,FaultV w' v pl (E 5).1 (E 5).2->FaultE w' v E 5 pl):=fun _ _ h=>h
 have HTW:Hid (∀w',w1.grownBy w' none->w'.cell? ⟨3,0,none⟩=some (.iface (E 5).1 (E 5).2)):=fun w' hg=>(es_gb he1 hg).tw
 obtain ⟨ty,hty⟩:∃ty,(E 5).1=ty:=⟨_,rfl⟩
 obtain ⟨pv,hpv⟩:∃pv,(E 5).2=pv:=⟨_,rfl⟩
 rw [hty,hpv] at CW HFE HTW
 obtain ⟨S,hS⟩:∃S,endT ns own t k pl=S:=⟨_,rfl⟩
 rw [hS] at HSS ⊢
 clear hD hbK hbK1 hbS hD1 hgK hgS hgK1 he1 he hty hpv gA hS W
 cases hq:kidO ns t k with
 | none =>
  have HSE:Hid (S=.ok (ns.length,addN ns t ⟨0,k,[],0,[],pl⟩)):=by show S=_;rw [HSS.out,hq]
  have CA2:Hid (∀w',w.grownBy w' none->Calls Tryz.prog 102 #[.pointer (some ⟨T,0,none⟩),.int .i64 (t:Nat),.int .i64 0,.agg #[.string ⟨k.toArray⟩,.int .i64 (pl:Nat)]] w' (AdPost B T ns own now t ⟨0,k,[],0,[],pl⟩ w')):=CA.out hq
  have HWN:Hid (WF (addN ns t ⟨0,k,[],0,[],pl⟩) own):=wf_add ns own t ⟨0,k,[],0,[],pl⟩ rfl ht HWF.out
  have HK0:Hid (kdAt (addN ns t ⟨0,k,[],0,[],pl⟩) t=0):=by
   show _=_
   rw [kdAt_addN ns t ⟨0,k,[],0,[],pl⟩ ht,if_neg (by omega)];exact h0
  have HKO:Hid (kidO (addN ns t ⟨0,k,[],0,[],pl⟩) t k=some ns.length):=by
   show _=_
   rw [kidO_addN ns own t ⟨0,k,[],0,[],pl⟩ rfl ht HWF.out,if_pos rfl,hq]
   simp only [if_true]
  have HLN:Hid ((addN ns t ⟨0,k,[],0,[],pl⟩).length=ns.length+1):=addN_len _ _ _
  rw [hq] at l1 l2
  simp only [] at l1 l2
  clear hq
  go_enter Tryz.func98,Tryz.ntmps98
  go_upto_region 2 with fail
  go_cut [9,10] from 15 (fun v9 v10 wx=>∃H:Nat,v9=.pointer (some ⟨H,0,none⟩)/\wx.heap[H]?=some (.cells #[.int .i64 0,.bool false] 164 (0,0))/\v10=.bool false/\w1.grownBy wx none/\w1.heap.size<=H)
  case first =>
   go_region
   all_goals (
    go_wp2_with fail
    go_meet
    exact ⟨_,rfl,heap_alloc_new w1 _,rfl,gb_dr2 w1 _,Nat.le_refl _⟩)
  case rest =>
   obtain ⟨H,rfl,hH,rfl,hgc,hHw⟩:=hcut
   have HBH:Hid (w.heap.size<=H):=Nat.le_trans HG1.out.size hHw
   have HGC:Hid (w.grownBy wc none):=gb_trans HG1.out hgc
   obtain ⟨kc0,kc1,-⟩:=two_cells (blk_gb HBK.out hgc)
   have HHc:Hid (wc.heap[H]?=some (.cells #[.int .i64 0,.bool false] 164 (0,0))):=hH
   have HSc:Hid (wc.heap[S8]?=some (.cells #[.int .i64 (t:Nat),.string ⟨k.toArray⟩] 167 (0,0))):=blk_gb HBS.out hgc
   clear hgc hH hHw t1 t1A s0 s1 s0A s1A k0a l1 l2
   go_wp2_with (first | (go_at_call 102;refine (CA2.out _ HGC.out).mono ?_;rintro e w3 ⟨rfl,ht3,hf3⟩;obtain ⟨hh0,hh1,hhf⟩:=two_cells ((hf3.oth _ _ _ _ HHc.out (by decide) (by decide) (by decide)).trans HHc.out);have hhf0:=hhf 0))
   obtain ⟨N',c',M',xs',ks',hD3⟩:=ht3
   have hH3:=(hf3.oth _ _ _ _ HHc.out (by decide) (by decide) (by decide)).trans HHc.out
   have hS3:=(hf3.oth _ _ _ _ HSc.out (by decide) (by decide) (by decide)).trans HSc.out
   have hH4:(w3.setCell ⟨H,0,none⟩ (.int .i64 (ns.length:Nat))).heap[H]?=some (.cells #[.int .i64 (ns.length:Nat),.bool false] 164 (0,0)):=block_setCell (i:=0) hH3 _
   have hS4:=(heap_setCell_other w3 ⟨H,0,none⟩ S8 (.int .i64 (ns.length:Nat)) (ne_typ hS3 hH3 (by decide))).trans hS3
   have hH7:((w3.setCell ⟨H,0,none⟩ (.int .i64 (ns.length:Nat))).setCell ⟨H,1,none⟩ (.bool true)).heap[H]?=some (.cells #[.int .i64 (ns.length:Nat),.bool true] 164 (0,0)):=block_setCell (i:=1) hH4 _
   have hS7:=(heap_setCell_other (w3.setCell ⟨H,0,none⟩ (.int .i64 (ns.length:Nat))) ⟨H,1,none⟩ S8 (.bool true) (ne_typ hS4 hH4 (by decide))).trans hS4
   have hD7:=(hD3.keeps (keeps_set hH3 (by decide) (by decide) (by decide) 0 (.int .i64 (ns.length:Nat)))).keeps (keeps_set hH4 (by decide) (by decide) (by decide) 1 (.bool true))
   have hF7:=fr_new (fr_new ((Fr.gb HGC.out hB).two hf3) hB HBH.out 0 (.int .i64 (ns.length:Nat))) hB HBH.out 1 (.bool true)
   have hln:=HLN.out
   clear hD3 hH3 hS3 hH4 hS4 hf3 hh0 hh1 hhf hhf0
   obtain ⟨w7,hw7⟩:∃w7,(w3.setCell ⟨H,0,none⟩ (.int .i64 (ns.length:Nat))).setCell ⟨H,1,none⟩ (.bool true)=w7:=⟨_,rfl⟩
   rw [hw7] at hD7 hH7 hS7 hF7 ⊢
   obtain ⟨w8,hr8,hm8,hg8⟩:=(hD7.map.block (w':=w7.drew) rfl).put t k (by omega) hk (by omega) ns.length true
   unfold keyV at hr8
   obtain ⟨es,cc,hm0⟩:=hD7.map.map
   have hB7:B<=w7.heap.size:=Nat.le_of_lt (Nat.lt_of_le_of_lt hD7.bT (blk_lt hD7.blk))
   have hH8:w8.heap[H]?=some (.cells #[.int .i64 (ns.length:Nat),.bool true] 164 (0,0)):=(hg8.block H (blk_lt (w:=w7.drew) hH7) (by simp only [ne_eq,Option.some.injEq];exact ne_map hH7 hm0)).trans hH7
   obtain ⟨-,t17,-,-⟩:=hD7.cells
   obtain ⟨s0,s1,-⟩:=two_cells hS7
   obtain ⟨g0,g1,-⟩:=two_cells hH7
   obtain ⟨q0,-,-⟩:=two_cells hH8
   have HTF:Hid (Tr w8 B T (addN ns t ⟨0,k,[],0,[],pl⟩) (ns.length :: own) now):=by
    refine ⟨N',c',M',xs',ks',?_⟩
    rw [hold_end (addN ns t ⟨0,k,[],0,[],pl⟩) own HWN.out t ns.length k HK0.out HKO.out]
    have e:=(hD7.keeps (w':=w7.drew) (keeps_gb (gb_d w7))).mapd hm8 hg8
    exact ⟨e.blk,e.bT,e.row,e.cel,e.kid,e.apart,e.map.mono (by simp;omega),e.bM⟩
   have HFF:Hid (Fr B w w8):=(hF7.two (Fr.gb (gb_d w7) hB7)).two (Fr.mapd hg8 hB7 hD7.bM hm0)
   clear hD7 hH7 hS7 hF7 hm8 hg8 hm0 hH8 hw7
   go_region
   all_goals (
    go_wp2
    refine bodyPost_ret (results_tmp2 (t:=6) (u:=7) rfl _ _ _) rfl ?_
    rw [HSE.out]
    exact ⟨fun t' ns' hh=>(by cases hh;exact ⟨rfl,HTF.out⟩),fun c p hh=>(by cases hh),HFF.out⟩)
 | some q =>
  have hql:=HQL.out q hq
  have HWN:Hid (WF ns own):=HWF.out
  have HK0:Hid (kdAt ns t=0):=h0
  have HKO:Hid (kidO ns t k=some q):=hq
  obtain ⟨x,hx⟩:∃x,ns[q]=x:=⟨_,rfl⟩
  have hkx:kdAt ns q=x.kd:=by unfold kdAt;rw [List.getElem?_eq_getElem hql,hx]
  have HS1:Hid (S=if x.kd=0/\¬ decide (q ∈ own)=true then .ok (q,ns) else .error (5,pl)):=by
   show S=_
   rw [HSS.out,hq]
   simp only [hkx,decide_eq_true_eq]
  have HXQ:Hid (ns[q]=x):=hx
  rw [hq] at l1 l2
  simp only [] at l1 l2
  generalize decide (q ∈ own)=bb at l1 l2 HS1
  clear hq hx hkx
  go_enter Tryz.func98,Tryz.ntmps98
  go_upto_region 2 with fail
  go_cut [9,10] from 15 (fun v9 v10 wx=>∃H:Nat,v9=.pointer (some ⟨H,0,none⟩)/\wx.heap[H]?=some (.cells #[.int .i64 (q:Nat),.bool bb] 164 (0,0))/\v10=.bool true/\w1.grownBy wx none/\w1.heap.size<=H)
  case first =>
   go_region
   all_goals (
    go_wp2_with fail
    go_meet
    exact ⟨_,rfl,heap_alloc_new w1 _,rfl,gb_dr2 w1 _,Nat.le_refl _⟩)
  case rest =>
   obtain ⟨H,rfl,hH,rfl,hgc,hHw⟩:=hcut
   have HBH:Hid (w.heap.size<=H):=Nat.le_trans HG1.out.size hHw
   have HGC:Hid (w.grownBy wc none):=gb_trans HG1.out hgc
   obtain ⟨kc0,kc1,-⟩:=two_cells (blk_gb HBK.out hgc)
   have HHc:Hid (wc.heap[H]?=some (.cells #[.int .i64 (q:Nat),.bool bb] 164 (0,0))):=hH
   have HSc:Hid (wc.heap[S8]?=some (.cells #[.int .i64 (t:Nat),.string ⟨k.toArray⟩] 167 (0,0))):=blk_gb HBS.out hgc
   have hDc:=HD1.out.keeps (keeps_gb hgc)
   have HDc:Hid (TrD wc B T ns now N c M xs ks (ns.length+own.length) (hold ns own)):=hDc
   obtain ⟨hh0,hh1,hhf⟩:=two_cells hH
   have hhf1:=hhf 1
   obtain ⟨T0,-,-,-⟩:=hDc.cells
   obtain ⟨n0,-,-,-,-,-,-⟩:=hDc.node q hql
   rw [HXQ.out] at n0
   have twc:=HTW.out _ hgc
   obtain ⟨z,hz⟩:∃z,x.kd=z:=⟨_,rfl⟩
   rw [hz] at n0 HS1
   clear hgc hH hHw hDc hhf hz t1 t1A s0 s1 s0A s1A k0a l1 l2
   by_cases hok:z=0/\¬ bb=true
   ·have HSE:Hid (S=.ok (q,ns)):=by show S=_;rw [HS1.out,if_pos hok]
    have hbb:bb=false:=by simpa using hok.2
    have hzb:(z != 0)=false:=by simp [hok.1]
    subst hbb
    clear hok
    go_upto_region 5 with fail
    go_quiet (fail)
    go_upto_region 8 with fail
    have hH7:((wc.drewN nq).setCell ⟨H,1,none⟩ (.bool true)).heap[H]?=some (.cells #[.int .i64 (q:Nat),.bool true] 164 (0,0)):=block_setCell (i:=1) (w:=wc.drewN nq) HHc.out _
    have hS7:=(heap_setCell_other (wc.drewN nq) ⟨H,1,none⟩ S8 (.bool true) (ne_typ HSc.out HHc.out (by decide))).trans HSc.out
    have hgn:wc.grownBy (wc.drewN nq) none:=gb_drew (gb_refl wc none) nq
    have hD7:=(HDc.out.keeps (keeps_gb hgn)).keeps (keeps_set (w:=wc.drewN nq) HHc.out (by decide) (by decide) (by decide) 1 (.bool true))
    have hF7:=fr_new ((Fr.gb HGC.out hB).two (Fr.gb hgn (Nat.le_trans hB HGC.out.size))) hB HBH.out 1 (.bool true)
    clear hgn hh0 hh1 hhf1 T0 n0 twc kc0 kc1
    obtain ⟨w7,hw7⟩:∃w7,(wc.drewN nq).setCell ⟨H,1,none⟩ (.bool true)=w7:=⟨_,rfl⟩
    rw [hw7] at hD7 hH7 hS7 hF7 ⊢
    obtain ⟨w8,hr8,hm8,hg8⟩:=(hD7.map.block (w':=w7.drew) rfl).put t k (by omega) hk (by omega) q true
    unfold keyV at hr8
    obtain ⟨es,cc,hm0⟩:=hD7.map.map
    have hB7:B<=w7.heap.size:=Nat.le_of_lt (Nat.lt_of_le_of_lt hD7.bT (blk_lt hD7.blk))
    have hH8:w8.heap[H]?=some (.cells #[.int .i64 (q:Nat),.bool true] 164 (0,0)):=(hg8.block H (blk_lt (w:=w7.drew) hH7) (by simp only [ne_eq,Option.some.injEq];exact ne_map hH7 hm0)).trans hH7
    obtain ⟨-,t17,-,-⟩:=hD7.cells
    obtain ⟨s0,s1,-⟩:=two_cells hS7
    obtain ⟨g0,g1,-⟩:=two_cells hH7
    obtain ⟨q0,-,-⟩:=two_cells hH8
    have HTF:Hid (Tr w8 B T ns (q :: own) now):=by
     refine ⟨N,c,M,xs,ks,?_⟩
     rw [hold_end ns own HWN.out t q k HK0.out HKO.out]
     have e:=(hD7.keeps (w':=w7.drew) (keeps_gb (gb_d w7))).mapd hm8 hg8
     exact ⟨e.blk,e.bT,e.row,e.cel,e.kid,e.apart,e.map.mono (by simp;omega),e.bM⟩
    have HFF:Hid (Fr B w w8):=(hF7.two (Fr.gb (gb_d w7) hB7)).two (Fr.mapd hg8 hB7 hD7.bM hm0)
    clear hD7 hH7 hS7 hF7 hm8 hg8 hm0 hH8 hw7
    go_region
    all_goals (
     go_wp2
     refine bodyPost_ret (results_tmp2 (t:=6) (u:=7) rfl _ _ _) rfl ?_
     rw [HSE.out]
     exact ⟨fun t' ns' hh=>(by cases hh;exact ⟨rfl,HTF.out⟩),fun c p hh=>(by cases hh),HFF.out⟩)
   ·have HSE:Hid (S=.error (5,pl)):=by show S=_;rw [HS1.out,if_neg hok]
    have hcase:bb=true\/(bb=false/\(z != 0)=true):=by
     cases bb with
     | true=>exact Or.inl rfl
     | false=>exact Or.inr ⟨rfl,by simp at hok;simp [hok]⟩
    clear hok
    go_upto_region 5 with fail
    rcases hcase with rfl | ⟨rfl,hzb⟩
    all_goals (
     go_quiet (fail)
     go_wp2_with (first | (go_at_call 101;refine (CW.out _).mono ?_;rintro e w5 ⟨⟨v,rfl,hv⟩,hg5⟩))
     refine bodyPost_ret (results_tmp2 (t:=6) (u:=7) rfl _ _ _) rfl ?_
     rw [HSE.out]
     exact ⟨fun t' ns' hh=>(by cases hh),fun c p hh=>(by cases hh;exact ⟨v,rfl,HFE.out _ _ hv,ns,HTR.out.gb (gb_trans (gb_drew HGC.out _) hg5)⟩),Fr.gb (gb_trans (gb_drew HGC.out _) hg5) hB⟩)
theorem Tr.own {w:World} {B T:Nat} {ns:List Tn} {own:List Nat} {now:Nat} (h:Tr w B T ns own now) (W:WF ns own) {p q:Nat} (h0:¬ kdAt ns p=0) (hq:q ∈ ksAt ns p):Tr w B T ns (q :: own) now:=by
 obtain ⟨N,c,M,xs,ks,e⟩:=h
 refine ⟨N,c,M,xs,ks,?_⟩
 rw [hold_end_list ns own W p q h0 hq]
 exact ⟨e.blk,e.bT,e.row,e.cel,e.kid,e.apart,e.map.mono (by simp),e.bM⟩
theorem tr_set {w:World} {B T:Nat} {ns:List Tn} {own:List Nat} {now:Nat} (h:Tr w B T ns own now) {H:Nat} {cs:Array Value} (hH:w.heap[H]?=some (.cells cs 164 (0,0))) (o:Nat) (v:Value):Tr (w.setCell ⟨H,o,none⟩ v) B T ns own now:=by
 obtain ⟨N,c,M,xs,ks,e⟩:=h
 exact ⟨N,c,M,xs,ks,e.keeps (keeps_set hH (by decide) (by decide) (by decide) o v)⟩
theorem ksAt_new (ns:List Tn) (up:Nat) (n:Tn) (hu:up < ns.length):ns.length ∈ ksAt (addN ns up n) up:=by
 rw [ksAt_addN ns up n hu,if_neg (by omega),if_pos rfl];simp
set_option maxRecDepth 100000 in
set_option maxHeartbeats 6400000 in
theorem tEndL_any (B T:Nat) (ns:List Tn) (own:List Nat) (now t:Nat) (E:Int->TypeId × Value) (k:List UInt8) (pl:Nat) (w:World) (h:Tr w B T ns own now) (W:WF ns own) (ht:t < ns.length) (h0:kdAt ns t=0) (hsz:ns.length+own.length<=900000) (hk:k.length<=1048576) (he:Es w E) :
  Calls Tryz.prog 97 #[.pointer (some ⟨T,0,none⟩),.int .i64 (t:Nat),.agg #[.string ⟨k.toArray⟩,.int .i64 (pl:Nat)]] w (EtPost B T own now E (endL ns t k pl) w):=by
 have CW:Hid (∀w,Calls Tryz.prog 101 #[.iface (E 5).1 (E 5).2,.int .i64 (pl:Nat)] w fun e w'=>(∃v,e=.returned v/\FaultV w' v pl (E 5).1 (E 5).2)/\w.grownBy w' none):=fun w=>tWrong_any pl _ _ w
 have CA:Hid (kidO ns t k=none->∀w',w.grownBy w' none->Calls Tryz.prog 102 #[.pointer (some ⟨T,0,none⟩),.int .i64 (t:Nat),.int .i64 2,.agg #[.string ⟨k.toArray⟩,.int .i64 (pl:Nat)]] w' (AdPost B T ns own now t ⟨2,k,[],0,[],pl⟩ w')):=fun hn w' hg=>tAdd_any B T ns own now t 2 k pl w' (h.gb hg) W ht (fun _=>hn) (by omega) hk
 have CB:Hid (∀w',Tr w' B T (addN ns t ⟨2,k,[],0,[],pl⟩) own now->Calls Tryz.prog 102 #[.pointer (some ⟨T,0,none⟩),.int .i64 (ns.length:Nat),.int .i64 0,.agg #[.string ⟨#[]⟩,.int .i64 (pl:Nat)]] w' (AdPost B T (addN ns t ⟨2,k,[],0,[],pl⟩) own now ns.length ⟨0,[],[],0,[],pl⟩ w')):=fun w' hg=>tAdd_any B T _ own now ns.length 0 [] pl w' hg (wf_add ns own t _ rfl ht W) (by rw [addN_len];omega) (fun h2=>by rw [kdAt_addN ns t _ ht,if_pos rfl] at h2;exact absurd (show (2:Int)=0 from h2) (by decide)) (by rw [addN_len];omega) (by simp)
 have CQ:Hid (∀q,q < ns.length->kdAt ns q=2->∀w',w.grownBy w' none->Calls Tryz.prog 102 #[.pointer (some ⟨T,0,none⟩),.int .i64 (q:Nat),.int .i64 0,.agg #[.string ⟨#[]⟩,.int .i64 (pl:Nat)]] w' (AdPost B T ns own now q ⟨0,[],[],0,[],pl⟩ w')):=fun q hq h2 w' hg=>tAdd_any B T ns own now q 0 [] pl w' (h.gb hg) W hq (fun h3=>by rw [h2] at h3;exact absurd h3 (by decide)) (by omega) (by simp)
 have HSS:Hid (endL ns t k pl=match kidO ns t k with | none=>.ok (ns.length+1,addN (addN ns t ⟨2,k,[],0,[],pl⟩) ns.length ⟨0,[],[],0,[],pl⟩) | some q=>if kdAt ns q=2 then .ok (ns.length,addN ns q ⟨0,[],[],0,[],pl⟩) else .error (5,pl)):=rfl
 have HQL:Hid (∀q,kidO ns t k=some q->q < ns.length):=fun q hq=>kid_lt W hq
 have HWF:Hid (WF ns own):=W
 have HTR:Hid (Tr w B T ns own now):=h
 have hB:B<=w.heap.size:=h.base
 obtain ⟨N,c,M,xs,ks,hD⟩:=h
 have hgK:w.grownBy (w.alloc (.cells #[.string ⟨k.toArray⟩,.int .i64 (pl:Nat)] 133)) none:=World.grownBy_alloc w _ none
 have hbK:=heap_alloc_new w (.cells #[.string ⟨k.toArray⟩,.int .i64 (pl:Nat)] 133)
 obtain ⟨K,hKe⟩:∃K,w.heap.size=K:=⟨_,rfl⟩
 rw [hKe] at hbK
 have hD1:=hD.keeps (keeps_gb hgK)
 have he1:=es_gb he hgK
 obtain ⟨w1,hw1⟩:∃w1,w.alloc (.cells #[.string ⟨k.toArray⟩,.int .i64 (pl:Nat)] 133)=w1:=⟨_,rfl⟩
 rw [hw1] at hbK hD1 hgK he1
 obtain ⟨-,t1,-,-⟩:=hD1.cells
 have k0:=(two_cells hbK).1
 have gA:w1.grownBy (w1.alloc (.cells #[.int .i64 0,.bool false] 164)) none:=World.grownBy_alloc w1 _ none
 have t1A:=gA.cell t1 (by simp)
 have k0A:=gA.cell k0 (by simp)
 have l1:=look_all hD1 t k h0 (by omega) hk w1.drew (gb_d w1)
 have l2:=look_all hD1 t k h0 (by omega) hk (w1.alloc (.cells #[.int .i64 0,.bool false] 164)).drew (gb_dr2 w1 _)
 have HG1:Hid (w.grownBy w1 none):=hgK
 have HBK:Hid (w1.heap[K]?=some (.cells #[.string ⟨k.toArray⟩,.int .i64 (pl:Nat)] 133 (0,0))):=hbK
 have HD1:Hid (TrD w1 B T ns now N c M xs ks (ns.length+own.length) (hold ns own)):=hD1
 have HFE:Hid (∀w' v,FaultV w' v pl (E 5).1 (E 5).2->FaultE w' v E 5 pl):=fun _ _ h=>h
 have HTW:Hid (∀w',w1.grownBy w' none->w'.cell? ⟨3,0,none⟩=some (.iface (E 5).1 (E 5).2)):=fun w' hg=>(es_gb he1 hg).tw
 obtain ⟨ty,hty⟩:∃ty,(E 5).1=ty:=⟨_,rfl⟩
 obtain ⟨pv,hpv⟩:∃pv,(E 5).2=pv:=⟨_,rfl⟩
 rw [hty,hpv] at CW HFE HTW
 obtain ⟨S,hS⟩:∃S,endL ns t k pl=S:=⟨_,rfl⟩
 rw [hS] at HSS ⊢
 clear hD hbK hD1 hgK he1 he hty hpv gA hS W
 cases hq:kidO ns t k with
 | none =>
  have HSE:Hid (S=.ok (ns.length+1,addN (addN ns t ⟨2,k,[],0,[],pl⟩) ns.length ⟨0,[],[],0,[],pl⟩)):=by show S=_;rw [HSS.out,hq]
  have CA2:Hid (∀w',w.grownBy w' none->Calls Tryz.prog 102 #[.pointer (some ⟨T,0,none⟩),.int .i64 (t:Nat),.int .i64 2,.agg #[.string ⟨k.toArray⟩,.int .i64 (pl:Nat)]] w' (AdPost B T ns own now t ⟨2,k,[],0,[],pl⟩ w')):=CA.out hq
  have HLN:Hid ((addN ns t ⟨2,k,[],0,[],pl⟩).length=ns.length+1):=addN_len _ _ _
  have HOW:Hid (∀w',Tr w' B T (addN (addN ns t ⟨2,k,[],0,[],pl⟩) ns.length ⟨0,[],[],0,[],pl⟩) own now->Tr w' B T (addN (addN ns t ⟨2,k,[],0,[],pl⟩) ns.length ⟨0,[],[],0,[],pl⟩) ((ns.length+1) :: own) now):=fun w' hh=>by
   have hu:ns.length < (addN ns t ⟨2,k,[],0,[],pl⟩).length:=by rw [addN_len];omega
   have hw1:=wf_add ns own t ⟨2,k,[],0,[],pl⟩ rfl ht HWF.out
   have hm:=ksAt_new (addN ns t ⟨2,k,[],0,[],pl⟩) ns.length ⟨0,[],[],0,[],pl⟩ hu
   rw [addN_len] at hm
   refine hh.own (wf_add _ own ns.length ⟨0,[],[],0,[],pl⟩ rfl hu hw1) (p:=ns.length) ?_ hm
   rw [kdAt_addN _ _ _ hu,if_neg (by rw [addN_len];omega),kdAt_addN _ _ _ ht,if_pos rfl]
   exact fun hh=>absurd (show (2:Int)=0 from hh) (by decide)
  rw [hq] at l1 l2
  simp only [] at l1 l2
  clear hq
  go_enter Tryz.func97,Tryz.ntmps97
  go_upto_region 1 with fail
  go_cut [8,9] from 10 (fun v8 v9 wx=>∃H:Nat,v8=.pointer (some ⟨H,0,none⟩)/\wx.heap[H]?=some (.cells #[.int .i64 0,.bool false] 164 (0,0))/\v9=.bool false/\w1.grownBy wx none/\w1.heap.size<=H)
  case first =>
   go_region
   all_goals (
    go_wp2_with fail
    go_meet
    exact ⟨_,rfl,heap_alloc_new w1 _,rfl,gb_dr2 w1 _,Nat.le_refl _⟩)
  case rest =>
   obtain ⟨H,rfl,hH,rfl,hgc,hHw⟩:=hcut
   have HBH:Hid (w.heap.size<=H):=Nat.le_trans HG1.out.size hHw
   have HGC:Hid (w.grownBy wc none):=gb_trans HG1.out hgc
   obtain ⟨kc0,kc1,-⟩:=two_cells (blk_gb HBK.out hgc)
   have HHc:Hid (wc.heap[H]?=some (.cells #[.int .i64 0,.bool false] 164 (0,0))):=hH
   have HKc:Hid (wc.heap[K]?=some (.cells #[.string ⟨k.toArray⟩,.int .i64 (pl:Nat)] 133 (0,0))):=blk_gb HBK.out hgc
   clear hgc hH hHw t1 t1A k0 k0A l1 l2
   go_wp2_with (first | (go_at_call 102;refine (CA2.out _ HGC.out).mono ?_))
   rintro e w3 ⟨rfl,ht3,hf3⟩
   have hH3:=(hf3.oth _ _ _ _ HHc.out (by decide) (by decide) (by decide)).trans HHc.out
   have hK3:=(hf3.oth _ _ _ _ HKc.out (by decide) (by decide) (by decide)).trans HKc.out
   obtain ⟨hh0,hh1,hhf⟩:=two_cells hH3
   have hhf0:=hhf 0
   obtain ⟨kk0,kk1,-⟩:=two_cells hK3
   have hkne:¬ K=H:=ne_typ hK3 hH3 (by decide)
   have HT4:Hid (Tr (w3.setCell ⟨H,0,none⟩ (.int .i64 (ns.length:Nat))) B T (addN ns t ⟨2,k,[],0,[],pl⟩) own now):=tr_set ht3 hH3 0 _
   have HF3:Hid (Fr B wc w3):=hf3
   clear hH3 hK3 ht3 hf3 hhf kc0 kc1
   go_wp2_with (first | (go_at_call 102;refine (CB.out _ HT4.out).mono ?_;rintro e w4 ⟨rfl,ht4,hf4⟩))
   refine bodyPost_ret (results_tmp2 (t:=6) (u:=7) rfl _ _ _) rfl ?_
   rw [HSE.out]
   refine ⟨fun t' ns' hh=>(by cases hh;exact ⟨by rw [HLN.out];rfl,HOW.out _ ht4⟩),fun c p hh=>(by cases hh),(fr_new ((Fr.gb HGC.out hB).two HF3.out) hB HBH.out 0 _).two hf4⟩
 | some q =>
  have hql:=HQL.out q hq
  obtain ⟨x,hx⟩:∃x,ns[q]=x:=⟨_,rfl⟩
  have hkx:kdAt ns q=x.kd:=by unfold kdAt;rw [List.getElem?_eq_getElem hql,hx]
  have HS1:Hid (S=if x.kd=2 then .ok (ns.length,addN ns q ⟨0,[],[],0,[],pl⟩) else .error (5,pl)):=by
   show S=_
   rw [HSS.out,hq]
   simp only [hkx]
  have HXQ:Hid (ns[q]=x):=hx
  have HKX:Hid (kdAt ns q=x.kd):=hkx
  rw [hq] at l1 l2
  simp only [] at l1 l2
  generalize decide (q ∈ own)=bb at l1 l2
  clear hq hx hkx
  go_enter Tryz.func97,Tryz.ntmps97
  go_upto_region 1 with fail
  go_cut [8,9] from 10 (fun v8 v9 wx=>∃H:Nat,v8=.pointer (some ⟨H,0,none⟩)/\wx.heap[H]?=some (.cells #[.int .i64 (q:Nat),.bool bb] 164 (0,0))/\v9=.bool true/\w1.grownBy wx none)
  case first =>
   go_region
   all_goals (
    go_wp2_with fail
    go_meet
    exact ⟨_,rfl,heap_alloc_new w1 _,rfl,gb_dr2 w1 _⟩)
  case rest =>
   obtain ⟨H,rfl,hH,rfl,hgc⟩:=hcut
   have HGC:Hid (w.grownBy wc none):=gb_trans HG1.out hgc
   obtain ⟨kc0,kc1,-⟩:=two_cells (blk_gb HBK.out hgc)
   have hDc:=HD1.out.keeps (keeps_gb hgc)
   obtain ⟨hh0,hh1,hhf⟩:=two_cells hH
   obtain ⟨T0,-,-,-⟩:=hDc.cells
   obtain ⟨n0,-,-,-,-,-,-⟩:=hDc.node q hql
   rw [HXQ.out] at n0
   have twc:=HTW.out _ hgc
   obtain ⟨z,hz⟩:∃z,x.kd=z:=⟨_,rfl⟩
   rw [hz] at n0 HS1 HKX
   clear hgc hH hDc hhf hz t1 t1A k0 k0A l1 l2
   by_cases hok:z=2
   ·have HSE:Hid (S=.ok (ns.length,addN ns q ⟨0,[],[],0,[],pl⟩)):=by show S=_;rw [HS1.out,if_pos hok]
    have hzb:(z != 2)=false:=by simp [hok]
    have HK2:Hid (kdAt ns q=2):=HKX.out.trans hok
    have CQ2:Hid (∀w',w.grownBy w' none->Calls Tryz.prog 102 #[.pointer (some ⟨T,0,none⟩),.int .i64 (q:Nat),.int .i64 0,.agg #[.string ⟨#[]⟩,.int .i64 (pl:Nat)]] w' (AdPost B T ns own now q ⟨0,[],[],0,[],pl⟩ w')):=CQ.out q hql HK2.out
    have HOW:Hid (∀w',Tr w' B T (addN ns q ⟨0,[],[],0,[],pl⟩) own now->Tr w' B T (addN ns q ⟨0,[],[],0,[],pl⟩) (ns.length :: own) now):=fun w' hh=>by
     refine hh.own (wf_add ns own q ⟨0,[],[],0,[],pl⟩ rfl hql HWF.out) (p:=q) ?_ (ksAt_new ns q _ hql)
     rw [kdAt_addN _ _ _ hql,if_neg (by omega),HK2.out]
     exact fun hh=>absurd hh (by decide)
    clear hok
    go_upto_region 4 with fail
    go_quiet (fail)
    go_wp2_with (first | (go_at_call 102;refine (CQ2.out _ (gb_drew HGC.out _)).mono ?_;rintro e w4 ⟨rfl,ht4,hf4⟩))
    refine bodyPost_ret (results_tmp2 (t:=6) (u:=7) rfl _ _ _) rfl ?_
    rw [HSE.out]
    exact ⟨fun t' ns' hh=>(by cases hh;exact ⟨rfl,HOW.out _ ht4⟩),fun c p hh=>(by cases hh),(Fr.gb (gb_drew HGC.out _) hB).two hf4⟩
   ·have HSE:Hid (S=.error (5,pl)):=by show S=_;rw [HS1.out,if_neg hok]
    have hzb:(z != 2)=true:=by simp [hok]
    clear hok
    go_upto_region 4 with fail
    go_quiet (fail)
    go_wp2_with (first | (go_at_call 101;refine (CW.out _).mono ?_;rintro e w5 ⟨⟨v,rfl,hv⟩,hg5⟩))
    refine bodyPost_ret (results_tmp2 (t:=6) (u:=7) rfl _ _ _) rfl ?_
    rw [HSE.out]
    exact ⟨fun t' ns' hh=>(by cases hh),fun c p hh=>(by cases hh;exact ⟨v,rfl,HFE.out _ _ hv,ns,HTR.out.gb (gb_trans (gb_drew HGC.out _) hg5)⟩),Fr.gb (gb_trans (gb_drew HGC.out _) hg5) hB⟩
end Go.Proofs.YtbgnflcebafjjaaGreatDoor
