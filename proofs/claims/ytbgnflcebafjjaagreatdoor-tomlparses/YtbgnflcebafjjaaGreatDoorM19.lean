import Derived.Test.YtbgnflcebafjjaaGreatDoorM18
import Derived.Test.YtbgnflcebafjjaaGreatDoorM13
import Derived.Test.YtbgnflcebafjjaaGreatDoorM01
import Derived.Below
import Derived.Lib.ConvBytes
import Derived.Shelf.Strconv.Clone
import Derived.Test.YtbgnflcebafjjaaGreatDoorProg
namespace Go.Proofs.YtbgnflcebafjjaaGreatDoor
open Go.RowKit Go.Maps Go.WideMaps Go.Joins
set_option linter.unusedVariables false
theorem Tr.own {w:World} {B T:Nat} {ns:List Tn} {own:List Nat} {now:Nat} (h:Tr w B T ns own now) (W:WF ns own) {p q:Nat} (h0:¬ kdAt ns p=0) (hq:q ∈ ksAt ns p):Tr w B T ns (q :: own) now:=by
 obtain ⟨N,c,M,xs,ks,e⟩:=h
 refine ⟨N,c,M,xs,ks,?_⟩
 rw [hold_end_list ns own W p q h0 hq]
 exact ⟨e.blk,e.bT,e.row,e.cel,e.kid,e.apart,e.map.mono (by simp),e.bM⟩
theorem tr_set {w:World} {B T:Nat} {ns:List Tn} {own:List Nat} {now:Nat} (h:Tr w B T ns own now) {H:Nat} {cs:Array Value} (hH:w.heap[H]?=some (.cells cs 164 (0,0))) (o:Nat) (v:Value):Tr (w.setCell ⟨H,o,none⟩ v) B T ns own now:=by
 obtain ⟨N,c,M,xs,ks,e⟩:=h
 exact ⟨N,c,M,xs,ks,e.keeps (keeps_set hH (by decide) (by decide) (by decide) o v)⟩
theorem ksAt_new (ns:List Tn) (up:Nat) (n:Tn) (hu:up < ns.length):ns.length ∈ ksAt (addN ns up n) up:=by
 rw [ksAt_addN ns up n hu,if_neg (by omega),if_pos rfl];simp
set_option maxRecDepth 100000 in
set_option maxHeartbeats 6400000 in
theorem tEndL_any (B T:Nat) (ns:List Tn) (own:List Nat) (now t:Nat) (E:Int->TypeId × Value) (k:List UInt8) (pl:Nat) (w:World) (h:Tr w B T ns own now) (W:WF ns own) (ht:t < ns.length) (h0:kdAt ns t=0) (hsz:ns.length+own.length<=900000) (hk:k.length<=1048576) (he:Es w E) :
  Calls Tryz.prog 97 #[.pointer (some ⟨T,0,none⟩),.int .i64 (t:Nat),.agg #[.string ⟨k.toArray⟩,.int .i64 (pl:Nat)]] w (EtPost B T own now E (endL ns t k pl) w):=by
 have CW:Hid (∀w,Calls Tryz.prog 101 #[.iface (E 5).1 (E 5).2,.int .i64 (pl:Nat)] w fun e w'=>(∃v,e=.returned v/\FaultV w' v pl (E 5).1 (E 5).2)/\w.grownBy w' none):=fun w=>tWrong_any pl _ _ w
 have CA:Hid (kidO ns t k=none->∀w',w.grownBy w' none->Calls Tryz.prog 102 #[.pointer (some ⟨T,0,none⟩),.int .i64 (t:Nat),.int .i64 2,.agg #[.string ⟨k.toArray⟩,.int .i64 (pl:Nat)]] w' (AdPost B T ns own now t ⟨2,k,[],0,[],pl⟩ w')):=fun hn w' hg=>tAdd_any B T ns own now t 2 k pl w' (h.gb hg) W ht (fun _=>hn) (by omega) hk
 have CB:Hid (∀w',Tr w' B T (addN ns t ⟨2,k,[],0,[],pl⟩) own now->Calls Tryz.prog 102 #[.pointer (some ⟨T,0,none⟩),.int .i64 (ns.length:Nat),.int .i64 0,.agg #[.string ⟨#[]⟩,.int .i64 (pl:Nat)]] w' (AdPost B T (addN ns t ⟨2,k,[],0,[],pl⟩) own now ns.length ⟨0,[],[],0,[],pl⟩ w')):=fun w' hg=>tAdd_any B T _ own now ns.length 0 [] pl w' hg (wf_add ns own t _ rfl ht W) (by rw [addN_len];omega) (fun h2=>by rw [kdAt_addN ns t _ ht,if_pos rfl] at h2;exact absurd (show (2:Int)=0 from h2) (by decide)) (by rw [addN_len];omega) (by simp)
 have CQ:Hid (∀q,q < ns.length->kdAt ns q=2->∀w',w.grownBy w' none->Calls Tryz.prog 102 #[.pointer (some ⟨T,0,none⟩),.int .i64 (q:Nat),.int .i64 0,.agg #[.string ⟨#[]⟩,.int .i64 (pl:Nat)]] w' (AdPost B T ns own now q ⟨0,[],[],0,[],pl⟩ w')):=fun q hq h2 w' hg=>tAdd_any B T ns own now q 0 [] pl w' (h.gb hg) W hq (fun h3=>by rw [h2] at h3;exact absurd h3 (by decide)) (by omega) (by simp)
 have HSS:Hid (endL ns t k pl=match kidO ns t k with | none=>.ok (ns.length+1,addN (addN ns t ⟨2,k,[],0,[],pl⟩) ns.length ⟨0,[],[],0,[],pl⟩) | some q=>if kdAt ns q=2 then .ok (ns.length,addN ns q ⟨0,[],[],0,[],pl⟩) else .error (5,pl)):=rfl
 have HQL:Hid (∀q,kidO ns t k=some q->q < ns.length):=fun q hq=>kid_lt W hq
 have HWF:Hid (WF ns own):=W
 have HTR:Hid (Tr w B T ns own now):=h
 have hB:B<=w.heap.size:=h.base
 obtain ⟨N,c,M,xs,ks,hD⟩:=h
 have hgK:w.grownBy (w.alloc (.cells #[.string ⟨k.toArray⟩,.int .i64 (pl:Nat)] 133)) none:=World.grownBy_alloc w _ none
 have hbK:=heap_alloc_new w (.cells #[.string ⟨k.toArray⟩,.int .i64 (pl:Nat)] 133)
 obtain ⟨K,hKe⟩:∃K,w.heap.size=K:=⟨_,rfl⟩
 rw [hKe] at hbK
 have hD1:=hD.keeps (keeps_gb hgK)
 have he1:=es_gb he hgK
 obtain ⟨w1,hw1⟩:∃w1,w.alloc (.cells #[.string ⟨k.toArray⟩,.int .i64 (pl:Nat)] 133)=w1:=⟨_,rfl⟩
 rw [hw1] at hbK hD1 hgK he1
 obtain ⟨-,t1,-,-⟩:=hD1.cells
 have k0:=(two_cells hbK).1
 have gA:w1.grownBy (w1.alloc (.cells #[.int .i64 0,.bool false] 164)) none:=World.grownBy_alloc w1 _ none
 have t1A:=gA.cell t1 (by simp)
 have k0A:=gA.cell k0 (by simp)
 have l1:=look_all hD1 t k h0 (by omega) hk w1.drew (gb_d w1)
 have l2:=look_all hD1 t k h0 (by omega) hk (w1.alloc (.cells #[.int .i64 0,.bool false] 164)).drew (gb_dr2 w1 _)
 have HG1:Hid (w.grownBy w1 none):=hgK
 have HBK:Hid (w1.heap[K]?=some (.cells #[.string ⟨k.toArray⟩,.int .i64 (pl:Nat)] 133 (0,0))):=hbK
 have HD1:Hid (TrD w1 B T ns now N c M xs ks (ns.length+own.length) (hold ns own)):=hD1
 have HFE:Hid (∀w' v,FaultV w' v pl (E 5).1 (E 5).2->FaultE w' v E 5 pl):=fun _ _ h=>h
 have HTW:Hid (∀w',w1.grownBy w' none->w'.cell? ⟨3,0,none⟩=some (.iface (E 5).1 (E 5).2)):=fun w' hg=>(es_gb he1 hg).tw
 obtain ⟨ty,hty⟩:∃ty,(E 5).1=ty:=⟨_,rfl⟩
 obtain ⟨pv,hpv⟩:∃pv,(E 5).2=pv:=⟨_,rfl⟩
 rw [hty,hpv] at CW HFE HTW
 obtain ⟨S,hS⟩:∃S,endL ns t k pl=S:=⟨_,rfl⟩
 rw [hS] at HSS ⊢
 clear hD hbK hD1 hgK he1 he hty hpv gA hS W
 cases hq:kidO ns t k with
 | none =>
  have HSE:Hid (S=.ok (ns.length+1,addN (addN ns t ⟨2,k,[],0,[],pl⟩) ns.length ⟨0,[],[],0,[],pl⟩)):=by show S=_;rw [HSS.out,hq]
  have CA2:Hid (∀w',w.grownBy w' none->Calls Tryz.prog 102 #[.pointer (some ⟨T,0,none⟩),.int .i64 (t:Nat),.int .i64 2,.agg #[.string ⟨k.toArray⟩,.int .i64 (pl:Nat)]] w' (AdPost B T ns own now t ⟨2,k,[],0,[],pl⟩ w')):=CA.out hq
  have HLN:Hid ((addN ns t ⟨2,k,[],0,[],pl⟩).length=ns.length+1):=addN_len _ _ _
  have HOW:Hid (∀w',Tr w' B T (addN (addN ns t ⟨2,k,[],0,[],pl⟩) ns.length ⟨0,[],[],0,[],pl⟩) own now->Tr w' B T (addN (addN ns t ⟨2,k,[],0,[],pl⟩) ns.length ⟨0,[],[],0,[],pl⟩) ((ns.length+1) :: own) now):=fun w' hh=>by
   have hu:ns.length < (addN ns t ⟨2,k,[],0,[],pl⟩).length:=by rw [addN_len];omega
   have hw1:=wf_add ns own t ⟨2,k,[],0,[],pl⟩ rfl ht HWF.out
   have hm:=ksAt_new (addN ns t ⟨2,k,[],0,[],pl⟩) ns.length ⟨0,[],[],0,[],pl⟩ hu
   rw [addN_len] at hm
   refine hh.own (wf_add _ own ns.length ⟨0,[],[],0,[],pl⟩ rfl hu hw1) (p:=ns.length) ?_ hm
   rw [kdAt_addN _ _ _ hu,if_neg (by rw [addN_len];omega),kdAt_addN _ _ _ ht,if_pos rfl]
   exact fun hh=>absurd (show (2:Int)=0 from hh) (by decide)
  rw [hq] at l1 l2
  simp only [] at l1 l2
  clear hq
  go_enter Tryz.func97,Tryz.ntmps97
  go_upto_region 1 with fail
  go_cut [8,9] from 10 (fun v8 v9 wx=>∃H:Nat,v8=.pointer (some ⟨H,0,none⟩)/\wx.heap[H]?=some (.cells #[.int .i64 0,.bool false] 164 (0,0))/\v9=.bool false/\w1.grownBy wx none/\w1.heap.size<=H)
  case first =>
   go_region
   all_goals (
    go_wp2_with fail
    go_meet
    exact ⟨_,rfl,heap_alloc_new w1 _,rfl,gb_dr2 w1 _,Nat.le_refl _⟩)
  case rest =>
   obtain ⟨H,rfl,hH,rfl,hgc,hHw⟩:=hcut
   have HBH:Hid (w.heap.size<=H):=Nat.le_trans HG1.out.size hHw
   have HGC:Hid (w.grownBy wc none):=gb_trans HG1.out hgc
   obtain ⟨kc0,kc1,-⟩:=two_cells (blk_gb HBK.out hgc)
   have HHc:Hid (wc.heap[H]?=some (.cells #[.int .i64 0,.bool false] 164 (0,0))):=hH
   have HKc:Hid (wc.heap[K]?=some (.cells #[.string ⟨k.toArray⟩,.int .i64 (pl:Nat)] 133 (0,0))):=blk_gb HBK.out hgc
   clear hgc hH hHw t1 t1A k0 k0A l1 l2
   go_wp2_with (first | (go_at_call 102;refine (CA2.out _ HGC.out).mono ?_))
   rintro e w3 ⟨rfl,ht3,hf3⟩
   have hH3:=(hf3.oth _ _ _ _ HHc.out (by decide) (by decide) (by decide)).trans HHc.out
   have hK3:=(hf3.oth _ _ _ _ HKc.out (by decide) (by decide) (by decide)).trans HKc.out
   obtain ⟨hh0,hh1,hhf⟩:=two_cells hH3
   have hhf0:=hhf 0
   obtain ⟨kk0,kk1,-⟩:=two_cells hK3
   have hkne:¬ K=H:=ne_typ hK3 hH3 (by decide)
   have HT4:Hid (Tr (w3.setCell ⟨H,0,none⟩ (.int .i64 (ns.length:Nat))) B T (addN ns t ⟨2,k,[],0,[],pl⟩) own now):=tr_set ht3 hH3 0 _
   have HF3:Hid (Fr B wc w3):=hf3
   clear hH3 hK3 ht3 hf3 hhf kc0 kc1
   go_wp2_with (first | (go_at_call 102;refine (CB.out _ HT4.out).mono ?_;rintro e w4 ⟨rfl,ht4,hf4⟩))
   refine bodyPost_ret (results_tmp2 (t:=6) (u:=7) rfl _ _ _) rfl ?_
   rw [HSE.out]
   refine ⟨fun t' ns' hh=>(by cases hh;exact ⟨by rw [HLN.out];rfl,HOW.out _ ht4⟩),fun c p hh=>(by cases hh),(fr_new ((Fr.gb HGC.out hB).two HF3.out) hB HBH.out 0 _).two hf4⟩
 | some q =>
  have hql:=HQL.out q hq
  obtain ⟨x,hx⟩:∃x,ns[q]=x:=⟨_,rfl⟩
  have hkx:kdAt ns q=x.kd:=by unfold kdAt;rw [List.getElem?_eq_getElem hql,hx]
  have HS1:Hid (S=if x.kd=2 then .ok (ns.length,addN ns q ⟨0,[],[],0,[],pl⟩) else .error (5,pl)):=by
   show S=_
   rw [HSS.out,hq]
   simp only [hkx]
  have HXQ:Hid (ns[q]=x):=hx
  have HKX:Hid (kdAt ns q=x.kd):=hkx
  rw [hq] at l1 l2
  simp only [] at l1 l2
  generalize decide (q ∈ own)=bb at l1 l2
  clear hq hx hkx
  go_enter Tryz.func97,Tryz.ntmps97
  go_upto_region 1 with fail
  go_cut [8,9] from 10 (fun v8 v9 wx=>∃H:Nat,v8=.pointer (some ⟨H,0,none⟩)/\wx.heap[H]?=some (.cells #[.int .i64 (q:Nat),.bool bb] 164 (0,0))/\v9=.bool true/\w1.grownBy wx none)
  case first =>
   go_region
   all_goals (
    go_wp2_with fail
    go_meet
    exact ⟨_,rfl,heap_alloc_new w1 _,rfl,gb_dr2 w1 _⟩)
  case rest =>
   obtain ⟨H,rfl,hH,rfl,hgc⟩:=hcut
   have HGC:Hid (w.grownBy wc none):=gb_trans HG1.out hgc
   obtain ⟨kc0,kc1,-⟩:=two_cells (blk_gb HBK.out hgc)
   have hDc:=HD1.out.keeps (keeps_gb hgc)
   obtain ⟨hh0,hh1,hhf⟩:=two_cells hH
   obtain ⟨T0,-,-,-⟩:=hDc.cells
   obtain ⟨n0,-,-,-,-,-,-⟩:=hDc.node q hql
   rw [HXQ.out] at n0
   have twc:=HTW.out _ hgc
   obtain ⟨z,hz⟩:∃z,x.kd=z:=⟨_,rfl⟩
   rw [hz] at n0 HS1 HKX
   clear hgc hH hDc hhf hz t1 t1A k0 k0A l1 l2
   by_cases hok:z=2
   ·have HSE:Hid (S=.ok (ns.length,addN ns q ⟨0,[],[],0,[],pl⟩)):=by show S=_;rw [HS1.out,if_pos hok]
    have hzb:(z != 2)=false:=by simp [hok]
    have HK2:Hid (kdAt ns q=2):=HKX.out.trans hok
    have CQ2:Hid (∀w',w.grownBy w' none->Calls Tryz.prog 102 #[.pointer (some ⟨T,0,none⟩),.int .i64 (q:Nat),.int .i64 0,.agg #[.string ⟨#[]⟩,.int .i64 (pl:Nat)]] w' (AdPost B T ns own now q ⟨0,[],[],0,[],pl⟩ w')):=CQ.out q hql HK2.out
    have HOW:Hid (∀w',Tr w' B T (addN ns q ⟨0,[],[],0,[],pl⟩) own now->Tr w' B T (addN ns q ⟨0,[],[],0,[],pl⟩) (ns.length :: own) now):=fun w' hh=>by
     refine hh.own (wf_add ns own q ⟨0,[],[],0,[],pl⟩ rfl hql HWF.out) (p:=q) ?_ (ksAt_new ns q _ hql)
     rw [kdAt_addN _ _ _ hql,if_neg (by omega),HK2.out]
     exact fun hh=>absurd hh (by decide)
    clear hok
    go_upto_region 4 with fail
    go_quiet (fail)
    go_wp2_with (first | (go_at_call 102;refine (CQ2.out _ (gb_drew HGC.out _)).mono ?_;rintro e w4 ⟨rfl,ht4,hf4⟩))
    refine bodyPost_ret (results_tmp2 (t:=6) (u:=7) rfl _ _ _) rfl ?_
    rw [HSE.out]
    exact ⟨fun t' ns' hh=>(by cases hh;exact ⟨rfl,HOW.out _ ht4⟩),fun c p hh=>(by cases hh),(Fr.gb (gb_drew HGC.out _) hB).two hf4⟩
   ·have HSE:Hid (S=.error (5,pl)):=by show S=_;rw [HS1.out,if_neg hok]
    have hzb:(z != 2)=true:=by simp [hok]
    clear hok
    go_upto_region 4 with fail
    go_quiet (fail)
    go_wp2_with (first | (go_at_call 101;refine (CW.out _).mono ?_;rintro e w5 ⟨⟨v,rfl,hv⟩,hg5⟩))
    refine bodyPost_ret (results_tmp2 (t:=6) (u:=7) rfl _ _ _) rfl ?_
    rw [HSE.out]
    exact ⟨fun t' ns' hh=>(by cases hh),fun c p hh=>(by cases hh;exact ⟨v,rfl,HFE.out _ _ hv,ns,HTR.out.gb (gb_trans (gb_drew HGC.out _) hg5)⟩),Fr.gb (gb_trans (gb_drew HGC.out _) hg5) hB⟩
end Go.Proofs.YtbgnflcebafjjaaGreatDoor
namespace Go.Proofs.YtbgnflcebafjjaaGreatDoor
open Go.RowKit Go.Maps Go.WideMaps Go.Joins
set_option linter.unusedVariables false
structure Lo (B:Nat):Prop where
 te:5 < B
 ra:1 < B
 ma:2 < B
 tw:3 < B
theorem cell_bel {w w':World} {B:Nat} (hb:Below B w w') (a:Addr) (h:a.block < B):w'.cell? a=w.cell? a:=World.cell?_of_block (hb.block a.block h)
theorem Es.bel {w w':World} {E:Int->TypeId × Value} {B:Nat} (h:Es w E) (hL:Lo B) (hb:Below B w w'):Es w' E :=
 ⟨(cell_bel hb _ hL.te).trans h.te,(cell_bel hb _ hL.ra).trans h.ra,(cell_bel hb _ hL.ma).trans h.ma,(cell_bel hb _ hL.tw).trans h.tw⟩
def KyR (w:World) (g:Nat) (l:List (List UInt8 × Nat)):Prop:=∃cur:Array Value,w.heap[g]?=some (.cells cur 133 (0,0))/\∀i (hi:i < l.length),cur[i * 2]?=some (.string ⟨l[i].1.toArray⟩)/\cur[i * 2+1]?=some (.int .i64 (l[i].2:Nat))
theorem KyR.fr {w w':World} {B g:Nat} {l:List (List UInt8 × Nat)} (h:KyR w g l) (hf:Fr B w w'):KyR w' g l:=by
 obtain ⟨cur,h1,h2⟩:=h
 exact ⟨cur,(hf.oth _ _ _ _ h1 (by decide) (by decide) (by decide)).trans h1,h2⟩
theorem KyR.at {w:World} {g:Nat} {l:List (List UInt8 × Nat)} (h:KyR w g l) (i:Nat) (hi:i < l.length):w.cell? ⟨g,i * 2,none⟩=some (.string ⟨l[i].1.toArray⟩)/\w.cell? ⟨g,i * 2+1,none⟩=some (.int .i64 (l[i].2:Nat)):=by
 obtain ⟨cur,h1,h2⟩:=h
 obtain ⟨a,b⟩:=h2 i hi
 exact ⟨by rw [Lib.cell_of_heap h1];exact a,by rw [Lib.cell_of_heap h1];exact b⟩
theorem faultE_set {w:World} {v:Value} {E:Int->TypeId × Value} {c:Int} {p T o:Nat} {cs:Array Value} {x:Value} (h:FaultE w v E c p) (hT:w.heap[T]?=some (.cells cs 64 (0,0))):FaultE (w.setCell ⟨T,o,none⟩ x) v E c p:=by
 obtain ⟨F,h1,h2⟩:=h
 exact ⟨F,h1,(heap_setCell_other _ _ _ _ (ne_typ h2 hT (by decide))).trans h2⟩
def EnPost (B T:Nat) (own:List Nat) (E:Int->TypeId × Value) (r:Rs (Nat × List Tn)) (w:World) (e:Ending) (w':World):Prop :=
 (∀t ns,r=.ok (t,ns)->e=.returned .nilIface/\Tr w' B T ns (t :: own) t)/\(∀c p,r=.error (c,p)->∃v,e=.returned v/\FaultE w' v E c p)/\Fr B w w'
theorem Tr.blk {w:World} {B T:Nat} {ns:List Tn} {own:List Nat} {now:Nat} (h:Tr w B T ns own now):(∃cs,w.heap[T]?=some (.cells cs 64 (0,0)))/\B<=T:=by
 obtain ⟨N,c,M,xs,ks,hD⟩:=h
 exact ⟨⟨_,hD.blk⟩,hD.bT⟩
theorem Tr.hand {w:World} {B T:Nat} {ns:List Tn} {own:List Nat} {now:Nat} (h:Tr w B T ns own now) (m:Nat):Tr (w.setCell ⟨T,2,none⟩ (.int .i64 (m:Nat))) B T ns own m:=by
 obtain ⟨N,c,M,xs,ks,hD⟩:=h
 exact ⟨N,c,M,xs,ks,hD.hand m⟩
theorem Fr.hand {w w1:World} {B T:Nat} {cs:Array Value} (h:Fr B w w1) (hT:w1.heap[T]?=some (.cells cs 64 (0,0))) (hB:B<=T) (v:Value):Fr B w (w1.setCell ⟨T,2,none⟩ v):=h.two (Fr.row (gb_setc w1 T 2 v) (Nat.le_of_lt (Nat.lt_of_le_of_lt hB (blk_lt hT))) hB hT (Or.inl rfl))
theorem Tr.two {w:World} {B T:Nat} {ns:List Tn} {own:List Nat} {now:Nat} (h:Tr w B T ns own now):w.cell? ⟨T,2,none⟩=some (.int .i64 (now:Nat))/\w.frozen? ⟨T,2,none⟩=false:=by
 obtain ⟨N,c,M,xs,ks,hD⟩:=h
 obtain ⟨-,-,h2,h3⟩:=hD.cells
 exact ⟨h2,h3 2⟩
set_option maxRecDepth 100000 in
set_option maxHeartbeats 3200000 in
theorem tEnter_any (B T:Nat) (ns:List Tn) (own:List Nat) (now:Nat) (E:Int->TypeId × Value) (l:List (List UInt8 × Nat)) (many:Bool) (g c d:Nat) (w:World) (h:Tr w B T ns own now) (J:Jt ns own 0) (hl:l.length=d+1) (hc:d+1<=c) (hK:KyR w g l) (hsz:ns.length+own.length+d<=800000) (hk:∀x ∈ l,x.1.length<=1048576) (he:Es w E) (hL:Lo B) :
  Calls Tryz.prog 72 #[.pointer (some ⟨T,0,none⟩),.slice (some ⟨g,0,none⟩) (d+1) c,.bool many] w (EnPost B T own E (way many own l 0 ns) w):=by
 have CP:Hid (∀(m:List Tn) (t i:Nat) (hi:i < l.length) w',Tr w' B T m own now->Jt m own t->m.length<=ns.length+d->Fr B w w'->Calls Tryz.prog 96 #[.pointer (some ⟨T,0,none⟩),.int .i64 (t:Nat),.agg #[.string ⟨l[i].1.toArray⟩,.int .i64 (l[i].2:Nat)]] w' (PsPost B T own now E (stp m t l[i].1 l[i].2) w')):=fun m t i hi w' h1 j hm hf=>tPass_any B T m own now t E l[i].1 l[i].2 w' h1 j.wf j.wt j.lt j.kd (by omega) (hk _ (List.getElem_mem hi)) (he.bel hL hf.bel)
 have CT:Hid (∀(m:List Tn) (t i:Nat) (hi:i < l.length) w',Tr w' B T m own now->Jt m own t->m.length<=ns.length+d->Fr B w w'->Calls Tryz.prog 98 #[.pointer (some ⟨T,0,none⟩),.int .i64 (t:Nat),.agg #[.string ⟨l[i].1.toArray⟩,.int .i64 (l[i].2:Nat)]] w' (EtPost B T own now E (endT m own t l[i].1 l[i].2) w')):=fun m t i hi w' h1 j hm hf=>tEndT_any B T m own now t E l[i].1 l[i].2 w' h1 j.wf j.lt j.kd (by omega) (hk _ (List.getElem_mem hi)) (he.bel hL hf.bel)
 have CL:Hid (∀(m:List Tn) (t i:Nat) (hi:i < l.length) w',Tr w' B T m own now->Jt m own t->m.length<=ns.length+d->Fr B w w'->Calls Tryz.prog 97 #[.pointer (some ⟨T,0,none⟩),.int .i64 (t:Nat),.agg #[.string ⟨l[i].1.toArray⟩,.int .i64 (l[i].2:Nat)]] w' (EtPost B T own now E (endL m t l[i].1 l[i].2) w')):=fun m t i hi w' h1 j hm hf=>tEndL_any B T m own now t E l[i].1 l[i].2 w' h1 j.wf j.lt j.kd (by omega) (hk _ (List.getElem_mem hi)) (he.bel hL hf.bel)
 have hwd:wrap64 (d:Int)=(d:Int):=wrapJ d (by omega)
 have hwd2:(wrap64 (d:Int)).toNat=d:=by rw [hwd];exact Int.toNat_natCast d
 have HTR:Hid (Tr w B T ns own now):=h
 have HB:Hid (B<=w.heap.size):=h.base
 have HJ:Hid (Jt ns own 0):=J
 have HK:Hid (KyR w g l):=hK
 have HL:Hid (l.length=d+1):=hl
 have HW1:Hid (∀i (hi:i < l.length) t m,i+1 < l.length->way many own (l.drop i) t m=match stp m t l[i].1 l[i].2 with | .error e=>.error e | .ok (t1,ns1)=>way many own (l.drop (i+1)) t1 ns1):=fun i hi t m h2=>by
  rw [List.drop_eq_getElem_cons hi,List.drop_eq_getElem_cons h2]
  exact way_more many own l[i].1 l[i].2 l[i+1] _ t m
 have HW0:Hid (∀i (hi:i < l.length) t m,i+1=l.length->way many own (l.drop i) t m=if many=true then endL m t l[i].1 l[i].2 else endT m own t l[i].1 l[i].2):=fun i hi t m h2=>by
  rw [List.drop_eq_getElem_cons hi,List.drop_eq_nil_of_le (by omega)]
  exact way_one many own l[i].1 l[i].2 t m
 obtain ⟨S,hS⟩:∃S,way many own l 0 ns=S:=⟨_,rfl⟩
 have HS:Hid (way many own l 0 ns=S):=hS
 rw [hS]
 clear h J hK he hk hS hl
 go_enter Tryz.func72,Tryz.ntmps72
 go_wp2
 go_loopw [8,21] (fun v8 v21 wr=>∃(i t:Nat) (m:List Tn),v21=.int .i64 (i:Nat)/\v8=.int .i64 (t:Nat)/\i<=d/\Jt m own t/\Tr wr B T m own now/\way many own (l.drop i) t m=S/\m.length<=ns.length+i/\Fr B w wr) (fun _ v21 _=>d - (intOf v21).toNat)
 case atStart=>exact ⟨0,0,ns,rfl,rfl,Nat.zero_le _,HJ.out,HTR.out,HS.out,Nat.le_refl _,Fr.gb (gb_refl w none) HB.out⟩
 case round =>
  obtain ⟨i,t,m,rfl,rfl,hi,hj,htr,hway,hml,hfr⟩:=hrel
  have HJm:Hid (Jt m own t):=hj
  have HTm:Hid (Tr wr B T m own now):=htr
  have HFm:Hid (Fr B w wr):=hfr
  have hil:i < l.length:=by have:=HL.out;omega
  obtain ⟨a1,a2⟩:=(HK.out.fr hfr).at i hil
  by_cases hlt:i < d
  ·rw [HW1.out i hil t m (by have:=HL.out;omega)] at hway
   have HWAY:Hid ((match stp m t l[i].1 l[i].2 with | .error e=>.error e | .ok (t1,ns1)=>way many own (l.drop (i+1)) t1 ns1)=S):=hway
   have CP1:Hid (∀w',Tr w' B T m own now->Fr B w w'->Calls Tryz.prog 96 #[.pointer (some ⟨T,0,none⟩),.int .i64 (t:Nat),.agg #[.string ⟨l[i].1.toArray⟩,.int .i64 (l[i].2:Nat)]] w' (PsPost B T own now E (stp m t l[i].1 l[i].2) w')):=fun w' h1 h2=>CP.out m t i hil w' h1 hj (by omega) h2
   have HST:Hid (∀t1 m1,stp m t l[i].1 l[i].2=.ok (t1,m1)->Jt m1 own t1/\m.length<=m1.length/\m1.length<=m.length+1):=fun t1 m1 hs=>stp_ok hj hs
   obtain ⟨x,hx⟩:∃x,l[i]=x:=⟨_,rfl⟩
   rw [hx] at a1 a2 CP1 HWAY HST
   obtain ⟨R,hR⟩:∃R,stp m t x.1 x.2=R:=⟨_,rfl⟩
   rw [hR] at CP1 HWAY HST
   have hgA:wr.grownBy (wr.alloc (.cells #[.string ⟨x.1.toArray⟩,.int .i64 (x.2:Nat)] 133)) none:=World.grownBy_alloc wr _ none
   have HTA:Hid (Tr (wr.alloc (.cells #[.string ⟨x.1.toArray⟩,.int .i64 (x.2:Nat)] 133)) B T m own now):=htr.gb hgA
   have HFA:Hid (Fr B w (wr.alloc (.cells #[.string ⟨x.1.toArray⟩,.int .i64 (x.2:Nat)] 133))):=hfr.two (Fr.gb hgA htr.base)
   clear hj htr hway hfr hx hR hgA
   go_wp2_with (first | (go_at_call 96;refine (CP1.out _ HTA.out HFA.out).mono ?_))
   rintro e w2 ⟨p1,p2,p3⟩
   have HF2:Hid (Fr B w w2):=HFA.out.two p3
   cases R with
   | error ec =>
    obtain ⟨ec1,ec2⟩:=ec
    obtain ⟨v,rfl,F,rfl,hF⟩:=p2 ec1 ec2 rfl
    have HFV:Hid (FaultE w2 (.iface 65 (.pointer (some ⟨F,0,none⟩))) E ec1 ec2):=⟨F,rfl,hF⟩
    have HSE:Hid (S=.error (ec1,ec2)):=HWAY.out.symm
    clear p1 p2 p3 hF
    go_wp2
    refine bodyPost_ret (results_tmp (t:=6) rfl _ _ _) rfl ?_
    rw [HSE.out]
    exact ⟨fun t ns hh=>(by cases hh),fun c p hh=>(by cases hh;exact ⟨_,rfl,HFV.out⟩),HF2.out⟩
   | ok tm =>
    obtain ⟨t1,m1⟩:=tm
    obtain ⟨rfl,ht1⟩:=p1 t1 m1 rfl
    have HT1:Hid (Tr w2 B T m1 own now):=ht1
    obtain ⟨j1,-,j3⟩:=HST.out t1 m1 rfl
    have HJ1:Hid (Jt m1 own t1):=j1
    have HSE:Hid (way many own (l.drop (i+1)) t1 m1=S):=HWAY.out
    clear p1 p2 p3 ht1 j1
    go_wp2
    go_roundw
    case rel=>exact ⟨i+1,t1,m1,by go_num,rfl,by omega,HJ1.out,HT1.out,HSE.out,by omega,HF2.out⟩
    case measure=>simp [intOf];omega
  ·have hid:i=d:=by omega
   subst hid
   rw [HW0.out i hil t m (by have:=HL.out;omega)] at hway
   have HWAY:Hid ((if many=true then endL m t l[i].1 l[i].2 else endT m own t l[i].1 l[i].2)=S):=hway
   have CT1:Hid (∀w',Tr w' B T m own now->Fr B w w'->Calls Tryz.prog 98 #[.pointer (some ⟨T,0,none⟩),.int .i64 (t:Nat),.agg #[.string ⟨l[i].1.toArray⟩,.int .i64 (l[i].2:Nat)]] w' (EtPost B T own now E (endT m own t l[i].1 l[i].2) w')):=fun w' h1 h2=>CT.out m t i hil w' h1 hj (by omega) h2
   have CL1:Hid (∀w',Tr w' B T m own now->Fr B w w'->Calls Tryz.prog 97 #[.pointer (some ⟨T,0,none⟩),.int .i64 (t:Nat),.agg #[.string ⟨l[i].1.toArray⟩,.int .i64 (l[i].2:Nat)]] w' (EtPost B T own now E (endL m t l[i].1 l[i].2) w')):=fun w' h1 h2=>CL.out m t i hil w' h1 hj (by omega) h2
   obtain ⟨x,hx⟩:∃x,l[i]=x:=⟨_,rfl⟩
   rw [hx] at a1 a2 CT1 CL1 HWAY
   obtain ⟨⟨csT,hcsT⟩,hBT⟩:=htr.blk
   clear hj htr hway hfr hx hcsT
   cases many with
   | true =>
    have HSE0:Hid (endL m t x.1 x.2=S):=HWAY.out
    obtain ⟨R,hR⟩:∃R,endL m t x.1 x.2=R:=⟨_,rfl⟩
    rw [hR] at CL1 HSE0
    clear hR
    go_wp2_with (first | (go_at_call 97;refine (CL1.out _ HTm.out HFm.out).mono ?_))
    rintro e w2 ⟨p1,p2,p3⟩
    have HF2:Hid (Fr B w w2):=HFm.out.two p3
    cases R with
    | error ec =>
     obtain ⟨ec1,ec2⟩:=ec
     obtain ⟨v,rfl,⟨F,rfl,hF⟩,ns0,htr0⟩:=p2 ec1 ec2 rfl
     have HFV:Hid (FaultE w2 (.iface 65 (.pointer (some ⟨F,0,none⟩))) E ec1 ec2):=⟨F,rfl,hF⟩
     obtain ⟨⟨csT,hcsT⟩,-⟩:=htr0.blk
     have HCS:Hid (w2.heap[T]?=some (.cells csT 64 (0,0))):=hcsT
     obtain ⟨c2,f2⟩:=htr0.two
     have HSE:Hid (S=.error (ec1,ec2)):=HSE0.out.symm
     clear p1 p2 p3 hF hcsT htr0
     go_wp2
     refine bodyPost_ret (results_tmp (t:=6) rfl _ _ _) rfl ?_
     rw [HSE.out]
     exact ⟨fun t ns hh=>(by cases hh),fun c p hh=>(by cases hh;exact ⟨_,rfl,faultE_set HFV.out HCS.out⟩),HF2.out.hand HCS.out hBT _⟩
    | ok tm =>
     obtain ⟨t1,m1⟩:=tm
     obtain ⟨rfl,ht1⟩:=p1 t1 m1 rfl
     have HT1:Hid (Tr w2 B T m1 (t1 :: own) now):=ht1
     obtain ⟨⟨csT,hcsT⟩,-⟩:=ht1.blk
     have HCS:Hid (w2.heap[T]?=some (.cells csT 64 (0,0))):=hcsT
     obtain ⟨c2,f2⟩:=ht1.two
     have HSE:Hid (S=.ok (t1,m1)):=HSE0.out.symm
     clear p1 p2 p3 ht1 hcsT
     go_wp2
     refine bodyPost_ret (results_tmp (t:=6) rfl _ _ _) rfl ?_
     rw [HSE.out]
     exact ⟨fun t ns hh=>(by cases hh;exact ⟨rfl,HT1.out.hand t1⟩),fun c p hh=>(by cases hh),HF2.out.hand HCS.out hBT _⟩
   | false =>
    have HSE0:Hid (endT m own t x.1 x.2=S):=HWAY.out
    obtain ⟨R,hR⟩:∃R,endT m own t x.1 x.2=R:=⟨_,rfl⟩
    rw [hR] at CT1 HSE0
    clear hR
    go_wp2_with (first | (go_at_call 98;refine (CT1.out _ HTm.out HFm.out).mono ?_))
    rintro e w2 ⟨p1,p2,p3⟩
    have HF2:Hid (Fr B w w2):=HFm.out.two p3
    cases R with
    | error ec =>
     obtain ⟨ec1,ec2⟩:=ec
     obtain ⟨v,rfl,⟨F,rfl,hF⟩,ns0,htr0⟩:=p2 ec1 ec2 rfl
     have HFV:Hid (FaultE w2 (.iface 65 (.pointer (some ⟨F,0,none⟩))) E ec1 ec2):=⟨F,rfl,hF⟩
     obtain ⟨⟨csT,hcsT⟩,-⟩:=htr0.blk
     have HCS:Hid (w2.heap[T]?=some (.cells csT 64 (0,0))):=hcsT
     obtain ⟨c2,f2⟩:=htr0.two
     have HSE:Hid (S=.error (ec1,ec2)):=HSE0.out.symm
     clear p1 p2 p3 hF hcsT htr0
     go_wp2
     refine bodyPost_ret (results_tmp (t:=6) rfl _ _ _) rfl ?_
     rw [HSE.out]
     exact ⟨fun t ns hh=>(by cases hh),fun c p hh=>(by cases hh;exact ⟨_,rfl,faultE_set HFV.out HCS.out⟩),HF2.out.hand HCS.out hBT _⟩
    | ok tm =>
     obtain ⟨t1,m1⟩:=tm
     obtain ⟨rfl,ht1⟩:=p1 t1 m1 rfl
     have HT1:Hid (Tr w2 B T m1 (t1 :: own) now):=ht1
     obtain ⟨⟨csT,hcsT⟩,-⟩:=ht1.blk
     have HCS:Hid (w2.heap[T]?=some (.cells csT 64 (0,0))):=hcsT
     obtain ⟨c2,f2⟩:=ht1.two
     have HSE:Hid (S=.ok (t1,m1)):=HSE0.out.symm
     clear p1 p2 p3 ht1 hcsT
     go_wp2
     refine bodyPost_ret (results_tmp (t:=6) rfl _ _ _) rfl ?_
     rw [HSE.out]
     exact ⟨fun t ns hh=>(by cases hh;exact ⟨rfl,HT1.out.hand t1⟩),fun c p hh=>(by cases hh),HF2.out.hand HCS.out hBT _⟩
open Go.RowKit
set_option linter.unusedVariables false
theorem gb_below {w w':World} (h:w.grownBy w' none):Below w.heap.size w w':=⟨h.os,h.tape,h.output,h.size,fun k hk=>h.block k hk (by simp)⟩
end Go.Proofs.YtbgnflcebafjjaaGreatDoor
namespace Go.Proofs
open Go.Shelf
def Tryz.lays316_ren:Go.Shelf.Ren:=⟨fun | 316=>120 | n=>n,fun | 22=>41 | 27=>155 | 28=>31 | 31=>108 | 34=>54 | 35=>157 | 37=>74 | 40=>212 | 41=>71 | 42=>158 | 43=>156 | 46=>175 | 47=>174 | 48=>200 | 49=>258 | 51=>193 | 52=>192 | 53=>195 | 54=>194 | 55=>177 | 69=>87 | 70=>73 | 71=>75 | 72=>76 | 73=>79 | 74=>42 | 75=>43 | 76=>118 | 77=>119 | 78=>121 | 79=>180 | 80=>85 | 81=>90 | 83=>127 | 84=>196 | 85=>218 | 86=>219 | 94=>125 | 104=>34 | 105=>181 | 106=>182 | 108=>233 | 111=>91 | 112=>159 | 114=>211 | 119=>213 | 126=>198 | 127=>126 | 128=>199 | 131=>190 | 137=>214 | 138=>215 | 139=>216 | 143=>235 | 144=>236 | 145=>237 | 164=>93 | 165=>176 | 167=>217 | 168=>220 | 169=>221 | 170=>222 | 171=>207 | 172=>208 | 173=>209 | 174=>210 | 175=>229 | 176=>230 | 182=>185 | 183=>186 | 209=>231 | 210=>232 | 211=>226 | 212=>227 | 213=>228 | 214=>234 | 218=>201 | 219=>202 | 220=>203 | 222=>205 | 228=>223 | 229=>224 | 232=>238 | 233=>239 | 238=>240 | 239=>241 | 240=>242 | 241=>243 | 242=>244 | 243=>246 | 244=>101 | 245=>247 | 246=>248 | 247=>249 | 248=>250 | 249=>251 | n=>n,fun | 1=>6 | 3=>7 | 4=>8 | 15=>10 | 16=>11 | 17=>9 | 18=>12 | 19=>13 | n=>n⟩
set_option maxRecDepth 100000 in
theorem Tryz.lays316:Go.Proofs.LaysM.n316 Tryz.prog Tryz.lays316_ren:={
 mixed:=by kernel_rfl
 f316:=Tryz.func120.trans (congrArg some (by kernel_rfl))
 t0:=Tryz.underlying0
 a0:=Tryz.isAgg0
 z0:=Tryz.sizeOf0
 v0:=Tryz.zeroValue0
 t3:=Tryz.underlying3
 a3:=Tryz.isAgg3
 z3:=Tryz.sizeOf3
 v3:=Tryz.zeroValue3
 t4:=Tryz.underlying4
 a4:=Tryz.isAgg4
 z4:=Tryz.sizeOf4
 v4:=Tryz.zeroValue4
 t9:=Tryz.underlying9
 a9:=Tryz.isAgg9
 z9:=Tryz.sizeOf9
 v9:=Tryz.zeroValue9
 t37:=Tryz.underlying74
 a37:=Tryz.isAgg74
 z37:=Tryz.sizeOf74
 v37:=Tryz.zeroValue74
 t127:=Tryz.underlying126
 a127:=Tryz.isAgg126
 z127:=Tryz.sizeOf126
 v127:=Tryz.zeroValue126
 t5:=Tryz.underlying5
 a5:=Tryz.isAgg5
 z5:=Tryz.sizeOf5
 v5:=Tryz.zeroValue5
 i0:=by kernel_rfl
 i3:=by kernel_rfl
 i4:=by kernel_rfl
 i5:=by kernel_rfl
 i9:=by kernel_rfl
 i37:=by kernel_rfl
 i127:=by kernel_rfl }
end Go.Proofs
namespace Go.Proofs.YtbgnflcebafjjaaGreatDoor
open Go.RowKit Go.Shelf
set_option linter.unusedVariables false
theorem cloneL_any (s:ByteArray) (w:World) (hlim:s.size<=281474976710656) :
  Calls Tryz.prog 120 #[.string s] w fun e w'=>e=.returned (.string s)/\Below w.heap.size w w':=Any.stringslite_Clone Tryz.lays316 s w hlim
set_option maxHeartbeats 400000 in
theorem clone_any (s:ByteArray) (w:World) (hlim:s.size<=281474976710656) :
  Calls Tryz.prog 100 #[.string s] w fun e w'=>e=.returned (.string s)/\w.grownBy w' none:=by
 have C:Hid (∀w,Calls Tryz.prog 120 #[.string s] w fun e w'=>e=.returned (.string s)/\Below w.heap.size w w'):=fun w=>cloneL_any s w hlim
 clear hlim
 go_enter Tryz.func100,Tryz.ntmps100
 go_wp2_with (first | (go_at_call 120;refine (C.out _).mono ?_;rintro e w1 ⟨rfl,hb⟩))
 go_ret
 exact ⟨rfl,⟨hb.os,hb.tape,hb.output,hb.size,fun k hk _=>hb.block k hk⟩⟩
end Go.Proofs.YtbgnflcebafjjaaGreatDoor
