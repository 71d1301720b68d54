import Derived.Test.YtbgnflcebafjjaaGreatDoorP04
import Derived.Deep.RegionHeld3
import Derived.Deep.RegionLaw
import Derived.Deep.Cut
import Derived.Test.YtbgnflcebafjjaaGreatDoorP03
import Derived.Lib.AppendStr
import Derived.Deep.AppendLies
namespace Go.Proofs.YtbgnflcebafjjaaGreatDoor
open Go.RowKit Go.Maps Go.WideMaps Go.Joins
set_option linter.unusedVariables false
theorem infoNode:(Tryz.prog.info? 33).map (fun i=>(i.zero,i.size,i.bytes))=some (some (.agg #[.int .i64 0,.string ⟨#[]⟩,.string ⟨#[]⟩,.int .i64 0,.slice none 0 0,.int .i64 0]),6,80):=by kernel_rfl
theorem infoInt:(Tryz.prog.info? 3).map (fun i=>(i.zero,i.size,i.bytes))=some (some (.int .i64 0),1,8):=by kernel_rfl
def AdPost (B T:Nat) (ns:List Tn) (own:List Nat) (now p:Nat) (x:Tn) (w:World) (e:Ending) (w':World):Prop:=e=.returned (.int .i64 (ns.length:Nat))/\Tr w' B T (addN ns p x) own now/\Fr B w w'
theorem frz_app {w w3:World} {o:Obj} {r:Option Nat} {T i:Nat} {cs:Array Value} {t:TypeId} (d:w.heap[T]?=some (.cells cs t (0,0))) (hg:(w.drew.alloc o).grownBy w3 r) (hne:some T ≠ r):w3.frozen? ⟨T,i,none⟩=false:=by
 have e0:(w.drew.alloc o).heap[T]?=some (.cells cs t (0,0)):=((World.grownBy_alloc w.drew o none).block T (blk_lt (w:=w.drew) d) (by simp)).trans d
 exact Lib.frozen_of_heap ((hg.block T (blk_lt e0) hne).trans e0) i
theorem cel_app {w w3:World} {o:Obj} {r:Option Nat} {T i:Nat} {v:Value} (d:w.cell? ⟨T,i,none⟩=some v) (hg:(w.drew.alloc o).grownBy w3 r) (hne:some T ≠ r):w3.cell? ⟨T,i,none⟩=some v:=hg.cell ((World.grownBy_alloc w.drew o none).cell d (by simp)) hne
theorem node_one (x:Tn):∀u ∈ ([.int .i64 x.kd,.string ⟨x.ky.toArray⟩,.string ⟨x.tx.toArray⟩,.int .i64 x.nu,.slice none 0 0,.int .i64 (x.pl:Nat)]:List Value),u.oneCell'=true:=by
 intro u hu
 simp only [List.mem_cons,List.not_mem_nil,or_false] at hu
 rcases hu with rfl | rfl | rfl | rfl | rfl | rfl <;> rfl
theorem int_one (q:Nat):∀u ∈ ([.int .i64 (q:Nat)]:List Value),u.oneCell'=true:=by
 intro u hu
 simp only [List.mem_cons,List.not_mem_nil,or_false] at hu
 rcases hu with rfl;rfl
theorem own_slice {w:World} {B:Nat} {e:TypeId} {s:Nat} {v:Value} {n:Nat} {xs:List Value} (h:w.ownsRow B e s v n xs):∃o c,v=.slice o n c:=by
 rcases h.2 with ⟨h1,h2⟩ | ⟨g,cap,cur,h1,_⟩
 ·exact ⟨none,0,by rw [h1,h2]⟩
 ·exact ⟨_,_,h1⟩
theorem addN_app (ns:List Tn) (p:Nat) (x:Tn) (hp:p < ns.length) (hp':p < (ns++[x]).length):(ns++[x]).set p { (ns++[x])[p] with ks:=(ns++[x])[p].ks++[ns.length] }=addN ns p x:=by
 unfold addN
 rw [List.getElem?_eq_getElem hp]
 simp only [List.getElem_append_left hp]
 rw [List.set_append_left _ _ hp]
theorem add_one {w w1 w3:World} {B T:Nat} {ns:List Tn} {now N c M:Nat} {xs:List Value} {ks:Nat->Value} {n:Nat} {f:Nat->List UInt8->Option (Nat × Bool)} {kd:Int} {k:List UInt8} {pl K g cap:Nat}
  (h:TrD w1 B T ns now N c M xs ks n f) (hf:Fr B w w1) (hK:w1.heap[K]?=some (.cells #[.string ⟨k.toArray⟩,.int .i64 (pl:Nat)] 133 (0,0)))
  (ho:w3.ownsRow B 33 6 (.slice (some ⟨g,0,none⟩) (ns.length+1) cap) (ns.length+1) (xs++[.int .i64 kd,.string ⟨k.toArray⟩,.string ⟨#[]⟩,.int .i64 0,.slice none 0 0,.int .i64 (pl:Nat)]))
  (hg:(w1.drew.alloc (.cells #[.int .i64 kd,.string ⟨k.toArray⟩,.string ⟨#[]⟩,.int .i64 0,.slice none 0 0,.int .i64 (pl:Nat)] 33)).grownBy w3 (Value.slice (some ⟨N,0,none⟩) ns.length c).ownBlock) :
  ∃(g' cap':Nat) (xs':List Value) (ks':Nat->Value),TrD (w3.setCell ⟨T,0,none⟩ (.slice (some ⟨g,0,none⟩) (ns.length+1) cap)) B T (ns++[⟨kd,k,[],0,[],pl⟩]) now g' cap' M xs' ks' n f/\Fr B w (w3.setCell ⟨T,0,none⟩ (.slice (some ⟨g,0,none⟩) (ns.length+1) cap))/\(w3.setCell ⟨T,0,none⟩ (.slice (some ⟨g,0,none⟩) (ns.length+1) cap)).heap[K]?=some (.cells #[.string ⟨k.toArray⟩,.int .i64 (pl:Nat)] 133 (0,0)):=by
 have hgE:w1.grownBy (w1.drew.alloc (.cells #[.int .i64 kd,.string ⟨k.toArray⟩,.string ⟨#[]⟩,.int .i64 0,.slice none 0 0,.int .i64 (pl:Nat)] 33)) none:=by
  have:=World.grownBy_alloc w1.drew (.cells #[.int .i64 kd,.string ⟨k.toArray⟩,.string ⟨#[]⟩,.int .i64 0,.slice none 0 0,.int .i64 (pl:Nat)] 33) none
  exact ⟨this.os,this.tape,this.output,this.size,this.block⟩
 obtain ⟨w2,hw2⟩:∃w2,w1.drew.alloc (.cells #[.int .i64 kd,.string ⟨k.toArray⟩,.string ⟨#[]⟩,.int .i64 0,.slice none 0 0,.int .i64 (pl:Nat)] 33)=w2:=⟨_,rfl⟩
 rw [hw2] at hg hgE
 have hg':w2.grownBy w3 (some N):=hg
 have h2:=h.keeps (keeps_gb hgE)
 obtain ⟨cN,hcN⟩:=h2.rowT
 have hB1:B<=w1.heap.size:=Nat.le_of_lt (Nat.lt_of_le_of_lt h.bT (blk_lt h.blk))
 have hB2:B<=w2.heap.size:=Nat.le_trans hB1 hgE.size
 have hbT:=(hg'.block T (blk_lt h2.blk) (by simp only [ne_eq,Option.some.injEq];exact ne_typ h2.blk hcN (by decide))).trans h2.blk
 have hK2:w2.heap[K]?=_:=(hgE.block K (blk_lt hK) (by simp)).trans hK
 have hK3:w3.heap[K]?=_:=(hg'.block K (blk_lt hK2) (by simp only [ne_eq,Option.some.injEq];exact ne_typ hK2 hcN (by decide))).trans hK2
 refine ⟨g,cap,_,_,h2.push (L:=ns.length+1) ⟨kd,k,[],0,[],pl⟩ rfl rfl ho hg',?_,(heap_setCell_other _ _ _ _ (ne_typ hK3 hbT (by decide))).trans hK3⟩
 exact ((hf.two (Fr.gb hgE hB1)).two (Fr.row hg' hB2 (own_typ h2.row rfl).1 hcN (Or.inr (Or.inl rfl)))).two (Fr.row (gb_setc w3 T 0 _) (Nat.le_trans hB2 hg'.size) h2.bT hbT (Or.inl rfl))
theorem add_two {w w1 w3:World} {B T:Nat} {ns:List Tn} {x:Tn} {now N c M m p:Nat} {xs ys:List Value} {ks:Nat->Value} {n:Nat} {f:Nat->List UInt8->Option (Nat × Bool)} {k:List UInt8} {pl K g cap m4:Nat} {o4:Option Addr} {hpl:p < (ns++[x]).length}
  (hp:p < ns.length) (h:TrD w1 B T (ns++[x]) now N c M xs ks n f) (hf:Fr B w w1) (hK:w1.heap[K]?=some (.cells #[.string ⟨k.toArray⟩,.int .i64 (pl:Nat)] 133 (0,0))) (hv:ks p=.slice o4 m m4) (hm:((ns++[x])[p]'hpl).ks.length=m) (hys:(((ns++[x])[p]'hpl).ks.map fun q=>Value.int .i64 (q:Nat))=ys)
  (ho:w3.ownsRow B 3 1 (.slice (some ⟨g,0,none⟩) (m+1) cap) (m+1) (ys++[.int .i64 (ns.length:Nat)]))
  (hg:(w1.drew.alloc (.cells #[.int .i64 (ns.length:Nat)] 3)).grownBy w3 (Value.slice o4 m m4).ownBlock) (hat:(Value.slice o4 m m4).ownBlock=some g\/g=(w1.drew.alloc (.cells #[.int .i64 (ns.length:Nat)] 3)).heap.size) :
  ∃(g' cap':Nat) (xs':List Value) (ks':Nat->Value),TrD (w3.setCell ⟨N,p * 6+4,none⟩ (.slice (some ⟨g,0,none⟩) (m+1) cap)) B T (addN ns p x) now g' cap' M xs' ks' n f/\Fr B w (w3.setCell ⟨N,p * 6+4,none⟩ (.slice (some ⟨g,0,none⟩) (m+1) cap))/\(w3.setCell ⟨N,p * 6+4,none⟩ (.slice (some ⟨g,0,none⟩) (m+1) cap)).heap[K]?=some (.cells #[.string ⟨k.toArray⟩,.int .i64 (pl:Nat)] 133 (0,0)):=by
 have hgE:w1.grownBy (w1.drew.alloc (.cells #[.int .i64 (ns.length:Nat)] 3)) none:=by
  have:=World.grownBy_alloc w1.drew (.cells #[.int .i64 (ns.length:Nat)] 3) none
  exact ⟨this.os,this.tape,this.output,this.size,this.block⟩
 obtain ⟨w2,hw2⟩:∃w2,w1.drew.alloc (.cells #[.int .i64 (ns.length:Nat)] 3)=w2:=⟨_,rfl⟩
 rw [hw2] at hg hgE hat
 rw [<-hv] at hg hat
 have h2:=h.keeps (keeps_gb hgE)
 obtain ⟨cN,hcN⟩:=h2.rowT
 have hB1:B<=w1.heap.size:=Nat.le_of_lt (Nat.lt_of_le_of_lt h.bT (blk_lt h.blk))
 have hB2:B<=w2.heap.size:=Nat.le_trans hB1 hgE.size
 have hne:∀(b:Nat) (cs:Array Value) (t:TypeId) (fz:Nat × Nat),w2.heap[b]?=some (.cells cs t fz)->¬ t=3->w3.heap[b]?=w2.heap[b]?:=fun b cs t fz hb ht=>hg.block b (blk_lt hb) (fun e=>by
  obtain ⟨cc,hcc⟩:=h2.kidOwn hpl e.symm
  exact ne_typ hb hcc ht rfl)
 have hK2:w2.heap[K]?=_:=(hgE.block K (blk_lt hK) (by simp)).trans hK
 have hK3:w3.heap[K]?=_:=(hne _ _ _ _ hK2 (by decide)).trans hK2
 have hN3:w3.heap[N]?=_:=(hne _ _ _ _ hcN (by decide)).trans hcN
 have h3:=h2.kidp (L:=m+1) p hpl ns.length (by rw [hm]) (by rw [hys];exact ho) hg (by rcases hat with e | e;exact Or.inl e;exact Or.inr (by omega))
 rw [addN_app ns p x hp hpl] at h3
 refine ⟨_,_,_,_,h3,?_,(heap_setCell_other _ _ _ _ (ne_typ hK3 hN3 (by decide))).trans hK3⟩
 have f2:Fr B w2 w3:=by
  cases hb:(ks p).ownBlock with
  | none=>rw [hb] at hg;exact Fr.gb hg hB2
  | some q =>
   rw [hb] at hg
   obtain ⟨hq,cc,hcc⟩:=own_typ (h2.kid p hpl) hb
   exact Fr.row hg hB2 hq hcc (Or.inr (Or.inr rfl))
 exact ((hf.two (Fr.gb hgE hB1)).two f2).two (Fr.row (gb_setc w3 N _ _) (Nat.le_trans hB2 hg.size) (own_typ h2.row rfl).1 hN3 (Or.inr (Or.inl rfl)))
set_option maxRecDepth 100000 in
set_option maxHeartbeats 3200000 in
theorem tAdd_any (B T:Nat) (ns:List Tn) (own:List Nat) (now p:Nat) (kd:Int) (k:List UInt8) (pl:Nat) (w:World) (h:Tr w B T ns own now) (W:WF ns own) (hp:p < ns.length) (hfree:kdAt ns p=0->kidO ns p k=none) (hsz:ns.length+own.length<=1000000) (hk:k.length<=1048576) :
  Calls Tryz.prog 102 #[.pointer (some ⟨T,0,none⟩),.int .i64 (p:Nat),.int .i64 kd,.agg #[.string ⟨k.toArray⟩,.int .i64 (pl:Nat)]] w (AdPost B T ns own now p ⟨kd,k,[],0,[],pl⟩ w):=by
 obtain ⟨N,c,M,xs,ks,hD⟩:=h
 obtain ⟨i0,hi0,hii⟩:=Option.map_eq_some_iff.1 infoNode
 simp only [Prod.mk.injEq] at hii
 obtain ⟨hz0,hz1,hzb⟩:=hii
 obtain ⟨j0,hj0,hjj⟩:=Option.map_eq_some_iff.1 infoInt
 simp only [Prod.mk.injEq] at hjj
 obtain ⟨hy0,hy1,hyb⟩:=hjj
 have hone:=node_one ⟨kd,k,[],0,[],pl⟩
 simp only [] at hone
 have hone2:=int_one ns.length
 obtain ⟨K,hKe⟩:∃K,w.heap.size=K:=⟨_,rfl⟩
 have hgK:w.grownBy (w.alloc (.cells #[.string ⟨k.toArray⟩,.int .i64 (pl:Nat)] 133)) none:=World.grownBy_alloc w _ none
 have hbK:=heap_alloc_new w (.cells #[.string ⟨k.toArray⟩,.int .i64 (pl:Nat)] 133)
 have hsK:(w.alloc (.cells #[.string ⟨k.toArray⟩,.int .i64 (pl:Nat)] 133)).heap.size=K+1:=by rw [World.size_alloc,hKe]
 rw [hKe] at hbK
 have hD1:=hD.keeps (keeps_gb hgK)
 have hBs:B<=w.heap.size:=Nat.le_of_lt (Nat.lt_of_le_of_lt hD.bT (blk_lt hD.blk))
 have HF1:Hid (Fr B w (w.alloc (.cells #[.string ⟨k.toArray⟩,.int .i64 (pl:Nat)] 133))):=Fr.gb hgK hBs
 obtain ⟨w1,hw1⟩:∃w1,w.alloc (.cells #[.string ⟨k.toArray⟩,.int .i64 (pl:Nat)] 133)=w1:=⟨_,rfl⟩
 rw [hw1] at hbK hsK hD1 HF1
 have hrow:=hD1.row
 obtain ⟨cN,hcN⟩:=hD1.rowT
 have HFAR:Hid (some T ≠ (Value.slice (some ⟨N,0,none⟩) ns.length c).ownBlock):=by
  show some T ≠ some N
  simp only [ne_eq,Option.some.injEq]
  exact ne_typ hD1.blk hcN (by decide)
 have d1:=hD1.cells.1
 have dA:(w1.alloc (.cells #[.int .i64 kd,.string ⟨k.toArray⟩,.string ⟨#[]⟩,.int .i64 0,.slice none 0 0,.int .i64 (pl:Nat)] 33)).cell? ⟨T,0,none⟩=some (.slice (some ⟨N,0,none⟩) ns.length c):=(World.grownBy_alloc w1 _ none).cell d1 (by simp)
 have HBT:Hid (w1.heap[T]?=some (.cells #[.slice (some ⟨N,0,none⟩) ns.length c,.map (some M),.int .i64 (now:Nat)] 64 (0,0))):=hD1.blk
 have HFK:Hid (some K ≠ (Value.slice (some ⟨N,0,none⟩) ns.length c).ownBlock):=by
  show some K ≠ some N
  simp only [ne_eq,Option.some.injEq]
  exact ne_typ hbK hcN (by decide)
 have k1:w1.cell? ⟨K,0,none⟩=some (.string ⟨k.toArray⟩):=by rw [Lib.cell_of_heap hbK];rfl
 have k2:w1.cell? ⟨K,1,none⟩=some (.int .i64 (pl:Nat)):=by rw [Lib.cell_of_heap hbK];rfl
 have HD1:Hid (TrD w1 B T ns now N c M xs ks (ns.length+own.length) (hold ns own)):=hD1
 have HBK:Hid (w1.heap[K]?=some (.cells #[.string ⟨k.toArray⟩,.int .i64 (pl:Nat)] 133 (0,0))):=hbK
 have HW:Hid (WF ns own):=W
 have HBE:Hid ((w1.drew.alloc (.cells #[.int .i64 kd,.string ⟨k.toArray⟩,.string ⟨#[]⟩,.int .i64 0,.slice none 0 0,.int .i64 (pl:Nat)] 33)).heap[K+1]?=some (.cells #[.int .i64 kd,.string ⟨k.toArray⟩,.string ⟨#[]⟩,.int .i64 0,.slice none 0 0,.int .i64 (pl:Nat)] 33 (0,0))):=by
  have:=heap_alloc_new w1.drew (.cells #[.int .i64 kd,.string ⟨k.toArray⟩,.string ⟨#[]⟩,.int .i64 0,.slice none 0 0,.int .i64 (pl:Nat)] 33)
  rw [show w1.drew.heap.size=K+1 from hsK] at this
  exact this
 have HFREE:Hid (kdAt ns p=0->kidO ns p k=none):=hfree
 have HP:Hid (p < ns.length):=hp
 clear hD hgK hbK hD1 hcN W hfree
 go_enter Tryz.func102,Tryz.ntmps102
 go_upto_region 2 with fail
 go_cut [] from 15 (fun wx=>∃(g cap:Nat) (xs':List Value) (ks':Nat->Value),TrD wx B T (ns++[⟨kd,k,[],0,[],pl⟩]) now g cap M xs' ks' (ns.length+own.length) (hold ns own)/\Fr B w wx/\wx.heap[K]?=some (.cells #[.string ⟨k.toArray⟩,.int .i64 (pl:Nat)] 133 (0,0)))
 case first =>
  go_region_law (refine step_append_lies _ (by rfl) _ _ _ (by rfl) B 33 i0 _ 6 80 Tryz.underlying22 hi0 hz0 hz1 hzb (by rfl) (by decide) (.slice (some ⟨N,0,none⟩) ns.length c) ns.length xs (by rfl) (hrow.drew.alloc _) ⟨K+1,0,none⟩ 1 1 [.int .i64 kd,.string ⟨k.toArray⟩,.string ⟨#[]⟩,.int .i64 0,.slice none 0 0,.int .i64 (pl:Nat)] (by rfl) (by rfl) (World.news_of_block HBE.out) hone (by omega) (by unfold maxLen;omega) (by omega) (by simp;omega) _ rfl ?_;intro g cap w3 hown3 hgrow hat hlt3;have hc3:w3.cell? ⟨T,0,none⟩=some (.slice (some ⟨N,0,none⟩) ns.length c):=cel_app d1 hgrow HFAR.out;have hfz3:w3.frozen? ⟨T,0,none⟩=false:=frz_app HBT.out hgrow HFAR.out)
  all_goals (
   go_wp2_with fail
   go_meet
   exact add_one HD1.out HF1.out HBK.out hown3 hgrow)
 case rest =>
  obtain ⟨N1,c1,xs1,ks1,hD2,hF2,hb2⟩:=hcut
  obtain ⟨L,hL⟩:∃L,(ns++[(⟨kd,k,[],0,[],pl⟩:Tn)]).length=L:=⟨_,rfl⟩
  have hpl:p < (ns++[(⟨kd,k,[],0,[],pl⟩:Tn)]).length:=by simp;omega
  have hpL:p < L:=by omega
  have d1':=hD2.cells.1
  have hrowk:=hD2.kid p hpl
  obtain ⟨o4,m4,hv4⟩:=own_slice hrowk
  obtain ⟨-,-,-,-,e4,-,ef⟩:=hD2.node p hpl
  obtain ⟨cN1,hcN1⟩:=hD2.rowT
  rw [hv4] at e4 hrowk
  have hm4:((ns++[(⟨kd,k,[],0,[],pl⟩:Tn)])[p]'hpl).ks.length<=1000000:=by
   have:=HW.out.len p
   unfold ksAt at this
   rw [List.getElem?_eq_getElem HP.out] at this
   simp only [] at this
   rw [List.getElem_append_left HP.out]
   omega
  obtain ⟨m,hm⟩:∃m,((ns++[(⟨kd,k,[],0,[],pl⟩:Tn)])[p]'hpl).ks.length=m:=⟨_,rfl⟩
  rw [hm] at hm4 hv4 e4 hrowk
  rw [hL] at d1'
  obtain ⟨ys,hys⟩:∃ys:List Value,(((ns++[(⟨kd,k,[],0,[],pl⟩:Tn)])[p]'hpl).ks.map fun q=>Value.int .i64 (q:Nat))=ys:=⟨_,rfl⟩
  rw [hys] at hrowk
  have HFA:Hid (some T ≠ (Value.slice o4 m m4).ownBlock):=by
   show _ ≠ _
   intro e
   obtain ⟨cc,hcc⟩:=(own_typ hrowk e.symm).2
   exact ne_typ hD2.blk hcc (by decide) rfl
  have HFN:Hid (some N1 ≠ (Value.slice o4 m m4).ownBlock):=by
   show _ ≠ _
   intro e
   obtain ⟨cc,hcc⟩:=(own_typ hrowk e.symm).2
   exact ne_typ hcN1 hcc (by decide) rfl
  have e4A:(wc.alloc (.cells #[.int .i64 (ns.length:Nat)] 3)).cell? ⟨N1,p * 6+4,none⟩=some (.slice o4 m m4):=(World.grownBy_alloc wc _ none).cell e4 (by simp)
  have d1A:(wc.alloc (.cells #[.int .i64 (ns.length:Nat)] 3)).cell? ⟨T,0,none⟩=some (.slice (some ⟨N1,0,none⟩) L c1):=(World.grownBy_alloc wc _ none).cell d1' (by simp)
  obtain ⟨Z,hZ⟩:∃Z,wc.heap.size=Z:=⟨_,rfl⟩
  have hBZ:B<=wc.heap.size:=Nat.le_of_lt (Nat.lt_of_le_of_lt hD2.bT (blk_lt hD2.blk))
  have HBZ:Hid ((wc.drew.alloc (.cells #[.int .i64 (ns.length:Nat)] 3)).heap[Z]?=some (.cells #[.int .i64 (ns.length:Nat)] 3 (0,0))):=by
   have:=heap_alloc_new wc.drew (.cells #[.int .i64 (ns.length:Nat)] 3)
   rw [show wc.drew.heap.size=Z from hZ] at this
   exact this
  have HN1:Hid (wc.heap[N1]?=some (.cells cN1 33 (0,0))):=hcN1
  have HD2:Hid (TrD wc B T (ns++[⟨kd,k,[],0,[],pl⟩]) now N1 c1 M xs1 ks1 (ns.length+own.length) (hold ns own)):=hD2
  have HF2:Hid (Fr B w wc):=hF2
  have HB2:Hid (wc.heap[K]?=some (.cells #[.string ⟨k.toArray⟩,.int .i64 (pl:Nat)] 133 (0,0))):=hb2
  have HV4:Hid (ks1 p=.slice o4 m m4):=hv4
  have HMM:Hid (((ns++[(⟨kd,k,[],0,[],pl⟩:Tn)])[p]'hpl).ks.length=m):=hm
  have HYS:Hid ((((ns++[(⟨kd,k,[],0,[],pl⟩:Tn)])[p]'hpl).ks.map fun q=>Value.int .i64 (q:Nat))=ys):=hys
  have HPL:Hid (p < (ns++[(⟨kd,k,[],0,[],pl⟩:Tn)]).length):=hpl
  have HLL:Hid ((ns++[(⟨kd,k,[],0,[],pl⟩:Tn)]).length=L):=hL
  clear hD2 hF2 hb2 hcN1 hv4 hm hys hL
  go_upto_region 3 with fail
  go_cut [] from 30 (fun wx=>∃(g cap:Nat) (xs':List Value) (ks':Nat->Value),TrD wx B T (addN ns p ⟨kd,k,[],0,[],pl⟩) now g cap M xs' ks' (ns.length+own.length) (hold ns own)/\Fr B w wx/\wx.heap[K]?=some (.cells #[.string ⟨k.toArray⟩,.int .i64 (pl:Nat)] 133 (0,0)))
  case first =>
   go_region_law (refine step_append_lies _ (by rfl) _ _ _ (by rfl) B 3 j0 _ 1 8 Tryz.underlying31 hj0 hy0 hy1 hyb (by rfl) (by decide) (.slice o4 m m4) m ys (by rfl) (hrowk.drew.alloc _) ⟨Z,0,none⟩ 1 1 [.int .i64 (ns.length:Nat)] (by rfl) (by rfl) (World.news_of_block HBZ.out) hone2 (by omega) (by unfold maxLen;omega) (by omega) (by simp;omega) _ rfl ?_;intro g cap w3 hown3 hgrow hat hlt3;have hc3:w3.cell? ⟨N1,p * 6+4,none⟩=some (.slice o4 m m4):=cel_app e4 hgrow HFN.out;have hfz3:w3.frozen? ⟨N1,p * 6+4,none⟩=false:=frz_app HN1.out hgrow HFN.out;have hcT3:w3.cell? ⟨T,0,none⟩=some (.slice (some ⟨N1,0,none⟩) L c1):=cel_app d1' hgrow HFA.out)
   all_goals (
    go_wp2_with fail
    go_meet
    exact add_two HP.out HD2.out HF2.out HB2.out HV4.out HMM.out HYS.out hown3 hgrow hat)
  case rest =>
   obtain ⟨N2,c2,xs2,ks2,hD3,hF3,hb3⟩:=hcut
   have hp3:p < (addN ns p ⟨kd,k,[],0,[],pl⟩).length:=by rw [addN_len];omega
   obtain ⟨t0,t1,-,-⟩:=hD3.cells
   obtain ⟨n0,-,-,-,-,-,-⟩:=hD3.node p hp3
   have kk:wc.cell? ⟨K,0,none⟩=some (.string ⟨k.toArray⟩):=by rw [Lib.cell_of_heap hb3];rfl
   have hkd:((addN ns p ⟨kd,k,[],0,[],pl⟩)[p]'hp3).kd=kdAt ns p:=by
    have h1:=kdAt_addN ns p ⟨kd,k,[],0,[],pl⟩ HP.out p
    rw [if_neg (by have:=HP.out;omega)] at h1
    rw [<-h1]
    unfold kdAt
    rw [List.getElem?_eq_getElem hp3]
   rw [hkd] at n0
   obtain ⟨z,hz⟩:∃z,kdAt ns p=z:=⟨_,rfl⟩
   obtain ⟨L3,hL3⟩:∃L,(addN ns p ⟨kd,k,[],0,[],pl⟩).length=L:=⟨_,rfl⟩
   have hpL3:p < L3:=by omega
   rw [hL3] at t0
   rw [hz] at n0
   have HF3:Hid (Fr B w wc):=hF3
   have HD3:Hid (TrD wc B T (addN ns p ⟨kd,k,[],0,[],pl⟩) now N2 c2 M xs2 ks2 (ns.length+own.length) (hold ns own)):=hD3
   have hBc:B<=wc.heap.size:=Nat.le_of_lt (Nat.lt_of_le_of_lt hD3.bT (blk_lt hD3.blk))
   obtain ⟨w5,hr5,hm5,hg5⟩:=(hD3.map.block (w':=wc.drew) rfl).put p k (by omega) hk (by omega) ns.length false
   unfold keyV at hr5
   have HM5:Hid (HM w5 M (ns.length+own.length+1) (putF (hold ns own) p k (ns.length,false))):=hm5
   have HG5:Hid (wc.drew.grownBy w5 (some M)):=hg5
   have HZ:Hid (kdAt ns p=z):=hz
   have HL3:Hid ((addN ns p ⟨kd,k,[],0,[],pl⟩).length=ns.length+1):=addN_len _ _ _
   clear hD3 hF3 hb3 hkd hL3 hz hm5 hg5 hp3
   by_cases hz0:z=0
   ·have hb:(z == 0)=true:=by simp [hz0]
    have HZ0:Hid (kdAt ns p=0):=HZ.out.trans hz0
    clear hz0
    go_wp2
    go_region
    all_goals (
     go_wp2
     refine bodyPost_ret (results_tmp (t:=8) rfl _ _ _) rfl ⟨rfl,⟨N2,c2,M,xs2,ks2,?_⟩,?_⟩
     ·rw [hold_add_table ns own p ⟨kd,k,[],0,[],pl⟩ rfl HP.out HW.out HZ0.out (HFREE.out HZ0.out),HL3.out]
      have h1:=(HD3.out.keeps (w':=wc.drew) (keeps_gb ⟨rfl,rfl,rfl,Nat.le_refl _,fun _ _ _=>rfl⟩)).mapd HM5.out HG5.out
      exact ⟨h1.blk,h1.bT,h1.row,h1.cel,h1.kid,h1.apart,h1.map.mono (by omega),h1.bM⟩
     ·obtain ⟨es,cc,hm0⟩:=HD3.out.map.map
      exact (HF3.out.two (Fr.gb (w':=wc.drew) ⟨rfl,rfl,rfl,Nat.le_refl _,fun _ _ _=>rfl⟩ hBc)).two (Fr.mapd HG5.out hBc HD3.out.bM hm0))
   ·have hb:(z == 0)=false:=by simp [hz0]
    have HZ0:Hid (¬ kdAt ns p=0):=by show ¬ _;rw [HZ.out];exact hz0
    clear hz0
    go_wp2
    refine bodyPost_ret (results_tmp (t:=8) rfl _ _ _) rfl ⟨rfl,⟨N2,c2,M,xs2,ks2,?_⟩,HF3.out⟩
    have h1:=HD3.out
    rw [hold_add_other ns own p ⟨kd,k,[],0,[],pl⟩ rfl HP.out HW.out HZ0.out,HL3.out]
    exact ⟨h1.blk,h1.bT,h1.row,h1.cel,h1.kid,h1.apart,h1.map.mono (by omega),h1.bM⟩
end Go.Proofs.YtbgnflcebafjjaaGreatDoor
namespace Go.Proofs.YtbgnflcebafjjaaGreatDoor
open Go.RowKit Go.Maps Go.WideMaps Go.Joins
set_option linter.unusedVariables false
def Pb (w:World) (p:Nat) (NV ad bf pv:Value):Prop:=w.heap[p]?=some (.cells #[NV,ad,bf,pv] 78 (0,0))
section
variable {w w':World} {p:Nat} {NV ad bf pv:Value}
theorem Pb.cells (h:Pb w p NV ad bf pv):w.cell? ⟨p,0,none⟩=some NV/\w.cell? ⟨p,1,none⟩=some ad/\w.cell? ⟨p,2,none⟩=some bf/\w.cell? ⟨p,3,none⟩=some pv/\∀k,w.frozen? ⟨p,k,none⟩=false :=
 ⟨by rw [Lib.cell_of_heap h];rfl,by rw [Lib.cell_of_heap h];rfl,by rw [Lib.cell_of_heap h];rfl,by rw [Lib.cell_of_heap h];rfl,fun k=>Lib.frozen_of_heap h k⟩
theorem Pb.setA (h:Pb w p NV ad bf pv) (v:Value):Pb (w.setCell ⟨p,1,none⟩ v) p NV v bf pv:=block_setCell (i:=1) h _
theorem Pb.setB (h:Pb w p NV ad bf pv) (v:Value):Pb (w.setCell ⟨p,2,none⟩ v) p NV ad v pv:=block_setCell (i:=2) h _
theorem Pb.setP (h:Pb w p NV ad bf pv) (v:Value):Pb (w.setCell ⟨p,3,none⟩ v) p NV ad bf v:=block_setCell (i:=3) h _
theorem Pb.shape (h:Pb w p NV ad bf pv):w.shape? p=some (78,4):=by
 unfold World.shape?
 rw [h]
 rfl
end
theorem bSize:(Tryz.prog.info? 76).map (·.size)=some 2:=by kernel_rfl
theorem bLies:liesAt Tryz.prog Tryz.prog.depth 78 (4 / Tryz.prog.cellsOf 78) 1 76 1=true:=by kernel_rfl
theorem infoU8:(Tryz.prog.info? 5).map (fun i=>(i.zero,i.size,i.bytes))=some (some (.int .u8 0),1,1):=by kernel_rfl
set_option maxRecDepth 100000 in
set_option maxHeartbeats 1600000 in
theorem bCheck_used (p:Nat) (w:World) (h0:w.cell? ⟨p,1,none⟩=some (.pointer (some ⟨p,1,none⟩))) :
  Calls Tryz.prog 90 #[.pointer (some ⟨p,1,none⟩)] w fun e w'=>e=.returned (.tuple #[])/\w'=w:=by
 obtain ⟨j,hj,-⟩:=Option.map_eq_some_iff.1 bSize
 go_enter Tryz.func90,Tryz.ntmps90
 go_wp2
 rw [Lib.run_neq_ptr_same w _ Tryz.underlying73 hj]
 go_wp2
 go_end0
 exact ⟨rfl,rfl⟩
set_option maxRecDepth 100000 in
set_option maxHeartbeats 1600000 in
theorem bCheck_fresh (p:Nat) (NV bf pv:Value) (w:World) (h:Pb w p NV (.pointer none) bf pv) :
  Calls Tryz.prog 90 #[.pointer (some ⟨p,1,none⟩)] w fun e w'=>e=.returned (.tuple #[])/\w'=w.setCell ⟨p,1,none⟩ (.pointer (some ⟨p,1,none⟩)):=by
 obtain ⟨j,hj,hjs⟩:=Option.map_eq_some_iff.1 bSize
 obtain ⟨-,h0,-,-,hf⟩:=h.cells
 have hfz:=hf 1
 have hsh:=h.shape
 clear h hf
 go_enter Tryz.func90,Tryz.ntmps90
 go_wp2
 rw [Lib.run_to_unsafe w ⟨p,1,none⟩ Tryz.underlying73 Tryz.underlying93 hj (by rw [hjs];decide) hsh (by show 1 < 4;decide)]
 simp only [Result.andThen]
 rw [Oper.upon_value]
 go_wp2
 rw [run_callFunc_extern Tryz.func113 (by kernel_rfl) (by kernel_rfl) (by kernel_rfl) (e:=Extern.AbiNoEscape.same) (by kernel_rfl)]
 rw [Lib.run_noEscape]
 simp only [Result.andThen]
 rw [Oper.upon_value]
 go_wp2
 rw [Lib.run_from_unsafe w ⟨p,1,none⟩ Tryz.underlying93 Tryz.underlying73 hj hsh bLies]
 simp only [Result.andThen]
 rw [Oper.upon_value]
 go_wp2
 go_end0
 exact ⟨rfl,rfl⟩
theorem str_at {P:Program} (w:World) (base:Nat) (t u ty e:TypeId) (i:TypeInfo) (ht:P.underlying t=some (.slice e)) (hu:P.underlying u=some .string) (hi:P.info? e=some i) (hz:i.zero=some (.int .u8 0)) (hsize:i.size=1) (hby:i.bytes=1)
  (v:Value) (n:Nat) (xs:List Value) (hown:w.ownsRow base e 1 v n xs) (s:ByteArray) (h63:n+s.size<=140737488355328) (hbase:base<=w.heap.size) :
  ∃v' w',(Builtin.append_ #[t,u] ty #[v,.string s]).run P w=.ok v' w'/\w'.ownsRow base e 1 v' (n+s.size) (xs++Lib.strCells s)/\w.grownBy w' v.ownBlock/\(v'.ownBlock=v.ownBlock\/v'.ownBlock=some w.heap.size):=by
 obtain ⟨v',w',hr,h1,h2,h3⟩:=Lib.run_append_own_string (P:=P) w base t u ty e i ht hu hi hz hsize hby v n xs hown s (by unfold maxLen;omega) h63 hbase
 refine ⟨v',w',hr,h1,h2,?_⟩
 have hxl:xs.length=n:=by simpa using hown.1
 rcases hown.2 with ⟨rfl,rfl⟩ | ⟨g,cap,cur,rfl,hbg,hg,hnc,hcm,hcs,htake⟩
 ·by_cases hm:s.size=0
  ·rw [h3.2 ⟨rfl,hm⟩]
   exact Or.inl rfl
  ·have hq:=run_append_nil_string (P:=P) w t u ty e i (.int .u8 0) ht hu hi hz s (by omega) (by omega) (by rw [hby];omega)
   rw [hr] at hq
   injection hq with hq _
   rw [hq]
   exact Or.inr rfl
 ·by_cases hroom:n+s.size<=cap
  ·have hq:=Lib.run_append_room_string (P:=P) w t u ty e i ht hu hi hsize g n cap cur hg s hroom (by simp only [Nat.mul_one] at hcs;omega)
   rw [hr] at hq
   injection hq with hq _
   rw [hq]
   exact Or.inl rfl
  ·have hq:=Lib.run_append_grow_string (P:=P) w t u ty e i (.int .u8 0) ht hu hi hz ⟨g,0,none⟩ n cap xs (by rw [hsize,Nat.mul_one];exact hxl) (hown.cells (g:=g) rfl) s (by omega) (by omega) (by rw [hby];exact growslice_fits (by omega) (by omega))
   rw [hr] at hq
   injection hq with hq _
   rw [hq]
   exact Or.inr rfl
theorem wpList_str_at {P:Program} {w:World} {ops:Array Oper} {rest:List Oper} {o:Oper} {a:Act} {Q:Exit->Act->World->Prop} (hgd:o.guard=none) (sl y:Operand) (t u:TypeId)
  (ho:o.op=.call { callee:=.builtin .append,args:=#[sl,y],argTypes:=#[t,u] })
  (base:Nat) (e:TypeId) (i:TypeInfo) (ht:P.underlying t=some (.slice e)) (hu:P.underlying u=some .string) (hi:P.info? e=some i) (hz:i.zero=some (.int .u8 0)) (hsize:i.size=1) (hby:i.bytes=1)
  (v:Value) (n:Nat) (xs:List Value) (hs:a.eval sl=v) (hown:w.ownsRow base e 1 v n xs) (s:ByteArray) (hy:a.eval y=.string s) (h63:n+s.size<=140737488355328) (hbase:base<=w.heap.size)
  (h:∀v' w',w'.ownsRow base e 1 v' (n+s.size) (xs++Lib.strCells s)->w.grownBy w' v.ownBlock->(v'.ownBlock=v.ownBlock\/v'.ownBlock=some w.heap.size)->wpList P ops Q rest (a.put o.dst v') w'):wpList P ops Q (o :: rest) a w:=by
 refine wpList_plain hgd fun K hK=>?_
 obtain ⟨v',w',hr,h2,h3,h4⟩:=str_at (P:=P) w base t u o.type e i ht hu hi hz hsize hby v n xs hown s h63 hbase
 unfold Oper.wp execOp
 simp only [ho,resolve,invoke,builtin,Sem.run_bind,Sem.run_pure,Result.andThen_ok,List.map_toArray,List.map_cons,List.map_nil,hs,hy,hr]
 exact hK _ _ (h v' w' h2 h3 h4)
theorem str_cells (s:ByteArray):Lib.strCells s=Lib.byteCells s.data.toList:=by
 unfold Lib.strCells Lib.byteCells
 simp
structure PF (B:Nat) (w w':World):Prop where
 bel:Below B w w'
 oth:∀(b:Nat) (cs:Array Value) (t:TypeId) (fz:Nat × Nat),w.heap[b]?=some (.cells cs t fz)->¬ t=78->¬ t=5->w'.heap[b]?=w.heap[b]?
theorem PF.two {B:Nat} {w w1 w2:World} (h:PF B w w1) (h':PF B w1 w2):PF B w w2 :=
 ⟨h.bel.trans h'.bel,fun b cs t fz hb h1 h2=>by
  have e1:=h.oth b cs t fz hb h1 h2
  exact (h'.oth b cs t fz (e1.trans hb) h1 h2).trans e1⟩
theorem PF.refl (B:Nat) (w:World):PF B w w:=⟨Below.refl B w,fun _ _ _ _ _ _ _=>rfl⟩
theorem PF.gb {B:Nat} {w w':World} (hg:w.grownBy w' none) (hB:B<=w.heap.size):PF B w w' :=
 ⟨⟨hg.os,hg.tape,hg.output,hg.size,fun k hk=>hg.block k (by omega) (by simp)⟩,fun b cs t fz hb _ _=>hg.block b (blk_lt hb) (by simp)⟩
theorem PF.row {B:Nat} {w w':World} {t:TypeId} {g:Nat} {cur:Array Value} {fz:Nat × Nat} (hg:w.grownBy w' (some g)) (hB:B<=w.heap.size) (hgB:B<=g) (hb:w.heap[g]?=some (.cells cur t fz)) (ht:t=78\/t=5):PF B w w' :=
 ⟨⟨hg.os,hg.tape,hg.output,hg.size,fun k hk=>hg.block k (by omega) (by simp;omega)⟩,fun b cs t' fz' hb' h1 h2=>hg.block b (blk_lt hb') (by
  simp only [ne_eq,Option.some.injEq]
  refine ne_typ hb' hb ?_
  rcases ht with rfl | rfl
  ·exact h1
  ·exact h2)⟩
theorem PF.app {B:Nat} {w w':World} {sz n:Nat} {V:Value} {ys:List Value} (ho:w.ownsRow B 5 sz V n ys) (hg:w.grownBy w' V.ownBlock) (hB:B<=w.heap.size):PF B w w':=by
 cases hb:V.ownBlock with
 | none=>rw [hb] at hg;exact PF.gb hg hB
 | some q =>
  rw [hb] at hg
  obtain ⟨hq,cc,hcc⟩:=own_typ ho hb
  exact PF.row hg hB hq hcc (Or.inr rfl)
def Pn (w:World) (B p:Nat) (NV:Value) (out path:List UInt8):Prop:=B<=p/\∃ad bf pv,Pb w p NV ad bf pv/\(ad=.pointer none\/ad=.pointer (some ⟨p,1,none⟩))/\w.ownsRow B 5 1 bf out.length (Lib.byteCells out)/\w.ownsRow B 5 1 pv path.length (Lib.byteCells path)/\(∀g,bf.ownBlock=some g->pv.ownBlock ≠ some g)/\(out=[]->bf=.slice none 0 0)
theorem Pn.gb {w w':World} {B p:Nat} {NV:Value} {out path:List UInt8} (h:Pn w B p NV out path) (hg:w.grownBy w' none):Pn w' B p NV out path:=by
 obtain ⟨h1,ad,bf,pv,h2,h3,h4,h5,h6⟩:=h
 exact ⟨h1,ad,bf,pv,(hg.block p (blk_lt h2) (by simp)).trans h2,h3,own_block h4 fun g cur _ hc=>hg.block g (blk_lt hc) (by simp),own_block h5 fun g cur _ hc=>hg.block g (blk_lt hc) (by simp),h6⟩
theorem Pn.base {w:World} {B p:Nat} {NV:Value} {out path:List UInt8} (h:Pn w B p NV out path):B<=p/\p < w.heap.size/\w.cell? ⟨p,0,none⟩=some NV:=by
 obtain ⟨h1,ad,bf,pv,h2,-⟩:=h
 exact ⟨h1,blk_lt h2,h2.cells.1⟩
theorem Pn.keep {w w':World} {B p:Nat} {NV:Value} {out path:List UInt8} (h:Pn w B p NV out path) (hk:∀(b:Nat) (cs:Array Value) (t:TypeId) (fz:Nat × Nat),w.heap[b]?=some (.cells cs t fz)->(t=78\/t=5)->w'.heap[b]?=w.heap[b]?):Pn w' B p NV out path:=by
 obtain ⟨h1,ad,bf,pv,h2,h3,h4,h5,h6⟩:=h
 exact ⟨h1,ad,bf,pv,(hk _ _ _ _ h2 (Or.inl rfl)).trans h2,h3,own_block h4 fun g cur _ hc=>hk _ _ _ _ hc (Or.inr rfl),own_block h5 fun g cur _ hc=>hk _ _ _ _ hc (Or.inr rfl),h6⟩
theorem bCheck_any (B p:Nat) (NV ad bf pv:Value) (w:World) (h:Pb w p NV ad bf pv) (hB:B<=p) (had:ad=.pointer none\/ad=.pointer (some ⟨p,1,none⟩)) :
  Calls Tryz.prog 90 #[.pointer (some ⟨p,1,none⟩)] w fun e w'=>e=.returned (.tuple #[])/\Pb w' p NV (.pointer (some ⟨p,1,none⟩)) bf pv/\w.grownBy w' (some p):=by
 rcases had with rfl | rfl
 ·refine (bCheck_fresh p NV bf pv w h).mono ?_
  rintro e w' ⟨rfl,rfl⟩
  exact ⟨rfl,h.setA _,gb_setc w p 1 _⟩
 ·refine (bCheck_used p w h.cells.2.1).mono ?_
  rintro e w' ⟨rfl,rfl⟩
  exact ⟨rfl,h,gb_refl _ _⟩
theorem Pn.wrote {w w1 w2:World} {B p n:Nat} {NV ad bf pv v':Value} {out path x:List UInt8} (hB:B<=p) (h1:Pb w1 p NV (.pointer (some ⟨p,1,none⟩)) bf pv) (hbf:w1.ownsRow B 5 1 bf out.length (Lib.byteCells out)) (hpv:w1.ownsRow B 5 1 pv path.length (Lib.byteCells path)) (hap:∀g,bf.ownBlock=some g->pv.ownBlock ≠ some g)
  (hv:w2.ownsRow B 5 1 v' (out.length+x.length) (Lib.byteCells out++Lib.byteCells x)) (hg:w1.grownBy w2 bf.ownBlock) (hat:v'.ownBlock=bf.ownBlock\/∃g,v'.ownBlock=some g/\w1.heap.size<=g) (hBw:B<=w1.heap.size) (hx0:x ≠ []) :
  w2.cell? ⟨p,2,none⟩=some bf/\w2.frozen? ⟨p,2,none⟩=false/\Pn (w2.setCell ⟨p,2,none⟩ v') B p NV (out++x) path/\PF B w1 (w2.setCell ⟨p,2,none⟩ v'):=by
 have hp2:Pb w2 p NV (.pointer (some ⟨p,1,none⟩)) bf pv:=(hg.block p (blk_lt h1) (fun e=>by
  obtain ⟨-,cc,hcc⟩:=own_typ hbf e.symm
  exact ne_typ h1 hcc (by decide) rfl)).trans h1
 obtain ⟨-,-,c2,-,cf⟩:=hp2.cells
 have hpv2:w2.ownsRow B 5 1 pv path.length (Lib.byteCells path):=own_block hpv fun g cur hh hc=>hg.block g (blk_lt hc) (fun e=>hap g e.symm hh)
 have hset:∀(b:Nat) (cs:Array Value) (t:TypeId) (fz:Nat × Nat),w2.heap[b]?=some (.cells cs t fz)->¬ t=78->(w2.setCell ⟨p,2,none⟩ v').heap[b]?=w2.heap[b]?:=fun b cs t fz hb ht=>heap_setCell_other _ _ _ _ (ne_typ hb hp2 ht)
 refine ⟨c2,cf 2,⟨hB,_,v',pv,hp2.setB v',Or.inr rfl,?_,own_block hpv2 fun g cur _ hc=>hset _ _ _ _ hc (by decide),?_,fun e=>absurd (List.append_eq_nil_iff.1 e).2 hx0⟩,?_⟩
 ·rw [List.length_append,cells_app]
  exact own_block hv fun g cur _ hc=>hset _ _ _ _ hc (by decide)
 ·intro g hgv hgp
  rcases hat with e | ⟨g',e,hle⟩
  ·exact hap g (e ▸ hgv) hgp
  ·rw [e] at hgv
   cases hgv
   obtain ⟨-,cc,hcc⟩:=own_typ hpv hgp
   have:=blk_lt hcc
   omega
 ·exact (PF.app hbf hg hBw).two (PF.row (gb_setc w2 p 2 v') (Nat.le_trans hBw hg.size) hB hp2 (Or.inl rfl))
set_option maxRecDepth 100000 in
set_option maxHeartbeats 1600000 in
theorem bWriteS (B p:Nat) (NV:Value) (out path x:List UInt8) (w:World) (h:Pn w B p NV out path) (hx0:x ≠ []) (hl:out.length+x.length<=70368744177664) :
  Calls Tryz.prog 60 #[.pointer (some ⟨p,1,none⟩),.string ⟨x.toArray⟩] w fun e w'=>(∃k:Int,e=.returned (.tuple #[.int .i64 k,.nilIface]))/\Pn w' B p NV (out++x) path/\PF B w w':=by
 obtain ⟨hB,ad,bf,pv,hp,had,hbf,hpv,hap,-⟩:=h
 have hxs:(⟨x.toArray⟩:ByteArray).size=x.length:=by show x.toArray.size=_;simp
 have hxd:(⟨x.toArray⟩:ByteArray).data.toList=x:=by simp
 have hBw:B<=w.heap.size:=Nat.le_of_lt (Nat.lt_of_le_of_lt hB (blk_lt hp))
 have CC:Hid (Calls Tryz.prog 90 #[.pointer (some ⟨p,1,none⟩)] w fun e w'=>e=.returned (.tuple #[])/\Pb w' p NV (.pointer (some ⟨p,1,none⟩)) bf pv/\w.grownBy w' (some p)):=bCheck_any B p NV ad bf pv w hp hB had
 obtain ⟨i0,hi0,hii⟩:=Option.map_eq_some_iff.1 infoU8
 simp only [Prod.mk.injEq] at hii
 obtain ⟨hz0,hz1,hzb⟩:=hii
 have HP:Hid (Pb w p NV ad bf pv):=hp
 have HB:Hid (w.ownsRow B 5 1 bf out.length (Lib.byteCells out)):=hbf
 have HV:Hid (w.ownsRow B 5 1 pv path.length (Lib.byteCells path)):=hpv
 have HA:Hid (∀g,bf.ownBlock=some g->pv.ownBlock ≠ some g):=hap
 have HX0:Hid (x ≠ []):=hx0
 have HXS:Hid ((⟨x.toArray⟩:ByteArray).size=x.length/\Lib.strCells ⟨x.toArray⟩=Lib.byteCells x):=⟨hxs,by rw [str_cells,hxd]⟩
 obtain ⟨X,hX⟩:∃X:ByteArray,⟨x.toArray⟩=X:=⟨_,rfl⟩
 rw [hX] at HXS ⊢
 have hXs:out.length+X.size<=70368744177664:=by rw [HXS.out.1];exact hl
 clear hp hbf hpv hap had hxs hxd hX hl hx0
 go_enter Tryz.func60,Tryz.ntmps60
 go_wp2_with (first | (go_at_call 90;refine CC.out.mono ?_))
 rintro e w1 ⟨rfl,hp1,hg1⟩
 have hbf1:w1.ownsRow B 5 1 bf out.length (Lib.byteCells out):=own_block HB.out fun g cur _ hc=>hg1.block g (blk_lt hc) (by simp only [ne_eq,Option.some.injEq];exact ne_typ hc HP.out (by decide))
 have HV1:Hid (w1.ownsRow B 5 1 pv path.length (Lib.byteCells path)):=own_block HV.out fun g cur _ hc=>hg1.block g (blk_lt hc) (by simp only [ne_eq,Option.some.injEq];exact ne_typ hc HP.out (by decide))
 have HP1:Hid (Pb w1 p NV (.pointer (some ⟨p,1,none⟩)) bf pv):=hp1
 have HF1:Hid (PF B w w1):=PF.row hg1 hBw hB HP.out (Or.inl rfl)
 have HB1:Hid (w1.ownsRow B 5 1 bf out.length (Lib.byteCells out)):=hbf1
 have hBw1:B<=w1.heap.size:=Nat.le_trans hBw hg1.size
 obtain ⟨-,c1,c2,-,-⟩:=hp1.cells
 clear hp1 hg1
 go_wp2_with (first | (at_builtin;refine wpList_str_at rfl _ _ 74 9 rfl B 5 i0 Tryz.underlying74 Tryz.underlying9 hi0 hz0 hz1 hzb bf out.length (Lib.byteCells out) rfl hbf1 X rfl (by omega) hBw1 ?_))
 intro v' w2 hv2 hg2 hat
 rw [HXS.out.1,HXS.out.2] at hv2
 obtain ⟨d2,df,hn,hf⟩:=Pn.wrote (w:=w) (n:=0) (ad:=ad) hB HP1.out HB1.out HV1.out HA.out hv2 hg2 (hat.imp id fun e=>⟨_,e,Nat.le_refl _⟩) hBw1 HX0.out
 have HN:Hid (Pn (w2.setCell ⟨p,2,none⟩ v') B p NV (out++x) path):=hn
 have HF2:Hid (PF B w (w2.setCell ⟨p,2,none⟩ v')):=HF1.out.two hf
 obtain ⟨o5,n5,rfl⟩:=own_slice hv2
 clear hv2 hg2 hat hn hf hbf1 c1 c2
 go_wp2
 refine bodyPost_ret (results_tmp2 (t:=4) (u:=5) rfl _ _ _) rfl ?_
 exact ⟨⟨_,rfl⟩,HN.out,HF2.out⟩
end Go.Proofs.YtbgnflcebafjjaaGreatDoor
