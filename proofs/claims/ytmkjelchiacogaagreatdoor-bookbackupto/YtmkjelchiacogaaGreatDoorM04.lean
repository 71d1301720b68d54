import Derived.Test.YtmkjelchiacogaaGreatDoorM03
import Derived.Deep.RegionHeld3
import Derived.Deep.RegionLaw
import Derived.Deep.Cut
import Derived.Lib.AppendStr
import Derived.Deep.AppendLies
set_option linter.unusedVariables false
set_option linter.unusedSimpArgs false
set_option maxRecDepth 100000
set_option maxHeartbeats 6400000
open Go.Proofs.Tryz
namespace Go.Proofs.YtmkjelchiacogaaGreatDoor
open Go.RowKit Go.Maps Go.WideMaps Go.Joins
theorem Qu:(prog.info? 90).map (fun i=>(i.zero,i.size,i.bytes))=some (some (.agg #[.int .i64 0,.string ⟨#[]⟩,.string ⟨#[]⟩,.int .i64 0,.slice none 0 0,.int .i64 0]),6,80):=by kernel_rfl
theorem Qv:(prog.info? 3).map (fun i=>(i.zero,i.size,i.bytes))=some (some (.int .i64 0),1,8):=by kernel_rfl
def qI(B T:Nat)(ns:List Tn)(own:List Nat)(now p:Nat)(x:Tn)(w:World)(e:Ending)(w':World):Prop:=e=.returned (.int .i64 (ns.length:Nat))/\Tr w' B T (addN ns p x) own now/\Fr B w w'
theorem xN{w w3:World}{o:Obj}{r:Option Nat}{T i:Nat}{cs:Array Value}{t:TypeId}(d:w.heap[T]?=some (.cells cs t (0,0)))(hg:(w.drew.alloc o).grownBy w3 r)(hne:some T≠r):w3.frozen? ⟨T,i,none⟩=false:=by
 have e0:(w.drew.alloc o).heap[T]?=some (.cells cs t (0,0)):=((World.grownBy_alloc w.drew o none).block T (aA (w:=w.drew) d) (by simp)).trans d;exact Lib.frozen_of_heap ((hg.block T (aA e0) hne).trans e0) i
theorem sF{w w3:World}{o:Obj}{r:Option Nat}{T i:Nat}{v:Value}(d:w.cell? ⟨T,i,none⟩=some v)(hg:(w.drew.alloc o).grownBy w3 r)(hne:some T≠r):w3.cell? ⟨T,i,none⟩=some v:=hg.cell ((World.grownBy_alloc w.drew o none).cell d (by simp)) hne
theorem ZW(x:Tn):∀u∈([.int .i64 x.kd,.string ⟨x.ky.toArray⟩,.string ⟨x.tx.toArray⟩,.int .i64 x.nu,.slice none 0 0,.int .i64 (x.pl:Nat)]:List Value),u.oneCell'=true:=by
 intro u hu;simp only[List.mem_cons,List.not_mem_nil,or_false]at hu
 rcases hu with rfl|rfl|rfl|rfl|rfl|rfl<;>rfl
theorem ZX(q:Nat):∀u∈([.int .i64 (q:Nat)]:List Value),u.oneCell'=true:=by
 intro u hu;simp only[List.mem_cons,List.not_mem_nil,or_false]at hu
 rcases hu with rfl;rfl
theorem ku{w:World}{B:Nat}{e:TypeId}{s:Nat}{v:Value}{n:Nat}{xs:List Value}(h:w.ownsRow B e s v n xs):∃o c,v=.slice o n c:=by
 rcases h.2 with⟨h1,h2⟩|⟨g,cap,cur,h1,_⟩
 ·exact⟨none,0,by rw[h1,h2]⟩
 ·exact⟨_,_,h1⟩
theorem ZY(ns:List Tn)(p:Nat)(x:Tn)(hp:p<ns.length)(hp':p<(ns++[x]).length):(ns++[x]).set p { (ns++[x])[p] with ks:=(ns++[x])[p].ks++[ns.length] }=addN ns p x:=by
 unfold addN;rw[List.getElem?_eq_getElem hp];simp only[List.getElem_append_left hp];rw[List.set_append_left _ _ hp]
theorem ZZ{w w1 w3:World}{B T:Nat}{ns:List Tn}{now N c M:Nat}{xs:List Value}{ks:Nat->Value}{n:Nat}{f:Nat->List UInt8->Option (Nat × Bool)}{kd:Int}{k:List UInt8}{pl K g cap:Nat}
  (h:TrD w1 B T ns now N c M xs ks n f) (hf:Fr B w w1) (hK:w1.heap[K]?=some (.cells #[.string ⟨k.toArray⟩,.int .i64 (pl:Nat)] 196 (0,0)))
  (ho:w3.ownsRow B 90 6 (.slice (some ⟨g,0,none⟩) (ns.length+1) cap) (ns.length+1) (xs++[.int .i64 kd,.string ⟨k.toArray⟩,.string ⟨#[]⟩,.int .i64 0,.slice none 0 0,.int .i64 (pl:Nat)]))
  (hg:(w1.drew.alloc (.cells #[.int .i64 kd,.string ⟨k.toArray⟩,.string ⟨#[]⟩,.int .i64 0,.slice none 0 0,.int .i64 (pl:Nat)] 90)).grownBy w3 (Value.slice (some ⟨N,0,none⟩) ns.length c).ownBlock) :
  ∃(g' cap':Nat) (xs':List Value) (ks':Nat->Value),TrD (w3.setCell ⟨T,0,none⟩ (.slice (some ⟨g,0,none⟩) (ns.length+1) cap)) B T (ns++[⟨kd,k,[],0,[],pl⟩]) now g' cap' M xs' ks' n f/\Fr B w (w3.setCell ⟨T,0,none⟩ (.slice (some ⟨g,0,none⟩) (ns.length+1) cap))/\(w3.setCell ⟨T,0,none⟩ (.slice (some ⟨g,0,none⟩) (ns.length+1) cap)).heap[K]?=some (.cells #[.string ⟨k.toArray⟩,.int .i64 (pl:Nat)] 196 (0,0)):=by
 have hgE:w1.grownBy (w1.drew.alloc (.cells #[.int .i64 kd,.string ⟨k.toArray⟩,.string ⟨#[]⟩,.int .i64 0,.slice none 0 0,.int .i64 (pl:Nat)] 90)) none:=by
  have:=World.grownBy_alloc w1.drew (.cells #[.int .i64 kd,.string ⟨k.toArray⟩,.string ⟨#[]⟩,.int .i64 0,.slice none 0 0,.int .i64 (pl:Nat)] 90) none;exact⟨this.os,this.tape,this.output,this.size,this.block⟩
 obtain⟨w2,hw2⟩:=zN (w1.drew.alloc (.cells #[.int .i64 kd,.string ⟨k.toArray⟩,.string ⟨#[]⟩,.int .i64 0,.slice none 0 0,.int .i64 (pl:Nat)] 90));rw[hw2]at hg hgE;have hg':w2.grownBy w3 (some N):=hg;have h2:=h.keeps (mG hgE);obtain⟨cN,sG⟩:=h2.rowT;have hB1:B<=w1.heap.size:=Nat.le_of_lt (Nat.lt_of_le_of_lt h.bT (aA h.blk));have hB2:B<=w2.heap.size:=Nat.le_trans hB1 hgE.size;have Qw:=(hg'.block T (aA h2.blk) (by simp only[ne_eq,Option.some.injEq];exact aY h2.blk sG (by decide))).trans h2.blk;have hK2:w2.heap[K]?=_:=(hgE.block K (aA hK) (by simp)).trans hK;have hK3:w3.heap[K]?=_:=(hg'.block K (aA hK2) (by simp only[ne_eq,Option.some.injEq];exact aY hK2 sG (by decide))).trans hK2;refine⟨g,cap,_,_,h2.push (L:=ns.length+1) ⟨kd,k,[],0,[],pl⟩ rfl rfl ho hg',?_,(heap_setCell_other _ _ _ _ (aY hK3 Qw (by decide))).trans hK3⟩;exact((hf.two (Fr.gb hgE hB1)).two (Fr.row hg' hB2 (dV h2.row rfl).1 sG (Or.inr (Or.inl rfl)))).two (Fr.row (jL w3 T 0 _) (Nat.le_trans hB2 hg'.size) h2.bT Qw (Or.inl rfl))
theorem Z4{w w1 w3:World}{B T:Nat}{ns:List Tn}{x:Tn}{now N c M m p:Nat}{xs ys:List Value}{ks:Nat->Value}{n:Nat}{f:Nat->List UInt8->Option (Nat × Bool)}{k:List UInt8}{pl K g cap m4:Nat}{o4:Option Addr}{hpl:p<(ns++[x]).length}
  (hp:p<ns.length) (h:TrD w1 B T (ns++[x]) now N c M xs ks n f) (hf:Fr B w w1) (hK:w1.heap[K]?=some (.cells #[.string ⟨k.toArray⟩,.int .i64 (pl:Nat)] 196 (0,0))) (hv:ks p=.slice o4 m m4) (hm:((ns++[x])[p]'hpl).ks.length=m) (hys:(((ns++[x])[p]'hpl).ks.map fun q=>Value.int .i64 (q:Nat))=ys)
  (ho:w3.ownsRow B 3 1 (.slice (some ⟨g,0,none⟩) (m+1) cap) (m+1) (ys++[.int .i64 (ns.length:Nat)]))
  (hg:(w1.drew.alloc (.cells #[.int .i64 (ns.length:Nat)] 3)).grownBy w3 (Value.slice o4 m m4).ownBlock) (hat:(Value.slice o4 m m4).ownBlock=some g\/g=(w1.drew.alloc (.cells #[.int .i64 (ns.length:Nat)] 3)).heap.size) :
  ∃(g' cap':Nat) (xs':List Value) (ks':Nat->Value),TrD (w3.setCell ⟨N,p*6+4,none⟩ (.slice (some ⟨g,0,none⟩) (m+1) cap)) B T (addN ns p x) now g' cap' M xs' ks' n f/\Fr B w (w3.setCell ⟨N,p*6+4,none⟩ (.slice (some ⟨g,0,none⟩) (m+1) cap))/\(w3.setCell ⟨N,p*6+4,none⟩ (.slice (some ⟨g,0,none⟩) (m+1) cap)).heap[K]?=some (.cells #[.string ⟨k.toArray⟩,.int .i64 (pl:Nat)] 196 (0,0)):=by
 have hgE:w1.grownBy (w1.drew.alloc (.cells #[.int .i64 (ns.length:Nat)] 3)) none:=by
  have:=World.grownBy_alloc w1.drew (.cells #[.int .i64 (ns.length:Nat)] 3) none;exact⟨this.os,this.tape,this.output,this.size,this.block⟩
 obtain⟨w2,hw2⟩:=zN (w1.drew.alloc (.cells #[.int .i64 (ns.length:Nat)] 3));rw[hw2]at hg hgE hat;rw[<-hv]at hg hat;have h2:=h.keeps (mG hgE);obtain⟨cN,sG⟩:=h2.rowT;have hB1:B<=w1.heap.size:=Nat.le_of_lt (Nat.lt_of_le_of_lt h.bT (aA h.blk));have hB2:B<=w2.heap.size:=Nat.le_trans hB1 hgE.size;have hne:∀(b:Nat) (cs:Array Value) (t:TypeId) (fz:Nat × Nat),w2.heap[b]?=some (.cells cs t fz)->¬t=3->w3.heap[b]?=w2.heap[b]?:=fun b cs t fz hb ht=>hg.block b (aA hb) (fun e=>by
  obtain⟨cc,hcc⟩:=h2.kidOwn hpl e.symm;exact aY hb hcc ht rfl)
 have hK2:w2.heap[K]?=_:=(hgE.block K (aA hK) (by simp)).trans hK;have hK3:w3.heap[K]?=_:=(hne _ _ _ _ hK2 (by decide)).trans hK2;have hN3:w3.heap[N]?=_:=(hne _ _ _ _ sG (by decide)).trans sG;have h3:=h2.kidp (L:=m+1) p hpl ns.length (by rw[hm]) (by rw[hys];exact ho) hg (by rcases hat with e|e;exact Or.inl e;exact Or.inr (by omega));rw[ZY ns p x hp hpl]at h3;refine⟨_,_,_,_,h3,?_,(heap_setCell_other _ _ _ _ (aY hK3 hN3 (by decide))).trans hK3⟩;have f2:Fr B w2 w3:=by
  cases hb:(ks p).ownBlock with
  | none=>rw[hb]at hg;exact Fr.gb hg hB2
  | some q =>
   rw[hb]at hg;obtain⟨hq,cc,hcc⟩:=dV (h2.kid p hpl) hb;exact Fr.row hg hB2 hq hcc (Or.inr (Or.inr rfl))
 exact((hf.two (Fr.gb hgE hB1)).two f2).two (Fr.row (jL w3 N _ _) (Nat.le_trans hB2 hg.size) (dV h2.row rfl).1 hN3 (Or.inr (Or.inl rfl)))
theorem zg(B T:Nat)(ns:List Tn)(own:List Nat)(now p:Nat)(kd:Int)(k:List UInt8)(pl:Nat)(w:World)(h:Tr w B T ns own now)(W:WF ns own)(hp:p<ns.length)(hfree:ag ns p=0->aG ns p k=none)(hsz:ns.length+own.length<=1000000)(hk:k.length<=1048576) :
  Calls prog 166 #[.pointer (some ⟨T,0,none⟩),.int .i64 (p:Nat),.int .i64 kd,.agg #[.string ⟨k.toArray⟩,.int .i64 (pl:Nat)]] w (qI B T ns own now p ⟨kd,k,[],0,[],pl⟩ w):=by
 obtain⟨N,c,M,xs,ks,hD⟩:=h;obtain⟨i0,hi0,hii⟩:=Option.map_eq_some_iff.1 Qu;simp only[Prod.mk.injEq]at hii;obtain⟨hz0,hz1,hzb⟩:=hii;obtain⟨j0,hj0,hjj⟩:=Option.map_eq_some_iff.1 Qv;simp only[Prod.mk.injEq]at hjj;obtain⟨hy0,hy1,hyb⟩:=hjj;have hone:=ZW ⟨kd,k,[],0,[],pl⟩;simp only[]at hone;have xO:=ZX ns.length;obtain⟨K,oI⟩:=zN (w.heap.size);have gy:w.grownBy (w.alloc (.cells #[.string ⟨k.toArray⟩,.int .i64 (pl:Nat)] 196)) none:=World.grownBy_alloc w _ none;have dZ:=heap_alloc_new w (.cells #[.string ⟨k.toArray⟩,.int .i64 (pl:Nat)] 196);have zh:(w.alloc (.cells #[.string ⟨k.toArray⟩,.int .i64 (pl:Nat)] 196)).heap.size=K+1:=by rw[World.size_alloc,oI]
 rw[oI]at dZ;have hD1:=hD.keeps (mG gy);have hBs:B<=w.heap.size:=Nat.le_of_lt (Nat.lt_of_le_of_lt hD.bT (aA hD.blk));have iM:Hd (Fr B w (w.alloc (.cells #[.string ⟨k.toArray⟩,.int .i64 (pl:Nat)] 196))):=Fr.gb gy hBs;obtain⟨w1,hw1⟩:=zN (w.alloc (.cells #[.string ⟨k.toArray⟩,.int .i64 (pl:Nat)] 196));rw[hw1]at dZ zh hD1 iM;have hrow:=hD1.row;obtain⟨cN,sG⟩:=hD1.rowT;have Bc:Hd (some T≠(Value.slice (some ⟨N,0,none⟩) ns.length c).ownBlock):=by
  show some T≠some N;simp only[ne_eq,Option.some.injEq];exact aY hD1.blk sG (by decide)
 have d1:=hD1.cells.1;have dA:(w1.alloc (.cells #[.int .i64 kd,.string ⟨k.toArray⟩,.string ⟨#[]⟩,.int .i64 0,.slice none 0 0,.int .i64 (pl:Nat)] 90)).cell? ⟨T,0,none⟩=some (.slice (some ⟨N,0,none⟩) ns.length c):=(World.grownBy_alloc w1 _ none).cell d1 (by simp);have um:Hd (w1.heap[T]?=some (.cells #[.slice (some ⟨N,0,none⟩) ns.length c,.map (some M),.int .i64 (now:Nat)] 103 (0,0))):=hD1.blk;have HFK:Hd (some K≠(Value.slice (some ⟨N,0,none⟩) ns.length c).ownBlock):=by
  show some K≠some N;simp only[ne_eq,Option.some.injEq];exact aY dZ sG (by decide)
 have k1:w1.cell? ⟨K,0,none⟩=some (.string ⟨k.toArray⟩):=by rw[ae dZ];rfl
 have k2:w1.cell? ⟨K,1,none⟩=some (.int .i64 (pl:Nat)):=by rw[ae dZ];rfl
 have HD1:Hd (TrD w1 B T ns now N c M xs ks (ns.length+own.length) (hold ns own)):=hD1;have jC:Hd (w1.heap[K]?=some (.cells #[.string ⟨k.toArray⟩,.int .i64 (pl:Nat)] 196 (0,0))):=dZ;have HW:Hd (WF ns own):=W;have dN:Hd ((w1.drew.alloc (.cells #[.int .i64 kd,.string ⟨k.toArray⟩,.string ⟨#[]⟩,.int .i64 0,.slice none 0 0,.int .i64 (pl:Nat)] 90)).heap[K+1]?=some (.cells #[.int .i64 kd,.string ⟨k.toArray⟩,.string ⟨#[]⟩,.int .i64 0,.slice none 0 0,.int .i64 (pl:Nat)] 90 (0,0))):=by
  have:=heap_alloc_new w1.drew (.cells #[.int .i64 kd,.string ⟨k.toArray⟩,.string ⟨#[]⟩,.int .i64 0,.slice none 0 0,.int .i64 (pl:Nat)] 90);rw[show w1.drew.heap.size=K+1 from zh]at this;exact this
 have Z5:Hd (ag ns p=0->aG ns p k=none):=hfree;have HP:Hd (p<ns.length):=hp;clear hD gy dZ hD1 sG W hfree;go_enter func166,ntmps166;go_upto_region 2 with fail
 go_cut [] from 15 (fun wx=>∃(g cap:Nat) (xs':List Value) (ks':Nat->Value),TrD wx B T (ns++[⟨kd,k,[],0,[],pl⟩]) now g cap M xs' ks' (ns.length+own.length) (hold ns own)/\Fr B w wx/\wx.heap[K]?=some (.cells #[.string ⟨k.toArray⟩,.int .i64 (pl:Nat)] 196 (0,0)))
 case first =>
  go_region_law (refine step_append_lies _ (by rfl) _ _ _ (by rfl) B 90 i0 _ 6 80 underlying48 hi0 hz0 hz1 hzb (by rfl) (by decide) (.slice (some ⟨N,0,none⟩) ns.length c) ns.length xs (by rfl) (hrow.drew.alloc _) ⟨K+1,0,none⟩ 1 1 [.int .i64 kd,.string ⟨k.toArray⟩,.string ⟨#[]⟩,.int .i64 0,.slice none 0 0,.int .i64 (pl:Nat)] (by rfl) (by rfl) (World.news_of_block dN.o) hone (by omega) (by unfold maxLen;omega) (by omega) (by simp;omega) _ rfl ?_;intro g cap w3 hown3 hgrow hat hlt3;have hc3:w3.cell? ⟨T,0,none⟩=some (.slice (some ⟨N,0,none⟩) ns.length c):=sF d1 hgrow Bc.o;have zi:w3.frozen? ⟨T,0,none⟩=false:=xN um.o hgrow Bc.o)
  all_goals (
   go_wp2_with fail;go_meet;exact ZZ HD1.o iM.o jC.o hown3 hgrow)
 case rest =>
  obtain⟨N1,c1,xs1,ks1,hD2,hF2,hb2⟩:=hcut;obtain⟨L,hL⟩:=zN ((ns++[(⟨kd,k,[],0,[],pl⟩:Tn)]).length);have hpl:p<(ns++[(⟨kd,k,[],0,[],pl⟩:Tn)]).length:=by simp;omega
  have hpL:p<L:=by omega
  have d1':=hD2.cells.1;have xP:=hD2.kid p hpl;obtain⟨o4,m4,hv4⟩:=ku xP;obtain⟨-,-,-,-,e4,-,ef⟩:=hD2.node p hpl;obtain⟨cN1,hcN1⟩:=hD2.rowT;rw[hv4]at e4 xP;have hm4:((ns++[(⟨kd,k,[],0,[],pl⟩:Tn)])[p]'hpl).ks.length<=1000000:=by
   have:=HW.o.len p;unfold ax at this;rw[List.getElem?_eq_getElem HP.o]at this;simp only[]at this;rw[List.getElem_append_left HP.o];omega
  obtain⟨m,hm⟩:=zN (((ns++[(⟨kd,k,[],0,[],pl⟩:Tn)])[p]'hpl).ks.length);rw[hm]at hm4 hv4 e4 xP;rw[hL]at d1';obtain⟨ys,hys⟩:∃ys:List Value,(((ns++[(⟨kd,k,[],0,[],pl⟩:Tn)])[p]'hpl).ks.map fun q=>Value.int .i64 (q:Nat))=ys:=⟨_,rfl⟩;rw[hys]at xP;have lm:Hd (some T≠(Value.slice o4 m m4).ownBlock):=by
   show _≠_;intro e;obtain⟨cc,hcc⟩:=(dV xP e.symm).2;exact aY hD2.blk hcc (by decide) rfl
  have iw:Hd (some N1≠(Value.slice o4 m m4).ownBlock):=by
   show _≠_;intro e;obtain⟨cc,hcc⟩:=(dV xP e.symm).2;exact aY hcN1 hcc (by decide) rfl
  have e4A:(wc.alloc (.cells #[.int .i64 (ns.length:Nat)] 3)).cell? ⟨N1,p*6+4,none⟩=some (.slice o4 m m4):=(World.grownBy_alloc wc _ none).cell e4 (by simp);have d1A:(wc.alloc (.cells #[.int .i64 (ns.length:Nat)] 3)).cell? ⟨T,0,none⟩=some (.slice (some ⟨N1,0,none⟩) L c1):=(World.grownBy_alloc wc _ none).cell d1' (by simp);obtain⟨Z,hZ⟩:=zN (wc.heap.size);have hBZ:B<=wc.heap.size:=Nat.le_of_lt (Nat.lt_of_le_of_lt hD2.bT (aA hD2.blk));have dH:Hd ((wc.drew.alloc (.cells #[.int .i64 (ns.length:Nat)] 3)).heap[Z]?=some (.cells #[.int .i64 (ns.length:Nat)] 3 (0,0))):=by
   have:=heap_alloc_new wc.drew (.cells #[.int .i64 (ns.length:Nat)] 3);rw[show wc.drew.heap.size=Z from hZ]at this;exact this
  have sH:Hd (wc.heap[N1]?=some (.cells cN1 90 (0,0))):=hcN1;have HD2:Hd (TrD wc B T (ns++[⟨kd,k,[],0,[],pl⟩]) now N1 c1 M xs1 ks1 (ns.length+own.length) (hold ns own)):=hD2;have HF2:Hd (Fr B w wc):=hF2;have HB2:Hd (wc.heap[K]?=some (.cells #[.string ⟨k.toArray⟩,.int .i64 (pl:Nat)] 196 (0,0))):=hb2;have vg:Hd (ks1 p=.slice o4 m m4):=hv4;have Be:Hd (((ns++[(⟨kd,k,[],0,[],pl⟩:Tn)])[p]'hpl).ks.length=m):=hm;have mD:Hd ((((ns++[(⟨kd,k,[],0,[],pl⟩:Tn)])[p]'hpl).ks.map fun q=>Value.int .i64 (q:Nat))=ys):=hys;have dF:Hd (p<(ns++[(⟨kd,k,[],0,[],pl⟩:Tn)]).length):=hpl;have kL:Hd ((ns++[(⟨kd,k,[],0,[],pl⟩:Tn)]).length=L):=hL;clear hD2 hF2 hb2 hcN1 hv4 hm hys hL;go_upto_region 3 with fail
  go_cut [] from 30 (fun wx=>∃(g cap:Nat) (xs':List Value) (ks':Nat->Value),TrD wx B T (addN ns p ⟨kd,k,[],0,[],pl⟩) now g cap M xs' ks' (ns.length+own.length) (hold ns own)/\Fr B w wx/\wx.heap[K]?=some (.cells #[.string ⟨k.toArray⟩,.int .i64 (pl:Nat)] 196 (0,0)))
  case first =>
   go_region_law (refine step_append_lies _ (by rfl) _ _ _ (by rfl) B 3 j0 _ 1 8 underlying88 hj0 hy0 hy1 hyb (by rfl) (by decide) (.slice o4 m m4) m ys (by rfl) (xP.drew.alloc _) ⟨Z,0,none⟩ 1 1 [.int .i64 (ns.length:Nat)] (by rfl) (by rfl) (World.news_of_block dH.o) xO (by omega) (by unfold maxLen;omega) (by omega) (by simp;omega) _ rfl ?_;intro g cap w3 hown3 hgrow hat hlt3;have hc3:w3.cell? ⟨N1,p*6+4,none⟩=some (.slice o4 m m4):=sF e4 hgrow iw.o;have zi:w3.frozen? ⟨N1,p*6+4,none⟩=false:=xN sH.o hgrow iw.o;have ahc:w3.cell? ⟨T,0,none⟩=some (.slice (some ⟨N1,0,none⟩) L c1):=sF d1' hgrow lm.o)
   all_goals (
    go_wp2_with fail;go_meet;exact Z4 HP.o HD2.o HF2.o HB2.o vg.o Be.o mD.o hown3 hgrow hat)
  case rest =>
   obtain⟨N2,c2,xs2,ks2,hD3,hF3,hb3⟩:=hcut;have hp3:p<(addN ns p ⟨kd,k,[],0,[],pl⟩).length:=by rw[bV];omega
   obtain⟨t0,t1,-,-⟩:=hD3.cells;obtain⟨n0,-,-,-,-,-,-⟩:=hD3.node p hp3;have kk:wc.cell? ⟨K,0,none⟩=some (.string ⟨k.toArray⟩):=by rw[ae hb3];rfl
   have hkd:((addN ns p ⟨kd,k,[],0,[],pl⟩)[p]'hp3).kd=ag ns p:=by
    have h1:=eH ns p ⟨kd,k,[],0,[],pl⟩ HP.o p;rw[if_neg (by have:=HP.o;omega)]at h1;rw[<-h1];unfold ag;rw[List.getElem?_eq_getElem hp3]
   rw[hkd]at n0;obtain⟨z,hz⟩:=zN (ag ns p);obtain⟨L3,hL3⟩:∃L,(addN ns p ⟨kd,k,[],0,[],pl⟩).length=L:=⟨_,rfl⟩;have ahd:p<L3:=by omega
   rw[hL3]at t0;rw[hz]at n0;have HF3:Hd (Fr B w wc):=hF3;have HD3:Hd (TrD wc B T (addN ns p ⟨kd,k,[],0,[],pl⟩) now N2 c2 M xs2 ks2 (ns.length+own.length) (hold ns own)):=hD3;have hBc:B<=wc.heap.size:=Nat.le_of_lt (Nat.lt_of_le_of_lt hD3.bT (aA hD3.blk));obtain⟨w5,iE,Qx,hg5⟩:=(hD3.map.block (w':=wc.drew) rfl).put p k (by omega) hk (by omega) ns.length false;unfold oH at iE;have FP:Hd (HM w5 M (ns.length+own.length+1) (xC (hold ns own) p k (ns.length,false))):=Qx;have lQ:Hd (wc.drew.grownBy w5 (some M)):=hg5;have HZ:Hd (ag ns p=z):=hz;have oJ:Hd ((addN ns p ⟨kd,k,[],0,[],pl⟩).length=ns.length+1):=bV _ _ _;clear hD3 hF3 hb3 hkd hL3 hz Qx hg5 hp3
   by_cases hz0:z=0
   ·have hb:(z == 0)=true:=by simp[hz0]
    have HZ0:Hd (ag ns p=0):=HZ.o.trans hz0;clear hz0;go_wp2
    go_region
    all_goals (
     go_wp2;refine bodyPost_ret (results_tmp (t:=8) rfl _ _ _) rfl ⟨rfl,⟨N2,c2,M,xs2,ks2,?_⟩,?_⟩
     ·rw[Y2 ns own p ⟨kd,k,[],0,[],pl⟩ rfl HP.o HW.o HZ0.o (Z5.o HZ0.o),oJ.o];have h1:=(HD3.o.keeps (w':=wc.drew) (mG ⟨rfl,rfl,rfl,Nat.le_refl _,fun _ _ _=>rfl⟩)).mapd FP.o lQ.o;exact⟨h1.blk,h1.bT,h1.row,h1.cel,h1.kid,h1.apart,h1.map.mono (by omega),h1.bM⟩
     ·obtain⟨es,cc,hm0⟩:=HD3.o.map.map;exact(HF3.o.two (Fr.gb (w':=wc.drew) ⟨rfl,rfl,rfl,Nat.le_refl _,fun _ _ _=>rfl⟩ hBc)).two (Fr.mapd lQ.o hBc HD3.o.bM hm0))
   ·have hb:(z == 0)=false:=by simp[hz0]
    have HZ0:Hd (¬ag ns p=0):=by show ¬_;rw[HZ.o];exact hz0
    clear hz0;go_wp2;refine bodyPost_ret (results_tmp (t:=8) rfl _ _ _) rfl ⟨rfl,⟨N2,c2,M,xs2,ks2,?_⟩,HF3.o⟩;have h1:=HD3.o;rw[Y3 ns own p ⟨kd,k,[],0,[],pl⟩ rfl HP.o HW.o HZ0.o,oJ.o];exact⟨h1.blk,h1.bT,h1.row,h1.cel,h1.kid,h1.apart,h1.map.mono (by omega),h1.bM⟩
open Go.RowKit Go.Maps Go.WideMaps Go.Joins
def Pb(w:World)(p:Nat)(NV ad bf pv:Value):Prop:=w.heap[p]?=some (.cells #[NV,ad,bf,pv] 111 (0,0))
section
variable {w w':World} {p:Nat} {NV ad bf pv:Value}
theorem Pb.cells(h:Pb w p NV ad bf pv):w.cell? ⟨p,0,none⟩=some NV/\w.cell? ⟨p,1,none⟩=some ad/\w.cell? ⟨p,2,none⟩=some bf/\w.cell? ⟨p,3,none⟩=some pv/\∀k,w.frozen? ⟨p,k,none⟩=false :=
 ⟨by rw[ae h];rfl,by rw[ae h];rfl,by rw[ae h];rfl,by rw[ae h];rfl,fun k=>Lib.frozen_of_heap h k⟩
theorem Pb.setA(h:Pb w p NV ad bf pv)(v:Value):Pb (w.setCell ⟨p,1,none⟩ v) p NV v bf pv:=block_setCell (i:=1) h _
theorem Pb.setB(h:Pb w p NV ad bf pv)(v:Value):Pb (w.setCell ⟨p,2,none⟩ v) p NV ad v pv:=block_setCell (i:=2) h _
theorem Pb.setP(h:Pb w p NV ad bf pv)(v:Value):Pb (w.setCell ⟨p,3,none⟩ v) p NV ad bf v:=block_setCell (i:=3) h _
theorem Pb.shape(h:Pb w p NV ad bf pv):w.shape? p=some (111,4):=by
 unfold World.shape?;rw[h];rfl
end
theorem Qy:(prog.info? 71).map (·.size)=some 2:=by kernel_rfl
theorem Z7:liesAt prog prog.depth 111 (4 / prog.cellsOf 111) 1 71 1=true:=by kernel_rfl
theorem FQ:(prog.info? 5).map (fun i=>(i.zero,i.size,i.bytes))=some (some (.int .u8 0),1,1):=by kernel_rfl
theorem Z8(p:Nat)(w:World)(h0:w.cell? ⟨p,1,none⟩=some (.pointer (some ⟨p,1,none⟩))) :
  Calls prog 62 #[.pointer (some ⟨p,1,none⟩)] w fun e w'=>e=.returned (.tuple #[])/\w'=w:=by
 obtain⟨j,hj,-⟩:=Option.map_eq_some_iff.1 Qy;go_enter func62,ntmps62;go_wp2;rw[Lib.run_neq_ptr_same w _ underlying68 hj];go_wp2
 go_end0
 exact⟨rfl,rfl⟩
theorem Z9(p:Nat)(NV bf pv:Value)(w:World)(h:Pb w p NV (.pointer none) bf pv) :
  Calls prog 62 #[.pointer (some ⟨p,1,none⟩)] w fun e w'=>e=.returned (.tuple #[])/\w'=w.setCell ⟨p,1,none⟩ (.pointer (some ⟨p,1,none⟩)):=by
 obtain⟨j,hj,hjs⟩:=Option.map_eq_some_iff.1 Qy;obtain⟨-,h0,-,-,hf⟩:=h.cells;have hfz:=hf 1;have hsh:=h.shape;clear h hf;go_enter func62,ntmps62;go_wp2;rw[Lib.run_to_unsafe w ⟨p,1,none⟩ underlying68 underlying143 hj (by rw[hjs];decide) hsh (by show 1<4;decide)];simp only[Result.andThen];rw[Oper.upon_value];go_wp2;rw[run_callFunc_extern func102 (by kernel_rfl) (by kernel_rfl) (by kernel_rfl) (e:=Extern.AbiNoEscape.same) (by kernel_rfl)];rw[Lib.run_noEscape];simp only[Result.andThen];rw[Oper.upon_value];go_wp2;rw[Lib.run_from_unsafe w ⟨p,1,none⟩ underlying143 underlying68 hj hsh Z7];simp only[Result.andThen];rw[Oper.upon_value];go_wp2
 go_end0
 exact⟨rfl,rfl⟩
theorem Qz{P:Program}(w:World)(base:Nat)(t u ty e:TypeId)(i:TypeInfo)(ht:P.underlying t=some (.slice e))(hu:P.underlying u=some .string)(hi:P.info? e=some i)(hz:i.zero=some (.int .u8 0))(hsize:i.size=1)(hby:i.bytes=1)
  (v:Value) (n:Nat) (xs:List Value) (hown:w.ownsRow base e 1 v n xs) (s:ByteArray) (h63:n+s.size<=140737488355328) (hbase:base<=w.heap.size) :
  ∃v' w',(Builtin.append_ #[t,u] ty #[v,.string s]).run P w=.ok v' w'/\w'.ownsRow base e 1 v' (n+s.size) (xs++Lib.strCells s)/\w.grownBy w' v.ownBlock/\(v'.ownBlock=v.ownBlock\/v'.ownBlock=some w.heap.size):=by
 obtain⟨v',w',hr,h1,h2,h3⟩:=Lib.run_append_own_string (P:=P) w base t u ty e i ht hu hi hz hsize hby v n xs hown s (by unfold maxLen;omega) h63 hbase;refine⟨v',w',hr,h1,h2,?_⟩;have hxl:xs.length=n:=by simpa using hown.1
 rcases hown.2 with⟨rfl,rfl⟩|⟨g,cap,cur,rfl,hbg,hg,hnc,hcm,hcs,htake⟩
 ·by_cases hm:s.size=0
  ·rw[h3.2 ⟨rfl,hm⟩];exact Or.inl rfl
  ·have hq:=run_append_nil_string (P:=P) w t u ty e i (.int .u8 0) ht hu hi hz s (by omega) (by omega) (by rw[hby];omega);rw[hr]at hq;injection hq with hq _
   rw[hq];exact Or.inr rfl
 ·by_cases hroom:n+s.size<=cap
  ·have hq:=Lib.run_append_room_string (P:=P) w t u ty e i ht hu hi hsize g n cap cur hg s hroom (by simp only[Nat.mul_one]at hcs;omega);rw[hr]at hq;injection hq with hq _
   rw[hq];exact Or.inl rfl
  ·have hq:=Lib.run_append_grow_string (P:=P) w t u ty e i (.int .u8 0) ht hu hi hz ⟨g,0,none⟩ n cap xs (by rw[hsize,Nat.mul_one];exact hxl) (hown.cells (g:=g) rfl) s (by omega) (by omega) (by rw[hby];exact growslice_fits (by omega) (by omega));rw[hr]at hq;injection hq with hq _
   rw[hq];exact Or.inr rfl
theorem aab{P:Program}{w:World}{ops:Array Oper}{rest:List Oper}{o:Oper}{a:Act}{Q:Exit->Act->World->Prop}(hgd:o.guard=none)(sl y:Operand)(t u:TypeId)
  (ho:o.op=.call { callee:=.builtin .append,args:=#[sl,y],argTypes:=#[t,u] })
  (base:Nat) (e:TypeId) (i:TypeInfo) (ht:P.underlying t=some (.slice e)) (hu:P.underlying u=some .string) (hi:P.info? e=some i) (hz:i.zero=some (.int .u8 0)) (hsize:i.size=1) (hby:i.bytes=1)
  (v:Value) (n:Nat) (xs:List Value) (hs:a.eval sl=v) (hown:w.ownsRow base e 1 v n xs) (s:ByteArray) (hy:a.eval y=.string s) (h63:n+s.size<=140737488355328) (hbase:base<=w.heap.size)
  (h:∀v' w',w'.ownsRow base e 1 v' (n+s.size) (xs++Lib.strCells s)->w.grownBy w' v.ownBlock->(v'.ownBlock=v.ownBlock\/v'.ownBlock=some w.heap.size)->wpList P ops Q rest (a.put o.dst v') w'):wpList P ops Q (o :: rest) a w:=by
 refine wpList_plain hgd fun K hK=>?_
 obtain⟨v',w',hr,h2,h3,h4⟩:=Qz (P:=P) w base t u o.type e i ht hu hi hz hsize hby v n xs hown s h63 hbase;unfold Oper.wp execOp;simp only[ho,resolve,invoke,builtin,Sem.run_bind,Sem.run_pure,Result.andThen_ok,List.map_toArray,List.map_cons,List.map_nil,hs,hy,hr];exact hK _ _ (h v' w' h2 h3 h4)
theorem QA(s:ByteArray):Lib.strCells s=Lib.byteCells s.data.toList:=by
 unfold Lib.strCells Lib.byteCells;simp
structure PF(B:Nat)(w w':World):Prop where
 bel:Below B w w'
 oth:∀(b:Nat) (cs:Array Value) (t:TypeId) (fz:Nat × Nat),w.heap[b]?=some (.cells cs t fz)->¬t=111->¬t=5->w'.heap[b]?=w.heap[b]?
theorem PF.two{B:Nat}{w w1 w2:World}(h:PF B w w1)(h':PF B w1 w2):PF B w w2 :=
 ⟨h.bel.trans h'.bel,fun b cs t fz hb h1 h2=>by
  have e1:=h.oth b cs t fz hb h1 h2;exact(h'.oth b cs t fz (e1.trans hb) h1 h2).trans e1⟩
theorem PF.refl(B:Nat)(w:World):PF B w w:=⟨Below.refl B w,fun _ _ _ _ _ _ _=>rfl⟩
theorem PF.gb{B:Nat}{w w':World}(hg:w.grownBy w' none)(hB:B<=w.heap.size):PF B w w' :=
 ⟨⟨hg.os,hg.tape,hg.output,hg.size,fun k hk=>hg.block k (by omega) (by simp)⟩,fun b cs t fz hb _ _=>hg.block b (aA hb) (by simp)⟩
theorem PF.row{B:Nat}{w w':World}{t:TypeId}{g:Nat}{cur:Array Value}{fz:Nat × Nat}(hg:w.grownBy w' (some g))(hB:B<=w.heap.size)(hgB:B<=g)(hb:w.heap[g]?=some (.cells cur t fz))(ht:t=111\/t=5):PF B w w' :=
 ⟨⟨hg.os,hg.tape,hg.output,hg.size,fun k hk=>hg.block k (by omega) (by simp;omega)⟩,fun b cs t' fz' hb' h1 h2=>hg.block b (aA hb') (by
  simp only[ne_eq,Option.some.injEq];refine aY hb' hb ?_
  rcases ht with rfl|rfl
  ·exact h1
  ·exact h2)⟩
theorem PF.app{B:Nat}{w w':World}{sz n:Nat}{V:Value}{ys:List Value}(ho:w.ownsRow B 5 sz V n ys)(hg:w.grownBy w' V.ownBlock)(hB:B<=w.heap.size):PF B w w':=by
 cases hb:V.ownBlock with
 | none=>rw[hb]at hg;exact PF.gb hg hB
 | some q =>
  rw[hb]at hg;obtain⟨hq,cc,hcc⟩:=dV ho hb;exact PF.row hg hB hq hcc (Or.inr rfl)
def Pn(w:World)(B p:Nat)(NV:Value)(out path:List UInt8):Prop:=B<=p/\∃ad bf pv,Pb w p NV ad bf pv/\(ad=.pointer none\/ad=.pointer (some ⟨p,1,none⟩))/\w.ownsRow B 5 1 bf out.length (Lib.byteCells out)/\w.ownsRow B 5 1 pv path.length (Lib.byteCells path)/\(∀g,bf.ownBlock=some g->pv.ownBlock≠some g)/\(out=[]->bf=.slice none 0 0)
theorem Pn.gb{w w':World}{B p:Nat}{NV:Value}{out path:List UInt8}(h:Pn w B p NV out path)(hg:w.grownBy w' none):Pn w' B p NV out path:=by
 obtain⟨h1,ad,bf,pv,h2,h3,h4,h5,h6⟩:=h;exact⟨h1,ad,bf,pv,(hg.block p (aA h2) (by simp)).trans h2,h3,bW h4 fun g cur _ hc=>hg.block g (aA hc) (by simp),bW h5 fun g cur _ hc=>hg.block g (aA hc) (by simp),h6⟩
theorem Pn.base{w:World}{B p:Nat}{NV:Value}{out path:List UInt8}(h:Pn w B p NV out path):B<=p/\p<w.heap.size/\w.cell? ⟨p,0,none⟩=some NV:=by
 obtain⟨h1,ad,bf,pv,h2,-⟩:=h;exact⟨h1,aA h2,h2.cells.1⟩
theorem Pn.keep{w w':World}{B p:Nat}{NV:Value}{out path:List UInt8}(h:Pn w B p NV out path)(hk:∀(b:Nat) (cs:Array Value) (t:TypeId) (fz:Nat × Nat),w.heap[b]?=some (.cells cs t fz)->(t=111\/t=5)->w'.heap[b]?=w.heap[b]?):Pn w' B p NV out path:=by
 obtain⟨h1,ad,bf,pv,h2,h3,h4,h5,h6⟩:=h;exact⟨h1,ad,bf,pv,(hk _ _ _ _ h2 (Or.inl rfl)).trans h2,h3,bW h4 fun g cur _ hc=>hk _ _ _ _ hc (Or.inr rfl),bW h5 fun g cur _ hc=>hk _ _ _ _ hc (Or.inr rfl),h6⟩
theorem Jr(B p:Nat)(NV ad bf pv:Value)(w:World)(h:Pb w p NV ad bf pv)(hB:B<=p)(had:ad=.pointer none\/ad=.pointer (some ⟨p,1,none⟩)) :
  Calls prog 62 #[.pointer (some ⟨p,1,none⟩)] w fun e w'=>e=.returned (.tuple #[])/\Pb w' p NV (.pointer (some ⟨p,1,none⟩)) bf pv/\w.grownBy w' (some p):=by
 rcases had with rfl|rfl
 ·refine(Z9 p NV bf pv w h).mono ?_;rintro e w' ⟨rfl,rfl⟩;exact⟨rfl,h.setA _,jL w p 1 _⟩
 ·refine(Z8 p w h.cells.2.1).mono ?_;rintro e w' ⟨rfl,rfl⟩;exact⟨rfl,h,ai _ _⟩
theorem Pn.wrote{w w1 w2:World}{B p n:Nat}{NV ad bf pv v':Value}{out path x:List UInt8}(hB:B<=p)(h1:Pb w1 p NV (.pointer (some ⟨p,1,none⟩)) bf pv)(hbf:w1.ownsRow B 5 1 bf out.length (Lib.byteCells out))(hpv:w1.ownsRow B 5 1 pv path.length (Lib.byteCells path))(hap:∀g,bf.ownBlock=some g->pv.ownBlock≠some g)
  (hv:w2.ownsRow B 5 1 v' (out.length+x.length) (Lib.byteCells out++Lib.byteCells x)) (hg:w1.grownBy w2 bf.ownBlock) (hat:v'.ownBlock=bf.ownBlock\/∃g,v'.ownBlock=some g/\w1.heap.size<=g) (hBw:B<=w1.heap.size) (hx0:x≠[]) :
  w2.cell? ⟨p,2,none⟩=some bf/\w2.frozen? ⟨p,2,none⟩=false/\Pn (w2.setCell ⟨p,2,none⟩ v') B p NV (out++x) path/\PF B w1 (w2.setCell ⟨p,2,none⟩ v'):=by
 have hp2:Pb w2 p NV (.pointer (some ⟨p,1,none⟩)) bf pv:=(hg.block p (aA h1) (fun e=>by
  obtain⟨-,cc,hcc⟩:=dV hbf e.symm;exact aY h1 hcc (by decide) rfl)).trans h1
 obtain⟨-,-,c2,-,cf⟩:=hp2.cells;have hpv2:w2.ownsRow B 5 1 pv path.length (Lib.byteCells path):=bW hpv fun g cur hh hc=>hg.block g (aA hc) (fun e=>hap g e.symm hh)
 have hset:∀(b:Nat) (cs:Array Value) (t:TypeId) (fz:Nat × Nat),w2.heap[b]?=some (.cells cs t fz)->¬t=111->(w2.setCell ⟨p,2,none⟩ v').heap[b]?=w2.heap[b]?:=fun b cs t fz hb ht=>heap_setCell_other _ _ _ _ (aY hb hp2 ht)
 refine⟨c2,cf 2,⟨hB,_,v',pv,hp2.setB v',Or.inr rfl,?_,bW hpv2 fun g cur _ hc=>hset _ _ _ _ hc (by decide),?_,fun e=>absurd (List.append_eq_nil_iff.1 e).2 hx0⟩,?_⟩
 ·rw[List.length_append,y7];exact bW hv fun g cur _ hc=>hset _ _ _ _ hc (by decide)
 ·intro g hgv oC
  rcases hat with e|⟨g',e,hle⟩
  ·exact hap g (e ▸ hgv) oC
  ·rw[e]at hgv
   cases hgv
   obtain⟨-,cc,hcc⟩:=dV hpv oC;have:=aA hcc;omega
 ·exact(PF.app hbf hg hBw).two (PF.row (jL w2 p 2 v') (Nat.le_trans hBw hg.size) hB hp2 (Or.inl rfl))
theorem zk(B p:Nat)(NV:Value)(out path x:List UInt8)(w:World)(h:Pn w B p NV out path)(hx0:x≠[])(hl:out.length+x.length<=70368744177664) :
  Calls prog 30 #[.pointer (some ⟨p,1,none⟩),.string ⟨x.toArray⟩] w fun e w'=>(∃k:Int,e=.returned (.tuple #[.int .i64 k,.nilIface]))/\Pn w' B p NV (out++x) path/\PF B w w':=by
 obtain⟨hB,ad,bf,pv,hp,had,hbf,hpv,hap,-⟩:=h;have hxs:(⟨x.toArray⟩:ByteArray).size=x.length:=by show x.toArray.size=_;simp
 have hxd:(⟨x.toArray⟩:ByteArray).data.toList=x:=by simp
 have hBw:B<=w.heap.size:=Nat.le_of_lt (Nat.lt_of_le_of_lt hB (aA hp));have CC:Hd (Calls prog 62 #[.pointer (some ⟨p,1,none⟩)] w fun e w'=>e=.returned (.tuple #[])/\Pb w' p NV (.pointer (some ⟨p,1,none⟩)) bf pv/\w.grownBy w' (some p)):=Jr B p NV ad bf pv w hp hB had;obtain⟨i0,hi0,hii⟩:=Option.map_eq_some_iff.1 FQ;simp only[Prod.mk.injEq]at hii;obtain⟨hz0,hz1,hzb⟩:=hii;have HP:Hd (Pb w p NV ad bf pv):=hp;have HB:Hd (w.ownsRow B 5 1 bf out.length (Lib.byteCells out)):=hbf;have HV:Hd (w.ownsRow B 5 1 pv path.length (Lib.byteCells path)):=hpv;have HA:Hd (∀g,bf.ownBlock=some g->pv.ownBlock≠some g):=hap;have HX0:Hd (x≠[]):=hx0;have vF:Hd ((⟨x.toArray⟩:ByteArray).size=x.length/\Lib.strCells ⟨x.toArray⟩=Lib.byteCells x):=⟨hxs,by rw[QA,hxd]⟩;obtain⟨X,hX⟩:∃X:ByteArray,⟨x.toArray⟩=X:=⟨_,rfl⟩;rw[hX]at vF ⊢;have eQ:out.length+X.size<=70368744177664:=by rw[vF.o.1];exact hl
 clear hp hbf hpv hap had hxs hxd hX hl hx0;go_enter func30,ntmps30;go_wp2_with (first|(go_at_call 62;refine CC.o.mono ?_));rintro e w1 ⟨rfl,hp1,hg1⟩;have qJ:w1.ownsRow B 5 1 bf out.length (Lib.byteCells out):=bW HB.o fun g cur _ hc=>hg1.block g (aA hc) (by simp only[ne_eq,Option.some.injEq];exact aY hc HP.o (by decide))
 have kM:Hd (w1.ownsRow B 5 1 pv path.length (Lib.byteCells path)):=bW HV.o fun g cur _ hc=>hg1.block g (aA hc) (by simp only[ne_eq,Option.some.injEq];exact aY hc HP.o (by decide))
 have dI:Hd (Pb w1 p NV (.pointer (some ⟨p,1,none⟩)) bf pv):=hp1;have iM:Hd (PF B w w1):=PF.row hg1 hBw hB HP.o (Or.inl rfl);have HB1:Hd (w1.ownsRow B 5 1 bf out.length (Lib.byteCells out)):=qJ;have hBw1:B<=w1.heap.size:=Nat.le_trans hBw hg1.size;obtain⟨-,c1,c2,-,-⟩:=hp1.cells;clear hp1 hg1;go_wp2_with (first|(at_builtin;refine aab rfl _ _ 69 9 rfl B 5 i0 underlying69 underlying9 hi0 hz0 hz1 hzb bf out.length (Lib.byteCells out) rfl qJ X rfl (by omega) hBw1 ?_));intro v' w2 hv2 hg2 hat;rw[vF.o.1,vF.o.2]at hv2;obtain⟨d2,df,hn,hf⟩:=Pn.wrote (w:=w) (n:=0) (ad:=ad) hB dI.o HB1.o kM.o HA.o hv2 hg2 (hat.imp id fun e=>⟨_,e,Nat.le_refl _⟩) hBw1 HX0.o;have HN:Hd (Pn (w2.setCell ⟨p,2,none⟩ v') B p NV (out++x) path):=hn;have HF2:Hd (PF B w (w2.setCell ⟨p,2,none⟩ v')):=iM.o.two hf;obtain⟨o5,n5,rfl⟩:=ku hv2;clear hv2 hg2 hat hn hf qJ c1 c2
 go_wp2;refine bodyPost_ret (results_tmp2 (t:=4) (u:=5) rfl _ _ _) rfl ?_;exact⟨⟨_,rfl⟩,HN.o,HF2.o⟩
open Go.RowKit Go.Maps Go.WideMaps Go.Joins
theorem QB(c:UInt8):∀u∈[Value.int .u8 (c.toNat:Int)],u.oneCell'=true:=by
 intro u hu;rw[List.mem_singleton.1 hu];rfl
theorem aac(x:List UInt8):∀u∈Lib.byteCells x,u.oneCell'=true:=by
 intro u hu;unfold Lib.byteCells at hu;obtain⟨b,-,rfl⟩:=List.mem_map.1 hu;rfl
theorem aad(c:UInt8):Lib.byteCells [c]=[.int .u8 (c.toNat:Int)]:=rfl
theorem Js(B p:Nat)(NV:Value)(out path:List UInt8)(c:UInt8)(w:World)(h:Pn w B p NV out path)(hl:out.length+1<=70368744177664) :
  Calls prog 89 #[.pointer (some ⟨p,1,none⟩),.int .u8 (c.toNat:Int)] w fun e w'=>e=.returned .nilIface/\Pn w' B p NV (out++[c]) path/\PF B w w':=by
 obtain⟨hB,ad,bf,pv,hp,had,hbf,hpv,hap,-⟩:=h;have hBw:B<=w.heap.size:=Nat.le_of_lt (Nat.lt_of_le_of_lt hB (aA hp));have CC:Hd (Calls prog 62 #[.pointer (some ⟨p,1,none⟩)] w fun e w'=>e=.returned (.tuple #[])/\Pb w' p NV (.pointer (some ⟨p,1,none⟩)) bf pv/\w.grownBy w' (some p)):=Jr B p NV ad bf pv w hp hB had;obtain⟨i0,hi0,hii⟩:=Option.map_eq_some_iff.1 FQ;simp only[Prod.mk.injEq]at hii;obtain⟨hz0,hz1,hzb⟩:=hii;have HP:Hd (Pb w p NV ad bf pv):=hp;have HB:Hd (w.ownsRow B 5 1 bf out.length (Lib.byteCells out)):=hbf;have HV:Hd (w.ownsRow B 5 1 pv path.length (Lib.byteCells path)):=hpv;have HA:Hd (∀g,bf.ownBlock=some g->pv.ownBlock≠some g):=hap;have hone:=QB c;obtain⟨z,hz⟩:∃z:Int,(c.toNat:Int)=z:=⟨_,rfl⟩;have HZ:Hd (Lib.byteCells [c]=[.int .u8 z]):=by show _=_;rw[aad,hz]
 rw[hz]at hone ⊢;clear hp hbf hpv hap had hz;go_enter func89,ntmps89;go_wp2_with (first|(go_at_call 62;refine CC.o.mono ?_));rintro e w1 ⟨rfl,hp1,hg1⟩;have qJ:w1.ownsRow B 5 1 bf out.length (Lib.byteCells out):=bW HB.o fun g cur _ hc=>hg1.block g (aA hc) (by simp only[ne_eq,Option.some.injEq];exact aY hc HP.o (by decide))
 have hpv1:w1.ownsRow B 5 1 pv path.length (Lib.byteCells path):=bW HV.o fun g cur _ hc=>hg1.block g (aA hc) (by simp only[ne_eq,Option.some.injEq];exact aY hc HP.o (by decide))
 have hga:w1.grownBy (w1.alloc (.cells #[.int .u8 z] 5)) none:=World.grownBy_alloc _ _ none;have dI:Hd (Pb (w1.alloc (.cells #[.int .u8 z] 5)) p NV (.pointer (some ⟨p,1,none⟩)) bf pv):=(hga.block p (aA hp1) (by simp)).trans hp1;have kM:Hd ((w1.alloc (.cells #[.int .u8 z] 5)).ownsRow B 5 1 pv path.length (Lib.byteCells path)):=hpv1.alloc _;have HB1:Hd ((w1.alloc (.cells #[.int .u8 z] 5)).ownsRow B 5 1 bf out.length (Lib.byteCells out)):=qJ.alloc _;have hBw1:B<=w1.heap.size:=Nat.le_trans hBw hg1.size;have iM:Hd (PF B w (w1.alloc (.cells #[.int .u8 z] 5))):=(PF.row hg1 hBw hB HP.o (Or.inl rfl)).two (PF.gb hga hBw1);obtain⟨-,c1,c2,-,-⟩:=hp1.cells;clear hp1 hg1 hga hpv1;go_wp2_with (first|(at_builtin;refine wpList_append_lies _ rfl _ _ 69 rfl B 5 i0 _ 1 1 underlying69 hi0 hz0 hz1 hzb rfl (by decide) _ _ _ rfl (qJ.alloc _) _ 1 1 [.int .u8 z] rfl rfl (World.news_of_block (heap_alloc_new _ _)) hone (by decide) (by unfold maxLen;omega) (by omega) (by simp;omega) _ rfl ?_))
 intro g cap w2 hv2 hg2 hat hlt2;have Bf:w2.ownsRow B 5 1 (.slice (some ⟨g,0,none⟩) (out.length+1) cap) (out.length+[c].length) (Lib.byteCells out++Lib.byteCells [c]):=by rw[HZ.o];exact hv2
 obtain⟨d2,df,hn,hf⟩:=Pn.wrote (w:=w) (n:=0) (ad:=ad) hB dI.o HB1.o kM.o HA.o Bf hg2 (hat.imp (fun e=>e.symm) fun e=>⟨g,rfl,Nat.le_of_eq (by rw[World.size_alloc];exact e.symm)⟩) (by simp;omega) (by simp);have HN:Hd (Pn (w2.setCell ⟨p,2,none⟩ (.slice (some ⟨g,0,none⟩) (out.length+1) cap)) B p NV (out++[c]) path):=hn;have HF2:Hd (PF B w (w2.setCell ⟨p,2,none⟩ (.slice (some ⟨g,0,none⟩) (out.length+1) cap))):=iM.o.two hf;clear hv2 Bf hg2 hat hn hf qJ c1 c2 hlt2;go_wp2;go_ret;exact⟨rfl,HN.o,HF2.o⟩
theorem QC(B p:Nat)(NV:Value)(out path:List UInt8)(w:World)(h:Pn w B p NV out path)(hx0:path≠[])(hl:out.length+path.length<=70368744177664):∃pv,w.cell? ⟨p,3,none⟩=some pv ∧
  Calls prog 92 #[.pointer (some ⟨p,1,none⟩),pv] w fun e w'=>(∃k:Int,e=.returned (.tuple #[.int .i64 k,.nilIface]))/\Pn w' B p NV (out++path) path/\PF B w w':=by
 obtain⟨hB,ad,bf,pv,hp,had,hbf,hpv,hap,-⟩:=h;refine⟨pv,hp.cells.2.2.2.1,?_⟩;have hBw:B<=w.heap.size:=Nat.le_of_lt (Nat.lt_of_le_of_lt hB (aA hp));have CC:Hd (Calls prog 62 #[.pointer (some ⟨p,1,none⟩)] w fun e w'=>e=.returned (.tuple #[])/\Pb w' p NV (.pointer (some ⟨p,1,none⟩)) bf pv/\w.grownBy w' (some p)):=Jr B p NV ad bf pv w hp hB had;obtain⟨i0,hi0,hii⟩:=Option.map_eq_some_iff.1 FQ;simp only[Prod.mk.injEq]at hii;obtain⟨hz0,hz1,hzb⟩:=hii;have hpos:0<path.length:=List.length_pos_iff.2 hx0;obtain⟨gp,cp,hvp,-,-⟩:=hpv.form hpos;subst hvp;have HP:Hd (Pb w p NV ad bf (.slice (some ⟨gp,0,none⟩) path.length cp)):=hp;have HB:Hd (w.ownsRow B 5 1 bf out.length (Lib.byteCells out)):=hbf;have HV:Hd (w.ownsRow B 5 1 (.slice (some ⟨gp,0,none⟩) path.length cp) path.length (Lib.byteCells path)):=hpv;have HA:Hd (∀g,bf.ownBlock=some g->(Value.slice (some ⟨gp,0,none⟩) path.length cp).ownBlock≠some g):=hap
 have hone:=aac path;have HX0:Hd (path≠[]):=hx0;have hpl:(Lib.byteCells path).length=path.length*1:=by rw[FK,Nat.mul_one]
 clear hp hbf hpv hap had hx0;go_enter func92,ntmps92;go_wp2_with (first|(go_at_call 62;refine CC.o.mono ?_));rintro e w1 ⟨rfl,hp1,hg1⟩;have qJ:w1.ownsRow B 5 1 bf out.length (Lib.byteCells out):=bW HB.o fun g cur _ hc=>hg1.block g (aA hc) (by simp only[ne_eq,Option.some.injEq];exact aY hc HP.o (by decide))
 have hpv1:w1.ownsRow B 5 1 (.slice (some ⟨gp,0,none⟩) path.length cp) path.length (Lib.byteCells path):=bW HV.o fun g cur _ hc=>hg1.block g (aA hc) (by simp only[ne_eq,Option.some.injEq];exact aY hc HP.o (by decide))
 have hnews:=hpv1.cells (g:=gp) rfl;have dI:Hd (Pb w1 p NV (.pointer (some ⟨p,1,none⟩)) bf (.slice (some ⟨gp,0,none⟩) path.length cp)):=hp1;have kM:Hd (w1.ownsRow B 5 1 (.slice (some ⟨gp,0,none⟩) path.length cp) path.length (Lib.byteCells path)):=hpv1;have HB1:Hd (w1.ownsRow B 5 1 bf out.length (Lib.byteCells out)):=qJ;have hBw1:B<=w1.heap.size:=Nat.le_trans hBw hg1.size;have iM:Hd (PF B w w1):=PF.row hg1 hBw hB HP.o (Or.inl rfl);obtain⟨-,c1,c2,-,-⟩:=hp1.cells;obtain⟨m,hm⟩:=zN (path.length);have HM:Hd (path.length=m):=hm;rw[hm]at hpos hpl hl ⊢;clear hp1 hg1 hpv1 hm;go_wp2_with (first|(at_builtin;refine wpList_append_lies _ rfl _ _ 69 rfl B 5 i0 _ 1 1 underlying69 hi0 hz0 hz1 hzb rfl (by decide) _ _ _ rfl qJ _ m cp (Lib.byteCells path) rfl hpl hnews hone hpos (by unfold maxLen;omega) (by omega) hBw1 _ rfl ?_));intro g cap w2 hv2 hg2 hat hlt2;rw[<-HM.o]at hv2 ⊢
 obtain⟨d2,df,hn,hf⟩:=Pn.wrote (w:=w) (n:=0) (ad:=ad) hB dI.o HB1.o kM.o HA.o hv2 hg2 (hat.imp (fun e=>e.symm) fun e=>⟨g,rfl,Nat.le_of_eq e.symm⟩) hBw1 HX0.o;have HN:Hd (Pn (w2.setCell ⟨p,2,none⟩ (.slice (some ⟨g,0,none⟩) (out.length+path.length) cap)) B p NV (out++path) path):=hn;have HF2:Hd (PF B w (w2.setCell ⟨p,2,none⟩ (.slice (some ⟨g,0,none⟩) (out.length+path.length) cap))):=iM.o.two hf;clear hv2 hg2 hat hn hf qJ c1 c2 hlt2 hnews;go_wp2;refine bodyPost_ret (results_tmp2 (t:=4) (u:=5) rfl _ _ _) rfl ?_;exact⟨⟨_,rfl⟩,HN.o,HF2.o⟩
theorem aae(B p:Nat)(NV:Value)(out path:List UInt8)(w:World)(h:Pn w B p NV out path) :
  Calls prog 91 #[.pointer (some ⟨p,1,none⟩)] w fun e w'=>e=.returned (.int .i64 (out.length:Nat))/\w'=w:=by
 obtain⟨hB,ad,bf,pv,hp,had,hbf,hpv,hap,-⟩:=h;obtain⟨o,c,rfl⟩:=ku hbf;obtain⟨-,-,c2,-,-⟩:=hp.cells;clear hp hbf hpv hap had;go_enter func91,ntmps91;go_wp2;go_ret;exact⟨rfl,rfl⟩
theorem aaf:prog.cellsOf 5=1:=by kernel_rfl
theorem aag(B p:Nat)(NV:Value)(out path:List UInt8)(w:World)(h:Pn w B p NV out path)(hl:out.length<=70368744177664) :
  Calls prog 34 #[.pointer (some ⟨p,1,none⟩)] w fun e w'=>e=.returned (.string ⟨out.toArray⟩)/\Below B w w':=by
 obtain⟨hB,ad,bf,pv,hp,had,hbf,hpv,hap,hnil⟩:=h
 by_cases h0:out=[]
 ·have e:=hnil h0;subst h0 e;have c1:w.drew.cell? ⟨p,2,none⟩=some (.slice none 0 0):=hp.cells.2.2.1;have hSD:(Builtin.unsafeSliceData_ #[69] 126 #[.slice none 0 0]).run prog w.drew=.ok (.pointer none) w.drew:=rfl;have hUS:(Builtin.unsafeString_ #[126,3] 9 #[.pointer none,.int .i64 0]).run prog w.drew=.ok (.string ⟨#[]⟩) w.drew:=by kernel_rfl
  clear hp hbf hpv hap had hnil;go_enter func34,ntmps34;go_wp2
  go_region
  all_goals (go_wp2;go_ret;exact⟨rfl,Below.drew (Below.refl B w)⟩)
 ·have hpos:0<out.length:=List.length_pos_iff.2 h0;obtain⟨g,cap,cur,rfl,hbg,hg,hnc,hcm,hcs,htake⟩:∃g cap cur,bf=.slice (some ⟨g,0,none⟩) out.length cap/\B<=g/\w.heap[g]?=some (.cells cur 5 (0,0))/\out.length<=cap/\cap<=maxLen/\cur.size=cap*1/\cur.toList.take (out.length*1)=Lib.byteCells out:=by
   rcases hbf.2 with⟨_,hz⟩|⟨g,cap,cur,hv,r⟩
   ·omega
   ·exact⟨g,cap,cur,hv,r⟩
  have c1:w.drew.cell? ⟨p,2,none⟩=some (.slice (some ⟨g,0,none⟩) out.length cap):=hp.cells.2.2.1;have hSD:(Builtin.unsafeSliceData_ #[69] 126 #[.slice (some ⟨g,0,none⟩) out.length cap]).run prog w.drew=.ok (.pointer (some ⟨g,0,none⟩)) w.drew:=Lib.run_unsafeSliceData_row _ _ _ _ _ _ (by omega);have hUS:(Builtin.unsafeString_ #[126,3] 9 #[.pointer (some ⟨g,0,none⟩),.int .i64 out.length]).run prog w.drew=.ok (.string ⟨out.toArray⟩) (w.drew.freeze ⟨g,0,none⟩ out.length):=by
   refine Lib.run_unsafeString_row w.drew 126 3 9 5 underlying126 aaf g cur.size (by have hg':w.drew.heap[g]?=some (.cells cur 5 (0,0)):=hg;simp[World.shape?,hg']) out h0 (by omega) (by omega) ?_;intro j x hx;exact hbf.cells (g:=g) rfl j (.int .u8 x.toNat) (by simp[Lib.byteCells,hx])
  obtain⟨n,hn⟩:=zN (out.length);rw[hn]at c1 hSD hUS;clear hp hbf hpv hap had hnil hcs htake hg hcm hn;go_enter func34,ntmps34;go_wp2
  go_region
  all_goals (go_wp2;go_ret;exact⟨rfl,Lib.below_freeze (Below.drew (Below.refl B w)) (p:=⟨g,0,none⟩) hbg _⟩)
end Go.Proofs.YtmkjelchiacogaaGreatDoor
