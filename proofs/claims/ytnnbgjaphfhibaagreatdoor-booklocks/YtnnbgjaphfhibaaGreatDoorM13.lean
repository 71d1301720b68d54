import Derived.Test.YtnnbgjaphfhibaaGreatDoorM12
import Derived.Deep.RegionHeld3
import Derived.Deep.RegionLaw
import Derived.Deep.Cut
set_option linter.unusedVariables false
set_option linter.unusedSimpArgs false
set_option maxRecDepth 100000
set_option maxHeartbeats 6400000
open Go.Proofs.Tryz
namespace Go.Proofs.YtnnbgjaphfhibaaGreatDoor
open Go.RowKit Go.Maps Go.WideMaps Go.Joins
theorem RJ:(prog.info? 64).map (fun i=>(i.zero,i.size,i.bytes))=some (some (.agg #[.int .i64 0,.string ⟨#[]⟩,.string ⟨#[]⟩,.int .i64 0,.slice none 0 0,.int .i64 0]),6,80):=by kernel_rfl
theorem KU:(prog.info? 3).map (fun i=>(i.zero,i.size,i.bytes))=some (some (.int .i64 0),1,8):=by kernel_rfl
def qU(B T:Nat)(ns:List Tn)(own:List Nat)(now p:Nat)(x:Tn)(w:World)(e:Ending)(w':World):Prop:=e=.returned (.int .i64 (ns.length:Nat))/\Tr w' B T (addN ns p x) own now/\Fr B w w'
theorem qV{w w3:World}{o:Obj}{r:Option Nat}{T i:Nat}{cs:Array Value}{t:TypeId}(d:w.heap[T]?=some (.cells cs t (0,0)))(hg:(w.drew.alloc o).grownBy w3 r)(hne:some T≠r):w3.frozen? ⟨T,i,none⟩=false:=by
 have e0:(w.drew.alloc o).heap[T]?=some (.cells cs t (0,0)):=((World.grownBy_alloc w.drew o none).block T (aB (w:=w.drew) d) (by simp)).trans d;exact Lib.frozen_of_heap ((hg.block T (aB e0) hne).trans e0) i
theorem nz{w w3:World}{o:Obj}{r:Option Nat}{T i:Nat}{v:Value}(d:w.cell? ⟨T,i,none⟩=some v)(hg:(w.drew.alloc o).grownBy w3 r)(hne:some T≠r):w3.cell? ⟨T,i,none⟩=some v:=hg.cell ((World.grownBy_alloc w.drew o none).cell d (by simp)) hne
theorem RN(x:Tn):∀u∈([.int .i64 x.kd,.string ⟨x.ky.toArray⟩,.string ⟨x.tx.toArray⟩,.int .i64 x.nu,.slice none 0 0,.int .i64 (x.pl:Nat)]:List Value),u.oneCell'=true:=by
 intro u hu;simp only[List.mem_cons,List.not_mem_nil,or_false]at hu
 rcases hu with rfl|rfl|rfl|rfl|rfl|rfl<;>rfl
theorem RP(q:Nat):∀u∈([.int .i64 (q:Nat)]:List Value),u.oneCell'=true:=by
 intro u hu;simp only[List.mem_cons,List.not_mem_nil,or_false]at hu
 rcases hu with rfl;rfl
theorem lL{w:World}{B:Nat}{e:TypeId}{s:Nat}{v:Value}{n:Nat}{xs:List Value}(h:w.ownsRow B e s v n xs):∃o c,v=.slice o n c:=by
 rcases h.2 with⟨h1,h2⟩|⟨g,cap,cur,h1,_⟩
 ·exact⟨none,0,by rw[h1,h2]⟩
 ·exact⟨_,_,h1⟩
theorem RQ(ns:List Tn)(p:Nat)(x:Tn)(hp:p<ns.length)(hp':p<(ns++[x]).length):(ns++[x]).set p { (ns++[x])[p] with ks:=(ns++[x])[p].ks++[ns.length] }=addN ns p x:=by
 unfold addN;rw[List.getElem?_eq_getElem hp];simp only[List.getElem_append_left hp];rw[List.set_append_left _ _ hp]
theorem aaw{w w1 w3:World}{B T:Nat}{ns:List Tn}{now N c M:Nat}{xs:List Value}{ks:Nat->Value}{n:Nat}{f:Nat->List UInt8->Option (Nat × Bool)}{kd:Int}{k:List UInt8}{pl K g cap:Nat}
  (h:TrD w1 B T ns now N c M xs ks n f) (hf:Fr B w w1) (hK:w1.heap[K]?=some (.cells #[.string ⟨k.toArray⟩,.int .i64 (pl:Nat)] 213 (0,0)))
  (ho:w3.ownsRow B 64 6 (.slice (some ⟨g,0,none⟩) (ns.length+1) cap) (ns.length+1) (xs++[.int .i64 kd,.string ⟨k.toArray⟩,.string ⟨#[]⟩,.int .i64 0,.slice none 0 0,.int .i64 (pl:Nat)]))
  (hg:(w1.drew.alloc (.cells #[.int .i64 kd,.string ⟨k.toArray⟩,.string ⟨#[]⟩,.int .i64 0,.slice none 0 0,.int .i64 (pl:Nat)] 64)).grownBy w3 (Value.slice (some ⟨N,0,none⟩) ns.length c).ownBlock) :
  ∃(g' cap':Nat) (xs':List Value) (ks':Nat->Value),TrD (w3.setCell ⟨T,0,none⟩ (.slice (some ⟨g,0,none⟩) (ns.length+1) cap)) B T (ns++[⟨kd,k,[],0,[],pl⟩]) now g' cap' M xs' ks' n f/\Fr B w (w3.setCell ⟨T,0,none⟩ (.slice (some ⟨g,0,none⟩) (ns.length+1) cap))/\(w3.setCell ⟨T,0,none⟩ (.slice (some ⟨g,0,none⟩) (ns.length+1) cap)).heap[K]?=some (.cells #[.string ⟨k.toArray⟩,.int .i64 (pl:Nat)] 213 (0,0)):=by
 have hgE:w1.grownBy (w1.drew.alloc (.cells #[.int .i64 kd,.string ⟨k.toArray⟩,.string ⟨#[]⟩,.int .i64 0,.slice none 0 0,.int .i64 (pl:Nat)] 64)) none:=by
  have:=World.grownBy_alloc w1.drew (.cells #[.int .i64 kd,.string ⟨k.toArray⟩,.string ⟨#[]⟩,.int .i64 0,.slice none 0 0,.int .i64 (pl:Nat)] 64) none;exact⟨this.os,this.tape,this.output,this.size,this.block⟩
 obtain⟨w2,hw2⟩:=zN (w1.drew.alloc (.cells #[.int .i64 kd,.string ⟨k.toArray⟩,.string ⟨#[]⟩,.int .i64 0,.slice none 0 0,.int .i64 (pl:Nat)] 64));rw[hw2]at hg hgE;have hg':w2.grownBy w3 (some N):=hg;have h2:=h.keeps (ny hgE);obtain⟨cN,lM⟩:=h2.rowT;have hB1:B<=w1.heap.size:=Nat.le_of_lt (Nat.lt_of_le_of_lt h.bT (aB h.blk));have hB2:B<=w2.heap.size:=Nat.le_trans hB1 hgE.size;have RU:=(hg'.block T (aB h2.blk) (by simp only[ne_eq,Option.some.injEq];exact aP h2.blk lM (by decide))).trans h2.blk;have hK2:w2.heap[K]?=_:=(hgE.block K (aB hK) (by simp)).trans hK;have hK3:w3.heap[K]?=_:=(hg'.block K (aB hK2) (by simp only[ne_eq,Option.some.injEq];exact aP hK2 lM (by decide))).trans hK2;refine⟨g,cap,_,_,h2.push (L:=ns.length+1) ⟨kd,k,[],0,[],pl⟩ rfl rfl ho hg',?_,(heap_setCell_other _ _ _ _ (aP hK3 RU (by decide))).trans hK3⟩;exact((hf.two (Fr.gb hgE hB1)).two (Fr.row hg' hB2 (bz h2.row rfl).1 lM (Or.inr (Or.inl rfl)))).two (Fr.row (iM w3 T 0 _) (Nat.le_trans hB2 hg'.size) h2.bT RU (Or.inl rfl))
theorem aax{w w1 w3:World}{B T:Nat}{ns:List Tn}{x:Tn}{now N c M m p:Nat}{xs ys:List Value}{ks:Nat->Value}{n:Nat}{f:Nat->List UInt8->Option (Nat × Bool)}{k:List UInt8}{pl K g cap m4:Nat}{o4:Option Addr}{hpl:p<(ns++[x]).length}
  (hp:p<ns.length) (h:TrD w1 B T (ns++[x]) now N c M xs ks n f) (hf:Fr B w w1) (hK:w1.heap[K]?=some (.cells #[.string ⟨k.toArray⟩,.int .i64 (pl:Nat)] 213 (0,0))) (hv:ks p=.slice o4 m m4) (hm:((ns++[x])[p]'hpl).ks.length=m) (hys:(((ns++[x])[p]'hpl).ks.map fun q=>Value.int .i64 (q:Nat))=ys)
  (ho:w3.ownsRow B 3 1 (.slice (some ⟨g,0,none⟩) (m+1) cap) (m+1) (ys++[.int .i64 (ns.length:Nat)]))
  (hg:(w1.drew.alloc (.cells #[.int .i64 (ns.length:Nat)] 3)).grownBy w3 (Value.slice o4 m m4).ownBlock) (hat:(Value.slice o4 m m4).ownBlock=some g\/g=(w1.drew.alloc (.cells #[.int .i64 (ns.length:Nat)] 3)).heap.size) :
  ∃(g' cap':Nat) (xs':List Value) (ks':Nat->Value),TrD (w3.setCell ⟨N,p*6+4,none⟩ (.slice (some ⟨g,0,none⟩) (m+1) cap)) B T (addN ns p x) now g' cap' M xs' ks' n f/\Fr B w (w3.setCell ⟨N,p*6+4,none⟩ (.slice (some ⟨g,0,none⟩) (m+1) cap))/\(w3.setCell ⟨N,p*6+4,none⟩ (.slice (some ⟨g,0,none⟩) (m+1) cap)).heap[K]?=some (.cells #[.string ⟨k.toArray⟩,.int .i64 (pl:Nat)] 213 (0,0)):=by
 have hgE:w1.grownBy (w1.drew.alloc (.cells #[.int .i64 (ns.length:Nat)] 3)) none:=by
  have:=World.grownBy_alloc w1.drew (.cells #[.int .i64 (ns.length:Nat)] 3) none;exact⟨this.os,this.tape,this.output,this.size,this.block⟩
 obtain⟨w2,hw2⟩:=zN (w1.drew.alloc (.cells #[.int .i64 (ns.length:Nat)] 3));rw[hw2]at hg hgE hat;rw[<-hv]at hg hat;have h2:=h.keeps (ny hgE);obtain⟨cN,lM⟩:=h2.rowT;have hB1:B<=w1.heap.size:=Nat.le_of_lt (Nat.lt_of_le_of_lt h.bT (aB h.blk));have hB2:B<=w2.heap.size:=Nat.le_trans hB1 hgE.size;have hne:∀(b:Nat) (cs:Array Value) (t:TypeId) (fz:Nat × Nat),w2.heap[b]?=some (.cells cs t fz)->¬t=3->w3.heap[b]?=w2.heap[b]?:=fun b cs t fz hb ht=>hg.block b (aB hb) (fun e=>by
  obtain⟨cc,hcc⟩:=h2.kidOwn hpl e.symm;exact aP hb hcc ht rfl)
 have hK2:w2.heap[K]?=_:=(hgE.block K (aB hK) (by simp)).trans hK;have hK3:w3.heap[K]?=_:=(hne _ _ _ _ hK2 (by decide)).trans hK2;have hN3:w3.heap[N]?=_:=(hne _ _ _ _ lM (by decide)).trans lM;have h3:=h2.kidp (L:=m+1) p hpl ns.length (by rw[hm]) (by rw[hys];exact ho) hg (by rcases hat with e|e;exact Or.inl e;exact Or.inr (by omega));rw[RQ ns p x hp hpl]at h3;refine⟨_,_,_,_,h3,?_,(heap_setCell_other _ _ _ _ (aP hK3 hN3 (by decide))).trans hK3⟩;have f2:Fr B w2 w3:=by
  cases hb:(ks p).ownBlock with
  | none=>rw[hb]at hg;exact Fr.gb hg hB2
  | some q =>
   rw[hb]at hg;obtain⟨hq,cc,hcc⟩:=bz (h2.kid p hpl) hb;exact Fr.row hg hB2 hq hcc (Or.inr (Or.inr rfl))
 exact((hf.two (Fr.gb hgE hB1)).two f2).two (Fr.row (iM w3 N _ _) (Nat.le_trans hB2 hg.size) (bz h2.row rfl).1 hN3 (Or.inr (Or.inl rfl)))
theorem zk(B T:Nat)(ns:List Tn)(own:List Nat)(now p:Nat)(kd:Int)(k:List UInt8)(pl:Nat)(w:World)(h:Tr w B T ns own now)(W:WF ns own)(hp:p<ns.length)(hfree:ak ns p=0->ai ns p k=none)(hsz:ns.length+own.length<=1000000)(hk:k.length<=1048576) :
  Calls prog 196 #[.pointer (some ⟨T,0,none⟩),.int .i64 (p:Nat),.int .i64 kd,.agg #[.string ⟨k.toArray⟩,.int .i64 (pl:Nat)]] w (qU B T ns own now p ⟨kd,k,[],0,[],pl⟩ w):=by
 obtain⟨N,c,M,xs,ks,hD⟩:=h;obtain⟨i0,hi0,hii⟩:=Option.map_eq_some_iff.1 RJ;simp only[Prod.mk.injEq]at hii;obtain⟨hz0,hz1,hzb⟩:=hii;obtain⟨j0,hj0,hjj⟩:=Option.map_eq_some_iff.1 KU;simp only[Prod.mk.injEq]at hjj;obtain⟨hy0,hy1,hyb⟩:=hjj;have hone:=RN ⟨kd,k,[],0,[],pl⟩;simp only[]at hone;have BM:=RP ns.length;obtain⟨K,jg⟩:=zN (w.heap.size);have eX:w.grownBy (w.alloc (.cells #[.string ⟨k.toArray⟩,.int .i64 (pl:Nat)] 213)) none:=World.grownBy_alloc w _ none;have bZ:=heap_alloc_new w (.cells #[.string ⟨k.toArray⟩,.int .i64 (pl:Nat)] 213);have pM:(w.alloc (.cells #[.string ⟨k.toArray⟩,.int .i64 (pl:Nat)] 213)).heap.size=K+1:=by rw[World.size_alloc,jg]
 rw[jg]at bZ;have hD1:=hD.keeps (ny eX);have hBs:B<=w.heap.size:=Nat.le_of_lt (Nat.lt_of_le_of_lt hD.bT (aB hD.blk));have jF:Hd (Fr B w (w.alloc (.cells #[.string ⟨k.toArray⟩,.int .i64 (pl:Nat)] 213))):=Fr.gb eX hBs;obtain⟨w1,hw1⟩:=zN (w.alloc (.cells #[.string ⟨k.toArray⟩,.int .i64 (pl:Nat)] 213));rw[hw1]at bZ pM hD1 jF;have hrow:=hD1.row;obtain⟨cN,lM⟩:=hD1.rowT;have ut:Hd (some T≠(Value.slice (some ⟨N,0,none⟩) ns.length c).ownBlock):=by
  show some T≠some N;simp only[ne_eq,Option.some.injEq];exact aP hD1.blk lM (by decide)
 have d1:=hD1.cells.1;have dA:(w1.alloc (.cells #[.int .i64 kd,.string ⟨k.toArray⟩,.string ⟨#[]⟩,.int .i64 0,.slice none 0 0,.int .i64 (pl:Nat)] 64)).cell? ⟨T,0,none⟩=some (.slice (some ⟨N,0,none⟩) ns.length c):=(World.grownBy_alloc w1 _ none).cell d1 (by simp);have BN:Hd (w1.heap[T]?=some (.cells #[.slice (some ⟨N,0,none⟩) ns.length c,.map (some M),.int .i64 (now:Nat)] 129 (0,0))):=hD1.blk;have HFK:Hd (some K≠(Value.slice (some ⟨N,0,none⟩) ns.length c).ownBlock):=by
  show some K≠some N;simp only[ne_eq,Option.some.injEq];exact aP bZ lM (by decide)
 have k1:w1.cell? ⟨K,0,none⟩=some (.string ⟨k.toArray⟩):=by rw[af bZ];rfl
 have k2:w1.cell? ⟨K,1,none⟩=some (.int .i64 (pl:Nat)):=by rw[af bZ];rfl
 have HD1:Hd (TrD w1 B T ns now N c M xs ks (ns.length+own.length) (hold ns own)):=hD1;have kY:Hd (w1.heap[K]?=some (.cells #[.string ⟨k.toArray⟩,.int .i64 (pl:Nat)] 213 (0,0))):=bZ;have HW:Hd (WF ns own):=W;have dQ:Hd ((w1.drew.alloc (.cells #[.int .i64 kd,.string ⟨k.toArray⟩,.string ⟨#[]⟩,.int .i64 0,.slice none 0 0,.int .i64 (pl:Nat)] 64)).heap[K+1]?=some (.cells #[.int .i64 kd,.string ⟨k.toArray⟩,.string ⟨#[]⟩,.int .i64 0,.slice none 0 0,.int .i64 (pl:Nat)] 64 (0,0))):=by
  have:=heap_alloc_new w1.drew (.cells #[.int .i64 kd,.string ⟨k.toArray⟩,.string ⟨#[]⟩,.int .i64 0,.slice none 0 0,.int .i64 (pl:Nat)] 64);rw[show w1.drew.heap.size=K+1 from pM]at this;exact this
 have aay:Hd (ak ns p=0->ai ns p k=none):=hfree;have HP:Hd (p<ns.length):=hp;clear hD eX bZ hD1 lM W hfree;go_enter func196,ntmps196;go_upto_region 2 with fail
 go_cut [] from 15 (fun wx=>∃(g cap:Nat) (xs':List Value) (ks':Nat->Value),TrD wx B T (ns++[⟨kd,k,[],0,[],pl⟩]) now g cap M xs' ks' (ns.length+own.length) (hold ns own)/\Fr B w wx/\wx.heap[K]?=some (.cells #[.string ⟨k.toArray⟩,.int .i64 (pl:Nat)] 213 (0,0)))
 case first =>
  go_region_law (refine step_append_lies _ (by rfl) _ _ _ (by rfl) B 64 i0 _ 6 80 underlying54 hi0 hz0 hz1 hzb (by rfl) (by decide) (.slice (some ⟨N,0,none⟩) ns.length c) ns.length xs (by rfl) (hrow.drew.alloc _) ⟨K+1,0,none⟩ 1 1 [.int .i64 kd,.string ⟨k.toArray⟩,.string ⟨#[]⟩,.int .i64 0,.slice none 0 0,.int .i64 (pl:Nat)] (by rfl) (by rfl) (World.news_of_block dQ.o) hone (by omega) (by unfold maxLen;omega) (by omega) (by simp;omega) _ rfl ?_;intro g cap w3 hown3 hgrow hat hlt3;have hc3:w3.cell? ⟨T,0,none⟩=some (.slice (some ⟨N,0,none⟩) ns.length c):=nz d1 hgrow ut.o;have oM:w3.frozen? ⟨T,0,none⟩=false:=qV BN.o hgrow ut.o)
  all_goals (
   go_wp2_with fail;go_meet;exact aaw HD1.o jF.o kY.o hown3 hgrow)
 case rest =>
  obtain⟨N1,c1,xs1,ks1,hD2,hF2,hb2⟩:=hcut;obtain⟨L,hL⟩:=zN ((ns++[(⟨kd,k,[],0,[],pl⟩:Tn)]).length);have hpl:p<(ns++[(⟨kd,k,[],0,[],pl⟩:Tn)]).length:=by simp;omega
  have hpL:p<L:=by omega
  have d1':=hD2.cells.1;have mg:=hD2.kid p hpl;obtain⟨o4,m4,hv4⟩:=lL mg;obtain⟨-,-,-,-,e4,-,ef⟩:=hD2.node p hpl;obtain⟨cN1,hcN1⟩:=hD2.rowT;rw[hv4]at e4 mg;have hm4:((ns++[(⟨kd,k,[],0,[],pl⟩:Tn)])[p]'hpl).ks.length<=1000000:=by
   have:=HW.o.len p;unfold ae at this;rw[List.getElem?_eq_getElem HP.o]at this;simp only[]at this;rw[List.getElem_append_left HP.o];omega
  obtain⟨m,hm⟩:=zN (((ns++[(⟨kd,k,[],0,[],pl⟩:Tn)])[p]'hpl).ks.length);rw[hm]at hm4 hv4 e4 mg;rw[hL]at d1';obtain⟨ys,hys⟩:∃ys:List Value,(((ns++[(⟨kd,k,[],0,[],pl⟩:Tn)])[p]'hpl).ks.map fun q=>Value.int .i64 (q:Nat))=ys:=⟨_,rfl⟩;rw[hys]at mg;have bK:Hd (some T≠(Value.slice o4 m m4).ownBlock):=by
   show _≠_;intro e;obtain⟨cc,hcc⟩:=(bz mg e.symm).2;exact aP hD2.blk hcc (by decide) rfl
  have iL:Hd (some N1≠(Value.slice o4 m m4).ownBlock):=by
   show _≠_;intro e;obtain⟨cc,hcc⟩:=(bz mg e.symm).2;exact aP hcN1 hcc (by decide) rfl
  have e4A:(wc.alloc (.cells #[.int .i64 (ns.length:Nat)] 3)).cell? ⟨N1,p*6+4,none⟩=some (.slice o4 m m4):=(World.grownBy_alloc wc _ none).cell e4 (by simp);have d1A:(wc.alloc (.cells #[.int .i64 (ns.length:Nat)] 3)).cell? ⟨T,0,none⟩=some (.slice (some ⟨N1,0,none⟩) L c1):=(World.grownBy_alloc wc _ none).cell d1' (by simp);obtain⟨Z,hZ⟩:=zN (wc.heap.size);have hBZ:B<=wc.heap.size:=Nat.le_of_lt (Nat.lt_of_le_of_lt hD2.bT (aB hD2.blk));have dW:Hd ((wc.drew.alloc (.cells #[.int .i64 (ns.length:Nat)] 3)).heap[Z]?=some (.cells #[.int .i64 (ns.length:Nat)] 3 (0,0))):=by
   have:=heap_alloc_new wc.drew (.cells #[.int .i64 (ns.length:Nat)] 3);rw[show wc.drew.heap.size=Z from hZ]at this;exact this
  have kL:Hd (wc.heap[N1]?=some (.cells cN1 64 (0,0))):=hcN1;have HD2:Hd (TrD wc B T (ns++[⟨kd,k,[],0,[],pl⟩]) now N1 c1 M xs1 ks1 (ns.length+own.length) (hold ns own)):=hD2;have HF2:Hd (Fr B w wc):=hF2;have HB2:Hd (wc.heap[K]?=some (.cells #[.string ⟨k.toArray⟩,.int .i64 (pl:Nat)] 213 (0,0))):=hb2;have sG:Hd (ks1 p=.slice o4 m m4):=hv4;have nC:Hd (((ns++[(⟨kd,k,[],0,[],pl⟩:Tn)])[p]'hpl).ks.length=m):=hm;have lH:Hd ((((ns++[(⟨kd,k,[],0,[],pl⟩:Tn)])[p]'hpl).ks.map fun q=>Value.int .i64 (q:Nat))=ys):=hys;have eG:Hd (p<(ns++[(⟨kd,k,[],0,[],pl⟩:Tn)]).length):=hpl;have jD:Hd ((ns++[(⟨kd,k,[],0,[],pl⟩:Tn)]).length=L):=hL;clear hD2 hF2 hb2 hcN1 hv4 hm hys hL;go_upto_region 3 with fail
  go_cut [] from 30 (fun wx=>∃(g cap:Nat) (xs':List Value) (ks':Nat->Value),TrD wx B T (addN ns p ⟨kd,k,[],0,[],pl⟩) now g cap M xs' ks' (ns.length+own.length) (hold ns own)/\Fr B w wx/\wx.heap[K]?=some (.cells #[.string ⟨k.toArray⟩,.int .i64 (pl:Nat)] 213 (0,0)))
  case first =>
   go_region_law (refine step_append_lies _ (by rfl) _ _ _ (by rfl) B 3 j0 _ 1 8 underlying43 hj0 hy0 hy1 hyb (by rfl) (by decide) (.slice o4 m m4) m ys (by rfl) (mg.drew.alloc _) ⟨Z,0,none⟩ 1 1 [.int .i64 (ns.length:Nat)] (by rfl) (by rfl) (World.news_of_block dW.o) BM (by omega) (by unfold maxLen;omega) (by omega) (by simp;omega) _ rfl ?_;intro g cap w3 hown3 hgrow hat hlt3;have hc3:w3.cell? ⟨N1,p*6+4,none⟩=some (.slice o4 m m4):=nz e4 hgrow iL.o;have oM:w3.frozen? ⟨N1,p*6+4,none⟩=false:=qV kL.o hgrow iL.o;have aaz:w3.cell? ⟨T,0,none⟩=some (.slice (some ⟨N1,0,none⟩) L c1):=nz d1' hgrow bK.o)
   all_goals (
    go_wp2_with fail;go_meet;exact aax HP.o HD2.o HF2.o HB2.o sG.o nC.o lH.o hown3 hgrow hat)
  case rest =>
   obtain⟨N2,c2,xs2,ks2,hD3,hF3,hb3⟩:=hcut;have hp3:p<(addN ns p ⟨kd,k,[],0,[],pl⟩).length:=by rw[dh];omega
   obtain⟨t0,t1,-,-⟩:=hD3.cells;obtain⟨n0,-,-,-,-,-,-⟩:=hD3.node p hp3;have kk:wc.cell? ⟨K,0,none⟩=some (.string ⟨k.toArray⟩):=by rw[af hb3];rfl
   have hkd:((addN ns p ⟨kd,k,[],0,[],pl⟩)[p]'hp3).kd=ak ns p:=by
    have h1:=fA ns p ⟨kd,k,[],0,[],pl⟩ HP.o p;rw[if_neg (by have:=HP.o;omega)]at h1;rw[<-h1];unfold ak;rw[List.getElem?_eq_getElem hp3]
   rw[hkd]at n0;obtain⟨z,hz⟩:=zN (ak ns p);obtain⟨L3,hL3⟩:∃L,(addN ns p ⟨kd,k,[],0,[],pl⟩).length=L:=⟨_,rfl⟩;have afF:p<L3:=by omega
   rw[hL3]at t0;rw[hz]at n0;have HF3:Hd (Fr B w wc):=hF3;have HD3:Hd (TrD wc B T (addN ns p ⟨kd,k,[],0,[],pl⟩) now N2 c2 M xs2 ks2 (ns.length+own.length) (hold ns own)):=hD3;have hBc:B<=wc.heap.size:=Nat.le_of_lt (Nat.lt_of_le_of_lt hD3.bT (aB hD3.blk));obtain⟨w5,pO,RX,hg5⟩:=(hD3.map.block (w':=wc.drew) rfl).put p k (by omega) hk (by omega) ns.length false;unfold oL at pO;have Gm:Hd (HM w5 M (ns.length+own.length+1) (xO (hold ns own) p k (ns.length,false))):=RX;have iy:Hd (wc.drew.grownBy w5 (some M)):=hg5;have HZ:Hd (ak ns p=z):=hz;have uu:Hd ((addN ns p ⟨kd,k,[],0,[],pl⟩).length=ns.length+1):=dh _ _ _;clear hD3 hF3 hb3 hkd hL3 hz RX hg5 hp3
   by_cases hz0:z=0
   ·have hb:(z == 0)=true:=by simp[hz0]
    have HZ0:Hd (ak ns p=0):=HZ.o.trans hz0;clear hz0;go_wp2
    go_region
    all_goals (
     go_wp2;refine bodyPost_ret (results_tmp (t:=8) rfl _ _ _) rfl ⟨rfl,⟨N2,c2,M,xs2,ks2,?_⟩,?_⟩
     ·rw[Yt ns own p ⟨kd,k,[],0,[],pl⟩ rfl HP.o HW.o HZ0.o (aay.o HZ0.o),uu.o];have h1:=(HD3.o.keeps (w':=wc.drew) (ny ⟨rfl,rfl,rfl,Nat.le_refl _,fun _ _ _=>rfl⟩)).mapd Gm.o iy.o;exact⟨h1.blk,h1.bT,h1.row,h1.cel,h1.kid,h1.apart,h1.map.mono (by omega),h1.bM⟩
     ·obtain⟨es,cc,hm0⟩:=HD3.o.map.map;exact(HF3.o.two (Fr.gb (w':=wc.drew) ⟨rfl,rfl,rfl,Nat.le_refl _,fun _ _ _=>rfl⟩ hBc)).two (Fr.mapd iy.o hBc HD3.o.bM hm0))
   ·have hb:(z == 0)=false:=by simp[hz0]
    have HZ0:Hd (¬ak ns p=0):=by show ¬_;rw[HZ.o];exact hz0
    clear hz0;go_wp2;refine bodyPost_ret (results_tmp (t:=8) rfl _ _ _) rfl ⟨rfl,⟨N2,c2,M,xs2,ks2,?_⟩,HF3.o⟩;have h1:=HD3.o;rw[Yu ns own p ⟨kd,k,[],0,[],pl⟩ rfl HP.o HW.o HZ0.o,uu.o];exact⟨h1.blk,h1.bT,h1.row,h1.cel,h1.kid,h1.apart,h1.map.mono (by omega),h1.bM⟩
open Go.RowKit Go.Maps Go.WideMaps Go.Joins
theorem RY(ns:List Tn)(own:List Nat)(t:Nat)(k:List UInt8)(h0:ak ns t=0):hold ns own t k=(ai ns t k).map fun q=>(q,decide (q∈own)):=by unfold hold;rw[if_pos h0]
theorem xY{w w':World}{E:Int->TypeId × Value}(h:Es w E)(hg:w.grownBy w' none):Es w' E:=⟨hg.cell h.te (by simp),hg.cell h.ra (by simp),hg.cell h.ma (by simp),hg.cell h.tw (by simp)⟩
theorem pR(w:World)(o:Obj):w.grownBy (w.alloc o).drew none:=by
 have:=World.grownBy_alloc w o none;exact⟨this.os,this.tape,this.output,this.size,this.block⟩
def aaA(E:Int->TypeId × Value)(r:Option Nat)(pl:Nat)(w:World)(e:Ending)(w':World):Prop:=(r=none->e=.returned .nilIface)/\(∀q,r=some q->∃v,e=.returned v/\aV w' v E 5 pl)/\w.grownBy w' none
theorem aaB(B T:Nat)(ns:List Tn)(own:List Nat)(now:Nat)(E:Int->TypeId × Value)(k:List UInt8)(pl:Nat)(w:World)(h:Tr w B T ns own now)(h0:ak ns now=0)(hnw:now<=1000000)(hk:k.length<=1048576)(he:Es w E) :
  Calls prog 153 #[.pointer (some ⟨T,0,none⟩),.agg #[.string ⟨k.toArray⟩,.int .i64 (pl:Nat)]] w (aaA E (ai ns now k) pl w):=by
 obtain⟨N,c,M,xs,ks,hD⟩:=h;have CW:Hd (∀w,Calls prog 195 #[.iface (E 5).1 (E 5).2,.int .i64 (pl:Nat)] w fun e w'=>(∃v,e=.returned v/\FaultV w' v pl (E 5).1 (E 5).2)/\w.grownBy w' none):=fun w=>rV pl _ _ w
 have eX:w.grownBy (w.alloc (.cells #[.string ⟨k.toArray⟩,.int .i64 (pl:Nat)] 213)) none:=World.grownBy_alloc w _ none;have bZ:=heap_alloc_new w (.cells #[.string ⟨k.toArray⟩,.int .i64 (pl:Nat)] 213);obtain⟨K,jg⟩:=zN (w.heap.size);rw[jg]at bZ;have hD1:=hD.keeps (ny eX);have he1:=xY he eX;obtain⟨w1,hw1⟩:=zN (w.alloc (.cells #[.string ⟨k.toArray⟩,.int .i64 (pl:Nat)] 213));rw[hw1]at bZ hD1 eX he1;obtain⟨-,t1,t2,-⟩:=hD1.cells;have k0:w1.cell? ⟨K,0,none⟩=some (.string ⟨k.toArray⟩):=by rw[af bZ];rfl
 have k1:w1.cell? ⟨K,1,none⟩=some (.int .i64 (pl:Nat)):=by rw[af bZ];rfl
 have gA:w1.grownBy (w1.alloc (.cells #[.int .i64 0,.bool false] 265)) none:=World.grownBy_alloc w1 _ none;have t1A:=gA.cell t1 (by simp);have t2A:=gA.cell t2 (by simp);have k0A:=gA.cell k0 (by simp);have hl:∀W:World,W.heap[M]?=w1.heap[M]?->(Instr.lookup 127 (.map (some M)) (oL now k) true).run prog W=.ok (match hold ns own now k with|some v=>.tuple #[.agg #[.int .i64 (v.1:Nat),.bool v.2],.bool true]|none=>.tuple #[.agg #[.int .i64 0,.bool false],.bool false]) W:=fun W hW=>(hD1.map.block hW).look now k (by omega) hk
 obtain⟨es,cc,hm0⟩:=hD1.map.map;have l1:=hl w1.drew rfl;have l2:=hl (w1.alloc (.cells #[.int .i64 0,.bool false] 265)).drew ((gA.block M (aB hm0) (by simp)));rw[RY ns own now k h0]at l1 l2;unfold oL at l1 l2;have ay:Hd (w.grownBy w1 none):=eX;have jZ:Hd (Es w1 E):=he1;have dP:Hd (∀w' v,FaultV w' v pl (E 5).1 (E 5).2->aV w' v E 5 pl):=fun _ _ h=>h
 obtain⟨ty,hty⟩:=zN ((E 5).1);obtain⟨pv,hpv⟩:=zN ((E 5).2);have tw1:=he1.tw;rw[hty,hpv]at CW dP tw1;clear hD bZ hD1 eX he1 he hl hm0 hty hpv gA
 cases hq:ai ns now k with
 | none =>
  rw[hq]at l1 l2;simp only[Option.map_none]at l1 l2;clear hq;go_enter func153,ntmps153;go_wp2
  go_region
  all_goals (
   go_wp2;exact bodyPost_ret (results_tmp (t:=4) rfl _ _ _) rfl ⟨fun _=>rfl,fun q hh=>(by cases hh),ah ay.o (pR w1 _)⟩)
 | some q =>
  rw[hq]at l1 l2;simp only[Option.map_some]at l1 l2;have gB:w1.grownBy (w1.alloc (.cells #[.int .i64 (q:Nat),.bool (decide (q∈own))] 265)) none:=World.grownBy_alloc w1 _ none;have twB:=gB.cell tw1 (by simp);have k1B:=gB.cell k1 (by simp);clear hq gB;generalize decide (q∈own)=bb at l1 l2 twB k1B;go_enter func153,ntmps153;go_wp2
  go_region
  all_goals (
   go_wp2_with (go_at_call 195;refine(CW.o _).mono ?_;rintro e w3 ⟨⟨v,rfl,hv⟩,hg3⟩);exact bodyPost_ret (results_tmp (t:=4) rfl _ _ _) rfl ⟨fun hh=>(by cases hh),fun q hh=>⟨v,rfl,dP.o _ _ hv⟩,ah (ah ay.o (pR w1 _)) hg3⟩)
open Go.RowKit Go.Maps Go.WideMaps Go.Joins
def KW(B T:Nat)(own:List Nat)(now:Nat)(E:Int->TypeId × Value)(r:Rs (Nat × List Tn))(w:World)(e:Ending)(w':World):Prop :=
 (∀t ns,r=.ok (t,ns)->e=.returned (.tuple #[.int .i64 (t:Nat),.nilIface])/\Tr w' B T ns own now)/\(∀c p,r=.error (c,p)->∃v,e=.returned (.tuple #[.int .i64 0,v])/\aV w' v E c p)/\Fr B w w'
theorem KX{ns:List Tn}{own:List Nat}(W:WF ns own){t q:Nat}{k:List UInt8}(h:ai ns t k=some q):q<ns.length:=W.lt _ _ (qJ h).1
theorem Tr.gb{w w':World}{B T:Nat}{ns:List Tn}{own:List Nat}{now:Nat}(h:Tr w B T ns own now)(hg:w.grownBy w' none):Tr w' B T ns own now:=by
 obtain⟨N,c,M,xs,ks,hD⟩:=h;exact⟨N,c,M,xs,ks,hD.keeps (ny hg)⟩
theorem Tr.base{w:World}{B T:Nat}{ns:List Tn}{own:List Nat}{now:Nat}(h:Tr w B T ns own now):B<=w.heap.size:=by
 obtain⟨N,c,M,xs,ks,hD⟩:=h;exact Nat.le_of_lt (Nat.lt_of_le_of_lt hD.bT (aB hD.blk))
theorem iF{w:World}{b:Nat}{v0 v1:Value}{t:TypeId}(h:w.heap[b]?=some (.cells #[v0,v1] t (0,0))):w.cell? ⟨b,0,none⟩=some v0/\w.cell? ⟨b,1,none⟩=some v1/\∀i,w.frozen? ⟨b,i,none⟩=false :=
 ⟨by rw[af h];rfl,by rw[af h];rfl,fun i=>Lib.frozen_of_heap h i⟩
theorem aaC{w:World}{b:Nat}{v0 v1 v2 v3 v4 v5:Value}{t:TypeId}(h:w.heap[b]?=some (.cells #[v0,v1,v2,v3,v4,v5] t (0,0))):w.cell? ⟨b,0,none⟩=some v0/\w.cell? ⟨b,4,none⟩=some v4 :=
 ⟨by rw[af h];rfl,by rw[af h];rfl⟩
theorem jy{w w':World}{b:Nat}{o:Obj}(h:w.heap[b]?=some o)(hg:w.grownBy w' none):w'.heap[b]?=some o:=(hg.block b (aB h) (by simp)).trans h
theorem zl{w1:World}{B T:Nat}{ns:List Tn}{now N c M:Nat}{xs:List Value}{ks:Nat->Value}{n:Nat}{own:List Nat}(hD1:TrD w1 B T ns now N c M xs ks n (hold ns own))(t:Nat)(k:List UInt8)(h0:ak ns t=0)(ht:t<4611686018427387904)(hk:k.length<=1048576)(W:World)(hW:w1.grownBy W none) :
  (Instr.lookup 127 (.map (some M)) (.agg #[.int .i64 (t:Nat),.string ⟨k.toArray⟩]) true).run prog W=.ok (match ai ns t k with|some q=>.tuple #[.agg #[.int .i64 (q:Nat),.bool (decide (q∈own))],.bool true]|none=>.tuple #[.agg #[.int .i64 0,.bool false],.bool false]) W:=by
 obtain⟨es,cc,hm0⟩:=hD1.map.map;have h1:=(hD1.map.block (hW.block M (aB hm0) (by simp))).look t k ht hk;rw[RY ns own t k h0]at h1;unfold oL at h1
 cases hq:ai ns t k with
 | none=>rw[hq]at h1;exact h1
 | some q=>rw[hq]at h1;exact h1
theorem RZ(j:Nat)(h:j<=1000000):wrap64 (j:Int)=(j:Int):=by
 unfold wrap64;omega
theorem lg(w:World):w.grownBy w.drew none:=⟨rfl,rfl,rfl,Nat.le_refl _,fun _ _ _=>rfl⟩
theorem aaD(B T:Nat)(ns:List Tn)(own:List Nat)(now t:Nat)(E:Int->TypeId × Value)(k:List UInt8)(pl:Nat)(w:World)(h:Tr w B T ns own now)(W:WF ns own)(WW:WT ns)(ht:t<ns.length)(h0:ak ns t=0)(hsz:ns.length+own.length<=1000000)(hk:k.length<=1048576)(he:Es w E) :
  Calls prog 190 #[.pointer (some ⟨T,0,none⟩),.int .i64 (t:Nat),.agg #[.string ⟨k.toArray⟩,.int .i64 (pl:Nat)]] w (KW B T own now E (fO ns t k pl) w):=by
 have CW:Hd (∀w,Calls prog 195 #[.iface (E 5).1 (E 5).2,.int .i64 (pl:Nat)] w fun e w'=>(∃v,e=.returned v/\FaultV w' v pl (E 5).1 (E 5).2)/\w.grownBy w' none):=fun w=>rV pl _ _ w
 have CA:Hd (ai ns t k=none->∀w',w.grownBy w' none->Calls prog 196 #[.pointer (some ⟨T,0,none⟩),.int .i64 (t:Nat),.int .i64 0,.agg #[.string ⟨k.toArray⟩,.int .i64 (pl:Nat)]] w' (qU B T ns own now t ⟨0,k,[],0,[],pl⟩ w')):=fun hn w' hg=>zk B T ns own now t 0 k pl w' (h.gb hg) W ht (fun _=>hn) hsz hk
 have ku:Hd (fO ns t k pl=match ai ns t k with|none=>.ok (ns.length,addN ns t ⟨0,k,[],0,[],pl⟩)|some q=>if ak ns q=0 then .ok (q,ns) else if ak ns q=2 then(match ns[q]? with|some u=>.ok (u.ks.getLastD 0,ns)|none=>.error (5,pl)) else .error (5,pl)):=rfl;have zn:Hd (∀q,ai ns t k=some q->q<ns.length):=fun q hq=>KX W hq
 have qO:Hd (∀p,(ae ns p).length<=ns.length):=W.len;have nD:Hd (Tr w B T ns own now):=h;have hB:B<=w.heap.size:=h.base;obtain⟨N,c,M,xs,ks,hD⟩:=h;have eX:w.grownBy (w.alloc (.cells #[.string ⟨k.toArray⟩,.int .i64 (pl:Nat)] 213)) none:=World.grownBy_alloc w _ none;have bZ:=heap_alloc_new w (.cells #[.string ⟨k.toArray⟩,.int .i64 (pl:Nat)] 213);obtain⟨K,jg⟩:=zN (w.heap.size);rw[jg]at bZ;have hD1:=hD.keeps (ny eX);have he1:=xY he eX;obtain⟨w1,hw1⟩:=zN (w.alloc (.cells #[.string ⟨k.toArray⟩,.int .i64 (pl:Nat)] 213));rw[hw1]at bZ hD1 eX he1;obtain⟨-,t1,-,-⟩:=hD1.cells;have k0:=(iF bZ).1;have gA:w1.grownBy (w1.alloc (.cells #[.int .i64 0,.bool false] 265)) none:=World.grownBy_alloc w1 _ none;have t1A:=gA.cell t1 (by simp);have k0A:=gA.cell k0 (by simp);have l1:=zl hD1 t k h0 (by omega) hk w1.drew (lg w1);have l2:=zl hD1 t k h0 (by omega) hk (w1.alloc (.cells #[.int .i64 0,.bool false] 265)).drew (pR w1 _)
 have ay:Hd (w.grownBy w1 none):=eX;have jZ:Hd (Es w1 E):=he1;have kY:Hd (w1.heap[K]?=some (.cells #[.string ⟨k.toArray⟩,.int .i64 (pl:Nat)] 213 (0,0))):=bZ;have HD1:Hd (TrD w1 B T ns now N c M xs ks (ns.length+own.length) (hold ns own)):=hD1;have HWW:Hd (WT ns):=WW;have dP:Hd (∀w' v,FaultV w' v pl (E 5).1 (E 5).2->aV w' v E 5 pl):=fun _ _ h=>h
 have vY:Hd (∀w',w1.grownBy w' none->w'.cell? ⟨3,0,none⟩=some (.iface (E 5).1 (E 5).2)):=fun w' hg=>(xY he1 hg).tw
 obtain⟨ty,hty⟩:=zN ((E 5).1);obtain⟨pv,hpv⟩:=zN ((E 5).2);rw[hty,hpv]at CW dP vY;obtain⟨S,hS⟩:=zN (fO ns t k pl);rw[hS]at ku ⊢;clear hD bZ hD1 eX he1 he hty hpv gA hS W WW
 cases hq:ai ns t k with
 | none =>
  have az:Hd (S=.ok (ns.length,addN ns t ⟨0,k,[],0,[],pl⟩)):=by show S=_;rw[ku.o,hq]
  have vZ:=CA.o hq;have BO:Hd (∀w',w.grownBy w' none->Calls prog 196 #[.pointer (some ⟨T,0,none⟩),.int .i64 (t:Nat),.int .i64 0,.agg #[.string ⟨k.toArray⟩,.int .i64 (pl:Nat)]] w' (qU B T ns own now t ⟨0,k,[],0,[],pl⟩ w')):=vZ;rw[hq]at l1 l2;clear hq vZ;simp only[]at l1 l2;go_enter func190,ntmps190;go_upto_region 1 with fail
  go_cut [8,9] from 11 (fun v8 v9 wx=>v9=.bool false/\w1.grownBy wx none)
  case first =>
   go_region
   all_goals (
    go_wp2_with fail;go_meet;exact⟨rfl,pR w1 _⟩)
  case rest =>
   obtain⟨rfl,hgc⟩:=hcut;have bJ:Hd (w.grownBy wc none):=ah ay.o hgc;have hbk:=jy kY.o hgc;obtain⟨kc0,kc1,-⟩:=iF hbk;clear hgc hbk t1 k0 t1A k0A l1 l2;go_wp2_with (go_at_call 196;refine(BO.o _ bJ.o).mono ?_;rintro e w3 ⟨rfl,ht3,hf3⟩);refine bodyPost_ret (results_tmp2 (t:=6) (u:=7) rfl _ _ _) rfl ?_;rw[az.o];exact⟨fun t' ns' hh=>(by cases hh;exact⟨rfl,ht3⟩),fun c p hh=>(by cases hh),(Fr.gb bJ.o hB).two hf3⟩
 | some q =>
  have dN:=zn.o q hq;obtain⟨x,hx⟩:=zN (ns[q]);have hkx:ak ns q=x.kd:=by unfold ak;rw[List.getElem?_eq_getElem dN,hx]
  have az:Hd (S=if x.kd=0 then .ok (q,ns) else if x.kd=2 then .ok (x.ks.getLastD 0,ns) else .error (5,pl)):=by
   show S=_;rw[ku.o,hq];simp only[hkx,List.getElem?_eq_getElem dN,hx]
  have zo:Hd (x.kd=2->x.ks≠[]):=fun h2=>by
   have:=(HWW.o q (hkx.trans h2)).1;unfold ae at this;rw[List.getElem?_eq_getElem dN,hx]at this;exact this
  have BP:Hd (ns[q]=x):=hx;have hxl:x.ks.length<=1000000:=by
   have:=qO.o q;unfold ae at this;rw[List.getElem?_eq_getElem dN,hx]at this;simp only[]at this;omega
  have BQ:Hd (x.ks.length<=1000000):=hxl;clear hxl;rw[hq]at l1 l2;simp only[]at l1 l2;generalize decide (q∈own)=bb at l1 l2;clear hq hx hkx;go_enter func190,ntmps190;go_upto_region 1 with fail
  go_cut [8,9] from 11 (fun v8 v9 wx=>∃H:Nat,v8=.pointer (some ⟨H,0,none⟩)/\wx.heap[H]?=some (.cells #[.int .i64 (q:Nat),.bool bb] 265 (0,0))/\v9=.bool true/\w1.grownBy wx none)
  case first =>
   go_region
   all_goals (
    go_wp2_with fail;go_meet;exact⟨_,rfl,heap_alloc_new w1 _,rfl,pR w1 _⟩)
  case rest =>
   obtain⟨H,rfl,hH,rfl,hgc⟩:=hcut;obtain⟨w2,hw2⟩:∃w2,w2=wc:=⟨_,rfl⟩;subst hw2;have HG2:Hd (w.grownBy w2 none):=ah ay.o hgc;have bJ:Hd (w1.grownBy w2 none):=hgc;have hbk:=jy kY.o hgc;have hD2:=HD1.o.keeps (ny hgc);obtain⟨T0,-,-,-⟩:=hD2.cells;obtain⟨n0,n1,n2,n3,n4,n5,-⟩:=hD2.node q dN;have hkr:=hD2.kid q dN;rw[BP.o]at n0 n1 n2 n3 n5 hkr;obtain⟨o4,m4,hv4⟩:=lL hkr;rw[hv4]at n4 hkr;obtain⟨H0,H1,-⟩:=iF hH;have Si:Hd (w2.ownsRow B 3 1 (.slice o4 x.ks.length m4) x.ks.length (x.ks.map fun q=>.int .i64 (q:Nat))):=hkr;have Bz:Hd (w2.heap[H]?=some (.cells #[.int .i64 (q:Nat),.bool bb] 265 (0,0))):=hH;have HB2:Hd (w2.heap[K]?=some (.cells #[.string ⟨k.toArray⟩,.int .i64 (pl:Nat)] 213 (0,0))):=hbk;have gZ:w2.grownBy (w2.alloc (.cells #[.int .i64 0,.string ⟨#[]⟩,.string ⟨#[]⟩,.int .i64 0,.slice none 0 0,.int .i64 0] 64)) none:=World.grownBy_alloc w2 _ none
   have T0Z:=gZ.cell T0 (by simp);have n0Z:=gZ.cell n0 (by simp);have n1Z:=gZ.cell n1 (by simp);have n2Z:=gZ.cell n2 (by simp);have n3Z:=gZ.cell n3 (by simp);have n4Z:=gZ.cell n4 (by simp);have n5Z:=gZ.cell n5 (by simp);have H0Z:=gZ.cell H0 (by simp);generalize Gn:x.ks.length=m at n4 n4Z Si;have xZ:Hd (x.ks.length=m):=Gn;clear hgc hbk hD2 hkr hv4 hH gZ Gn t1 k0 t1A k0A l1 l2;go_upto_region 4 with fail
   go_cut [10] from 29 (fun v10 wx=>∃Z:Nat,v10=.pointer (some ⟨Z,0,none⟩)/\wx.heap[Z]?=some (.cells #[.int .i64 x.kd,.string ⟨x.ky.toArray⟩,.string ⟨x.tx.toArray⟩,.int .i64 x.nu,.slice o4 m m4,.int .i64 (x.pl:Nat)] 64 (0,0))/\w2.grownBy wx none)
   case first =>
    go_region
    all_goals (
     go_wp2_with fail;go_meet;exact⟨_,rfl,heap_alloc_new w2 _,pR w2 _⟩)
   case rest =>
    obtain⟨Z,rfl,hZ,hgc⟩:=hcut;obtain⟨z0,z4⟩:=aaC hZ;have aK:Hd (w.grownBy wc none):=ah HG2.o hgc;obtain⟨H0c,-,-⟩:=iF (jy Bz.o hgc);obtain⟨-,k1c,-⟩:=iF (jy HB2.o hgc);have twc:=vY.o _ (ah bJ.o hgc);have hkr:=Si.o.kept hgc (by cases (Value.slice o4 m m4).ownBlock<;>simp);have Sj:Hd (wc.ownsRow B 3 1 (.slice o4 m m4) m (x.ks.map fun q=>.int .i64 (q:Nat))):=hkr;clear hZ hgc hkr T0 T0Z n0 n1 n2 n3 n4 n5 n0Z n1Z n2Z n3Z n4Z n5Z H0 H1 H0Z;obtain⟨z,hz⟩:=zN (x.kd);have HZ:Hd (x.kd=z):=hz;rw[hz]at z0;clear hz
    by_cases c0:z=0
    ·have hb0:(z == 0)=true:=by simp[c0]
     have HRR:Hd (S=.ok (q,ns)):=by show S=_;rw[az.o,if_pos (HZ.o.trans c0)]
     clear c0;go_wp2;refine bodyPost_ret (results_tmp2 (t:=6) (u:=7) rfl _ _ _) rfl ?_;rw[HRR.o];exact⟨fun t' ns' hh=>(by cases hh;exact⟨rfl,nD.o.gb aK.o⟩),fun c p hh=>(by cases hh),Fr.gb aK.o hB⟩
    ·have hb0:(z == 0)=false:=by simp[c0]
     by_cases c2:z=2
     ·have hb2:(z == 2)=true:=by simp[c2]
      have hkn:=zo.o (HZ.o.trans c2);have HRR:Hd (S=.ok (x.ks.getLastD 0,ns)):=by show S=_;rw[az.o,if_neg (by rw[HZ.o];exact c0),if_pos (HZ.o.trans c2)]
      obtain⟨j,hj⟩:∃j,m=j+1:=⟨m-1,by have:=xZ.o;have:=List.length_pos_iff.2 hkn;omega⟩;obtain⟨g,cap,Sl,-,-⟩:=Sj.o.form (by omega);have hlast:x.ks[j]?=some (x.ks.getLastD 0):=by
       have hl:x.ks.length=j+1:=xZ.o.trans hj;rw[List.getLastD_eq_getLast?,List.getLast?_eq_getElem?,hl];have:x.ks[j+1-1]?=some (x.ks[j]'(by omega)):=List.getElem?_eq_getElem (by omega);rw[this];exact List.getElem?_eq_getElem (by omega)
      have hcl:=Sj.o.cells (g:=g) (by rw[Sl];rfl) j (.int .i64 ((x.ks.getLastD 0:Nat):Int)) (by rw[List.getElem?_map,hlast];rfl);rw[ni]at hcl;obtain⟨la,hla⟩:=zN (x.ks.getLastD 0);rw[hla]at hcl;have HLA:Hd (x.ks.getLastD 0=la):=hla
      cases Sl
      subst hj;have hj1:j<=1000000:=by
       have h1:=BQ.o;have h2:=xZ.o;omega
      have hwj:wrap64 (j:Int)=(j:Int):=RZ j hj1;have hwk:(wrap64 (j:Int)).toNat=j:=by rw[hwj];exact Int.toNat_natCast j
      clear hj1;clear c0 c2 hkn hlast hla;go_wp2;refine bodyPost_ret (results_tmp2 (t:=6) (u:=7) rfl _ _ _) rfl ?_;rw[HRR.o,HLA.o];exact⟨fun t' ns' hh=>(by cases hh;exact⟨rfl,nD.o.gb aK.o⟩),fun c p hh=>(by cases hh),Fr.gb aK.o hB⟩
     ·have hb2:(z == 2)=false:=by simp[c2]
      have HRR:Hd (S=.error (5,pl)):=by show S=_;rw[az.o,if_neg (by rw[HZ.o];exact c0),if_neg (by rw[HZ.o];exact c2)]
      clear c0 c2;go_wp2_with (go_at_call 195;refine(CW.o _).mono ?_;rintro e w5 ⟨⟨v,rfl,hv⟩,hg5⟩);refine bodyPost_ret (results_tmp2 (t:=6) (u:=7) rfl _ _ _) rfl ?_;rw[HRR.o];exact⟨fun t' ns' hh=>(by cases hh),fun c p hh=>(by cases hh;exact⟨v,rfl,dP.o _ _ hv⟩),Fr.gb (ah aK.o hg5) hB⟩
open Go.RowKit Go.Maps Go.WideMaps Go.Joins
def zq(B T:Nat)(own:List Nat)(now:Nat)(E:Int->TypeId × Value)(r:Rs (Nat × List Tn))(w:World)(e:Ending)(w':World):Prop :=
 (∀t ns,r=.ok (t,ns)->e=.returned (.tuple #[.int .i64 (t:Nat),.nilIface])/\Tr w' B T ns (t :: own) now)/\(∀c p,r=.error (c,p)->∃v,e=.returned (.tuple #[.int .i64 0,v])/\aV w' v E c p/\∃ns0,Tr w' B T ns0 own now)/\Fr B w w'
theorem Gp{w:World}{b:Nat}{cs:Array Value}{t:TypeId}{fz:Nat × Nat}(hb:w.heap[b]?=some (.cells cs t fz))(h1:¬t=129)(h2:¬t=64)(h3:¬t=3)(o:Nat)(v:Value):Gj w (w.setCell ⟨b,o,none⟩ v) :=
 ⟨fun b' cs' t' fz' hb' ht=>heap_setCell_other _ _ _ _ (aP hb' hb (fun e=>by subst e;rcases ht with e|e|e;exact h1 e;exact h2 e;exact h3 e)),fun b' es c hb'=>heap_setCell_other _ _ _ _ (fun e=>pK hb hb' e.symm)⟩
theorem Gq{w w1:World}{B b:Nat}(h:Fr B w w1)(hB:B<=w.heap.size)(hb:w.heap.size<=b)(o:Nat)(v:Value):Fr B w (w1.setCell ⟨b,o,none⟩ v) :=
 ⟨⟨h.bel.os,h.bel.tape,h.bel.output,by have:=h.bel.size;simpa [World.setCell] using this,fun k hk=>(heap_setCell_other _ _ _ _ (by simp;omega)).trans (h.bel.block k hk)⟩,fun b' cs t fz hb' h1 h2 h3=>(heap_setCell_other _ _ _ _ (by have:=aB hb';simp;omega)).trans (h.oth b' cs t fz hb' h1 h2 h3)⟩
theorem aaE(B T:Nat)(ns:List Tn)(own:List Nat)(now t:Nat)(E:Int->TypeId × Value)(k:List UInt8)(pl:Nat)(w:World)(h:Tr w B T ns own now)(W:WF ns own)(ht:t<ns.length)(h0:ak ns t=0)(hsz:ns.length+own.length<=900000)(hk:k.length<=1048576)(he:Es w E) :
  Calls prog 192 #[.pointer (some ⟨T,0,none⟩),.int .i64 (t:Nat),.agg #[.string ⟨k.toArray⟩,.int .i64 (pl:Nat)]] w (zq B T own now E (gm ns own t k pl) w):=by
 have CW:Hd (∀w,Calls prog 195 #[.iface (E 5).1 (E 5).2,.int .i64 (pl:Nat)] w fun e w'=>(∃v,e=.returned v/\FaultV w' v pl (E 5).1 (E 5).2)/\w.grownBy w' none):=fun w=>rV pl _ _ w
 have CA:Hd (ai ns t k=none->∀w',w.grownBy w' none->Calls prog 196 #[.pointer (some ⟨T,0,none⟩),.int .i64 (t:Nat),.int .i64 0,.agg #[.string ⟨k.toArray⟩,.int .i64 (pl:Nat)]] w' (qU B T ns own now t ⟨0,k,[],0,[],pl⟩ w')):=fun hn w' hg=>zk B T ns own now t 0 k pl w' (h.gb hg) W ht (fun _=>hn) (by omega) hk
 have ku:Hd (gm ns own t k pl=match ai ns t k with|none=>.ok (ns.length,addN ns t ⟨0,k,[],0,[],pl⟩)|some q=>if ak ns q=0/\¬q∈own then .ok (q,ns) else .error (5,pl)):=rfl;have zn:Hd (∀q,ai ns t k=some q->q<ns.length):=fun q hq=>KX W hq
 have nD:Hd (Tr w B T ns own now):=h;have sH:Hd (WF ns own):=W;have hB:B<=w.heap.size:=h.base;obtain⟨N,c,M,xs,ks,hD⟩:=h;have eX:w.grownBy (w.alloc (.cells #[.string ⟨k.toArray⟩,.int .i64 (pl:Nat)] 213)) none:=World.grownBy_alloc w _ none;have bZ:=heap_alloc_new w (.cells #[.string ⟨k.toArray⟩,.int .i64 (pl:Nat)] 213);obtain⟨K,jg⟩:=zN (w.heap.size);rw[jg]at bZ;have pM:(w.alloc (.cells #[.string ⟨k.toArray⟩,.int .i64 (pl:Nat)] 213)).heap.size=K+1:=by rw[World.size_alloc,jg]
 obtain⟨wa,hwa⟩:∃w1,w.alloc (.cells #[.string ⟨k.toArray⟩,.int .i64 (pl:Nat)] 213)=w1:=⟨_,rfl⟩;rw[hwa]at bZ eX pM;have Gs:wa.grownBy (wa.alloc (.cells #[.int .i64 (t:Nat),.string ⟨k.toArray⟩] 268)) none:=World.grownBy_alloc wa _ none;have hbS:=heap_alloc_new wa (.cells #[.int .i64 (t:Nat),.string ⟨k.toArray⟩] 268);rw[pM]at hbS;obtain⟨S8,hS8⟩:=zN (K+1);rw[hS8]at hbS pM;obtain⟨w1,hw1⟩:=zN (wa.alloc (.cells #[.int .i64 (t:Nat),.string ⟨k.toArray⟩] 268));rw[hw1]at hbS Gs;have k0a:=(iF bZ).1;have Sm:=jy bZ Gs;have Gt:=ah eX Gs;have hD1:=hD.keeps (ny Gt);have he1:=xY he Gt;obtain⟨-,t1,-,-⟩:=hD1.cells;obtain⟨s0,s1,-⟩:=iF hbS;have gA:w1.grownBy (w1.alloc (.cells #[.int .i64 0,.bool false] 265)) none:=World.grownBy_alloc w1 _ none;have t1A:=gA.cell t1 (by simp);have s0A:=gA.cell s0 (by simp);have s1A:=gA.cell s1 (by simp)
 have l1:=zl hD1 t k h0 (by omega) hk w1.drew (lg w1);have l2:=zl hD1 t k h0 (by omega) hk (w1.alloc (.cells #[.int .i64 0,.bool false] 265)).drew (pR w1 _);have ay:Hd (w.grownBy w1 none):=Gt;have kY:Hd (w1.heap[K]?=some (.cells #[.string ⟨k.toArray⟩,.int .i64 (pl:Nat)] 213 (0,0))):=Sm;have FH:Hd (w1.heap[S8]?=some (.cells #[.int .i64 (t:Nat),.string ⟨k.toArray⟩] 268 (0,0))):=hbS;have HD1:Hd (TrD w1 B T ns now N c M xs ks (ns.length+own.length) (hold ns own)):=hD1;have dP:Hd (∀w' v,FaultV w' v pl (E 5).1 (E 5).2->aV w' v E 5 pl):=fun _ _ h=>h
 have vY:Hd (∀w',w1.grownBy w' none->w'.cell? ⟨3,0,none⟩=some (.iface (E 5).1 (E 5).2)):=fun w' hg=>(xY he1 hg).tw
 obtain⟨ty,hty⟩:=zN ((E 5).1);obtain⟨pv,hpv⟩:=zN ((E 5).2);rw[hty,hpv]at CW dP vY;obtain⟨S,hS⟩:=zN (gm ns own t k pl);rw[hS]at ku ⊢;clear hD bZ Sm hbS hD1 eX Gs Gt he1 he hty hpv gA hS W
 cases hq:ai ns t k with
 | none =>
  have az:Hd (S=.ok (ns.length,addN ns t ⟨0,k,[],0,[],pl⟩)):=by show S=_;rw[ku.o,hq]
  have BO:Hd (∀w',w.grownBy w' none->Calls prog 196 #[.pointer (some ⟨T,0,none⟩),.int .i64 (t:Nat),.int .i64 0,.agg #[.string ⟨k.toArray⟩,.int .i64 (pl:Nat)]] w' (qU B T ns own now t ⟨0,k,[],0,[],pl⟩ w')):=CA.o hq;have BR:Hd (WF (addN ns t ⟨0,k,[],0,[],pl⟩) own):=qK ns own t ⟨0,k,[],0,[],pl⟩ rfl ht sH.o;have x8:Hd (ak (addN ns t ⟨0,k,[],0,[],pl⟩) t=0):=by
   show _=_;rw[fA ns t ⟨0,k,[],0,[],pl⟩ ht,if_neg (by omega)];exact h0
  have jR:Hd (ai (addN ns t ⟨0,k,[],0,[],pl⟩) t k=some ns.length):=by
   show _=_;rw[JV ns own t ⟨0,k,[],0,[],pl⟩ rfl ht sH.o,if_pos rfl,hq];simp only[if_true]
  have KZ:Hd ((addN ns t ⟨0,k,[],0,[],pl⟩).length=ns.length+1):=dh _ _ _;rw[hq]at l1 l2;simp only[]at l1 l2;clear hq;go_enter func192,ntmps192;go_upto_region 2 with fail
  go_cut [9,10] from 15 (fun v9 v10 wx=>∃H:Nat,v9=.pointer (some ⟨H,0,none⟩)/\wx.heap[H]?=some (.cells #[.int .i64 0,.bool false] 265 (0,0))/\v10=.bool false/\w1.grownBy wx none/\w1.heap.size<=H)
  case first =>
   go_region
   all_goals (
    go_wp2_with fail;go_meet;exact⟨_,rfl,heap_alloc_new w1 _,rfl,pR w1 _,Nat.le_refl _⟩)
  case rest =>
   obtain⟨H,rfl,hH,rfl,hgc,hHw⟩:=hcut;have zt:Hd (w.heap.size<=H):=Nat.le_trans ay.o.size hHw;have bJ:Hd (w.grownBy wc none):=ah ay.o hgc;obtain⟨kc0,kc1,-⟩:=iF (jy kY.o hgc);have qW:Hd (wc.heap[H]?=some (.cells #[.int .i64 0,.bool false] 265 (0,0))):=hH;have HSc:Hd (wc.heap[S8]?=some (.cells #[.int .i64 (t:Nat),.string ⟨k.toArray⟩] 268 (0,0))):=jy FH.o hgc;clear hgc hH hHw t1 t1A s0 s1 s0A s1A k0a l1 l2;go_wp2_with (go_at_call 196;refine(BO.o _ bJ.o).mono ?_;rintro e w3 ⟨rfl,ht3,hf3⟩;obtain⟨hh0,hh1,sJ⟩:=iF ((hf3.oth _ _ _ _ qW.o (by decide) (by decide) (by decide)).trans qW.o);have Sr:=sJ 0);obtain⟨N',c',M',xs',ks',hD3⟩:=ht3;have hH3:=(hf3.oth _ _ _ _ qW.o (by decide) (by decide) (by decide)).trans qW.o;have hS3:=(hf3.oth _ _ _ _ HSc.o (by decide) (by decide) (by decide)).trans HSc.o;have Gu:(w3.setCell ⟨H,0,none⟩ (.int .i64 (ns.length:Nat))).heap[H]?=some (.cells #[.int .i64 (ns.length:Nat),.bool false] 265 (0,0)):=block_setCell (i:=0) hH3 _
   have hS4:=(heap_setCell_other w3 ⟨H,0,none⟩ S8 (.int .i64 (ns.length:Nat)) (aP hS3 hH3 (by decide))).trans hS3;have hH7:((w3.setCell ⟨H,0,none⟩ (.int .i64 (ns.length:Nat))).setCell ⟨H,1,none⟩ (.bool true)).heap[H]?=some (.cells #[.int .i64 (ns.length:Nat),.bool true] 265 (0,0)):=block_setCell (i:=1) Gu _;have hS7:=(heap_setCell_other (w3.setCell ⟨H,0,none⟩ (.int .i64 (ns.length:Nat))) ⟨H,1,none⟩ S8 (.bool true) (aP hS4 Gu (by decide))).trans hS4;have hD7:=(hD3.keeps (Gp hH3 (by decide) (by decide) (by decide) 0 (.int .i64 (ns.length:Nat)))).keeps (Gp Gu (by decide) (by decide) (by decide) 1 (.bool true));have x9:=Gq (Gq ((Fr.gb bJ.o hB).two hf3) hB zt.o 0 (.int .i64 (ns.length:Nat))) hB zt.o 1 (.bool true);have hln:=KZ.o;clear hD3 hH3 hS3 Gu hS4 hf3 hh0 hh1 sJ Sr;obtain⟨w7,hw7⟩:=zN ((w3.setCell ⟨H,0,none⟩ (.int .i64 (ns.length:Nat))).setCell ⟨H,1,none⟩ (.bool true))
   rw[hw7]at hD7 hH7 hS7 x9 ⊢;obtain⟨w8,zu,BU,nP⟩:=(hD7.map.block (w':=w7.drew) rfl).put t k (by omega) hk (by omega) ns.length true;unfold oL at zu;obtain⟨es,cc,hm0⟩:=hD7.map.map;have BV:B<=w7.heap.size:=Nat.le_of_lt (Nat.lt_of_le_of_lt hD7.bT (aB hD7.blk));have BX:w8.heap[H]?=some (.cells #[.int .i64 (ns.length:Nat),.bool true] 265 (0,0)):=(nP.block H (aB (w:=w7.drew) hH7) (by simp only[ne_eq,Option.some.injEq];exact pK hH7 hm0)).trans hH7;obtain⟨-,t17,-,-⟩:=hD7.cells;obtain⟨s0,s1,-⟩:=iF hS7;obtain⟨g0,g1,-⟩:=iF hH7;obtain⟨q0,-,-⟩:=iF BX;have La:Hd (Tr w8 B T (addN ns t ⟨0,k,[],0,[],pl⟩) (ns.length :: own) now):=by
    refine⟨N',c',M',xs',ks',?_⟩;rw[Qq (addN ns t ⟨0,k,[],0,[],pl⟩) own BR.o t ns.length k x8.o jR.o];have e:=(hD7.keeps (w':=w7.drew) (ny (lg w7))).mapd BU nP;exact⟨e.blk,e.bT,e.row,e.cel,e.kid,e.apart,e.map.mono (by simp;omega),e.bM⟩
   have kN:Hd (Fr B w w8):=(x9.two (Fr.gb (lg w7) BV)).two (Fr.mapd nP BV hD7.bM hm0);clear hD7 hH7 hS7 x9 BU nP hm0 BX hw7
   go_region
   all_goals (
    go_wp2;refine bodyPost_ret (results_tmp2 (t:=6) (u:=7) rfl _ _ _) rfl ?_;rw[az.o];exact⟨fun t' ns' hh=>(by cases hh;exact⟨rfl,La.o⟩),fun c p hh=>(by cases hh),kN.o⟩)
 | some q =>
  have dN:=zn.o q hq;have BR:Hd (WF ns own):=sH.o;have x8:Hd (ak ns t=0):=h0;have jR:Hd (ai ns t k=some q):=hq;obtain⟨x,hx⟩:=zN (ns[q]);have hkx:ak ns q=x.kd:=by unfold ak;rw[List.getElem?_eq_getElem dN,hx]
  have dZ:Hd (S=if x.kd=0/\¬decide (q∈own)=true then .ok (q,ns) else .error (5,pl)):=by
   show S=_;rw[ku.o,hq];simp only[hkx,decide_eq_true_eq]
  have BP:Hd (ns[q]=x):=hx;rw[hq]at l1 l2;simp only[]at l1 l2;generalize decide (q∈own)=bb at l1 l2 dZ;clear hq hx hkx;go_enter func192,ntmps192;go_upto_region 2 with fail
  go_cut [9,10] from 15 (fun v9 v10 wx=>∃H:Nat,v9=.pointer (some ⟨H,0,none⟩)/\wx.heap[H]?=some (.cells #[.int .i64 (q:Nat),.bool bb] 265 (0,0))/\v10=.bool true/\w1.grownBy wx none/\w1.heap.size<=H)
  case first =>
   go_region
   all_goals (
    go_wp2_with fail;go_meet;exact⟨_,rfl,heap_alloc_new w1 _,rfl,pR w1 _,Nat.le_refl _⟩)
  case rest =>
   obtain⟨H,rfl,hH,rfl,hgc,hHw⟩:=hcut;have zt:Hd (w.heap.size<=H):=Nat.le_trans ay.o.size hHw;have bJ:Hd (w.grownBy wc none):=ah ay.o hgc;obtain⟨kc0,kc1,-⟩:=iF (jy kY.o hgc);have qW:Hd (wc.heap[H]?=some (.cells #[.int .i64 (q:Nat),.bool bb] 265 (0,0))):=hH;have HSc:Hd (wc.heap[S8]?=some (.cells #[.int .i64 (t:Nat),.string ⟨k.toArray⟩] 268 (0,0))):=jy FH.o hgc;have hDc:=HD1.o.keeps (ny hgc);have HDc:Hd (TrD wc B T ns now N c M xs ks (ns.length+own.length) (hold ns own)):=hDc;obtain⟨hh0,hh1,sJ⟩:=iF hH;have aaF:=sJ 1;obtain⟨T0,-,-,-⟩:=hDc.cells;obtain⟨n0,-,-,-,-,-,-⟩:=hDc.node q dN;rw[BP.o]at n0;have twc:=vY.o _ hgc;obtain⟨z,hz⟩:=zN (x.kd);rw[hz]at n0 dZ;clear hgc hH hHw hDc sJ hz t1 t1A s0 s1 s0A s1A k0a l1 l2
   by_cases hok:z=0/\¬bb=true
   ·have az:Hd (S=.ok (q,ns)):=by show S=_;rw[dZ.o,if_pos hok]
    have hbb:bb=false:=by simpa using hok.2
    have hzb:(z != 0)=false:=by simp[hok.1]
    subst hbb;clear hok;go_upto_region 5 with fail
    go_quiet (fail);go_upto_region 8 with fail
    have hH7:((wc.drewN nq).setCell ⟨H,1,none⟩ (.bool true)).heap[H]?=some (.cells #[.int .i64 (q:Nat),.bool true] 265 (0,0)):=block_setCell (i:=1) (w:=wc.drewN nq) qW.o _;have hS7:=(heap_setCell_other (wc.drewN nq) ⟨H,1,none⟩ S8 (.bool true) (aP HSc.o qW.o (by decide))).trans HSc.o;have hgn:wc.grownBy (wc.drewN nq) none:=aj (ax wc none) nq;have hD7:=(HDc.o.keeps (ny hgn)).keeps (Gp (w:=wc.drewN nq) qW.o (by decide) (by decide) (by decide) 1 (.bool true));have x9:=Gq ((Fr.gb bJ.o hB).two (Fr.gb hgn (Nat.le_trans hB bJ.o.size))) hB zt.o 1 (.bool true);clear hgn hh0 hh1 aaF T0 n0 twc kc0 kc1;obtain⟨w7,hw7⟩:=zN ((wc.drewN nq).setCell ⟨H,1,none⟩ (.bool true));rw[hw7]at hD7 hH7 hS7 x9 ⊢;obtain⟨w8,zu,BU,nP⟩:=(hD7.map.block (w':=w7.drew) rfl).put t k (by omega) hk (by omega) q true;unfold oL at zu;obtain⟨es,cc,hm0⟩:=hD7.map.map
    have BV:B<=w7.heap.size:=Nat.le_of_lt (Nat.lt_of_le_of_lt hD7.bT (aB hD7.blk));have BX:w8.heap[H]?=some (.cells #[.int .i64 (q:Nat),.bool true] 265 (0,0)):=(nP.block H (aB (w:=w7.drew) hH7) (by simp only[ne_eq,Option.some.injEq];exact pK hH7 hm0)).trans hH7;obtain⟨-,t17,-,-⟩:=hD7.cells;obtain⟨s0,s1,-⟩:=iF hS7;obtain⟨g0,g1,-⟩:=iF hH7;obtain⟨q0,-,-⟩:=iF BX;have La:Hd (Tr w8 B T ns (q :: own) now):=by
     refine⟨N,c,M,xs,ks,?_⟩;rw[Qq ns own BR.o t q k x8.o jR.o];have e:=(hD7.keeps (w':=w7.drew) (ny (lg w7))).mapd BU nP;exact⟨e.blk,e.bT,e.row,e.cel,e.kid,e.apart,e.map.mono (by simp;omega),e.bM⟩
    have kN:Hd (Fr B w w8):=(x9.two (Fr.gb (lg w7) BV)).two (Fr.mapd nP BV hD7.bM hm0);clear hD7 hH7 hS7 x9 BU nP hm0 BX hw7
    go_region
    all_goals (
     go_wp2;refine bodyPost_ret (results_tmp2 (t:=6) (u:=7) rfl _ _ _) rfl ?_;rw[az.o];exact⟨fun t' ns' hh=>(by cases hh;exact⟨rfl,La.o⟩),fun c p hh=>(by cases hh),kN.o⟩)
   ·have az:Hd (S=.error (5,pl)):=by show S=_;rw[dZ.o,if_neg hok]
    have hcase:bb=true\/(bb=false/\(z != 0)=true):=by
     cases bb with
     | true=>exact Or.inl rfl
     | false=>exact Or.inr ⟨rfl,by simp at hok;simp[hok]⟩
    clear hok;go_upto_region 5 with fail
    rcases hcase with rfl|⟨rfl,hzb⟩
    all_goals (
     go_quiet (fail);go_wp2_with (go_at_call 195;refine(CW.o _).mono ?_;rintro e w5 ⟨⟨v,rfl,hv⟩,hg5⟩);refine bodyPost_ret (results_tmp2 (t:=6) (u:=7) rfl _ _ _) rfl ?_;rw[az.o];exact⟨fun t' ns' hh=>(by cases hh),fun c p hh=>(by cases hh;exact⟨v,rfl,dP.o _ _ hv,ns,nD.o.gb (ah (aj bJ.o _) hg5)⟩),Fr.gb (ah (aj bJ.o _) hg5) hB⟩)
end Go.Proofs.YtnnbgjaphfhibaaGreatDoor
