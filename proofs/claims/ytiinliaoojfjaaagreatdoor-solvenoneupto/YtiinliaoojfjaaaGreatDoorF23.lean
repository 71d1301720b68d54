import Derived.Test.YtiinliaoojfjaaaGreatDoorF16
import Derived.Test.YtiinliaoojfjaaaGreatDoorF07
import Derived.Test.YtiinliaoojfjaaaGreatDoorF05
import Derived.Test.YtiinliaoojfjaaaGreatDoorF18
import Derived.Lib.AppendZerosOnto
set_option linter.all false
set_option maxRecDepth 100000
set_option maxHeartbeats 0
open Go.Proofs.Tryz
namespace Go.Proofs.YtiinliaoojfjaaaGreatDoor
open Go.RowKit Go.Maps Go.WideMaps Go.Joins Go.Shelf Go.Sort
def cT(a b:ByteArray):Int:=Lib.compareBytes a.data.toList b.data.toList
theorem uB:Good cT:=rC Qs (fun a:ByteArray=>a.data.toList)
theorem aek{α:Type}(f:α->ByteArray):SWO (ltOf fun x y=>cT (f x) (f y)) where
 irrefl x:=decide_eq_false (show ¬cT (f x) (f x)<0 by rw[uB.self];omega)
 trans x y z h1 h2:=by
  have a1:cT (f x) (f y)<0:=of_decide_eq_true h1;have a2:cT (f y) (f z)<0:=of_decide_eq_true h2;refine decide_eq_true (show cT (f x) (f z)<0 from ?_);have t:=uB.trans (f x) (f y) (f z) (by omega) (by omega)
  by_cases h0:cT (f x) (f z)=0
  ·have:=t.2.2 h0;omega
  ·have:=t.1;omega
 ntrans x y z h1 h2:=by
  have a1:¬cT (f x) (f y)<0:=of_decide_eq_false h1;have a2:¬cT (f y) (f z)<0:=of_decide_eq_false h2;refine decide_eq_false (show ¬cT (f x) (f z)<0 from ?_);have t:=uB.trans (f z) (f y) (f x) (by have:=uB.anti (f y) (f z);omega) (by have:=uB.anti (f x) (f y);omega);have:=uB.anti (f x) (f z);omega
theorem MW(s:ByteArray)(w:World):Calls prog 103 #[.string s] w fun e w'=>e=.returned (.bool false)/\w'=w:=by
 go_enter func103,ntmps103;go_wp2;go_ret;exact⟨rfl,rfl⟩
theorem ael(a b:ByteArray)(w:World):Calls prog 64 #[.string a,.string b] w fun e w'=>e=.returned (.int .i64 (cT a b))/\w'=w:=by
 unfold cT
 cases h1:Op.bytesLess a.toList b.toList with
 | true =>
  rw[Ei h1];go_enter func64,ntmps64;go_wp2_with (go_at_call 103;refine(MW _ _).mono ?_;rintro e w' ⟨rfl,rfl⟩);go_ret;exact⟨rfl,rfl⟩
 | false =>
  cases h2:(!a.toList == b.toList) with
  | true =>
   rw[G8 h1 h2];go_enter func64,ntmps64;go_wp2_with (go_at_call 103;refine(MW _ _).mono ?_;rintro e w' ⟨rfl,rfl⟩);go_ret;exact⟨rfl,rfl⟩
  | false =>
   rw[G9 h2];go_enter func64,ntmps64;go_wp2_with (go_at_call 103;refine(MW _ _).mono ?_;rintro e w' ⟨rfl,rfl⟩);go_ret;exact⟨rfl,rfl⟩
theorem x9(b k:Nat):(⟨b,0,none⟩:Addr).add k=⟨b,k,none⟩:=by
 unfold Addr.add;split
 ·rename_i h;rw[h]
 ·simp
theorem aem(W:World)(bx:Nat)(o:Option Addr)(c a b:Nat)(L:List Re)(hbx:W.cell? ⟨bx,0,none⟩=some (.slice o L.length c))(h:ReS W (.slice o L.length c) L)(ha:a<L.length)(hb:b<L.length)(hn:L.length<=1000000) :
  Calls prog 63 #[.int .i64 (a:Nat),.int .i64 (b:Nat),.pointer (some ⟨bx,0,none⟩)] W fun e w'=>e=.returned (.int .i64 (cT L[a].nm L[b].nm))/\∃q,w'=W.drewN q:=by
 obtain⟨ad,rfl,hc,hat⟩:=lq h ha;obtain⟨e0,-⟩:=hat a ha;obtain⟨f0,-⟩:=hat b hb;obtain⟨ka,hka⟩:=zN (L[a].nm);obtain⟨kb,hkb⟩:=zN (L[b].nm);rw[hka]at e0 ⊢;rw[hkb]at f0 ⊢;have CC:=ae (ael ka kb);obtain⟨z,hz⟩:=zN (cT ka kb);rw[hz]at CC ⊢;have hai:a<c:=by omega
 have hbi:b<c:=by omega
 clear hz h hat hka hkb;go_enter func63,ntmps63;go_wp2;go_quiet (first|(go_at_call 64;exact Calls.quiet_of_same (CC.o _)));go_wp2;go_ret;exact⟨rfl,_,rfl⟩
theorem aen(ve:Value)(E:List Nat)(base n bx:Nat)(w:World)(f:Nat->ByteArray)(hown:w.ownsRow base 3 1 ve E.length (E.map fun q=>.int .i64 (q:Nat)))(hlen:E.length<=1000000)(hE:∀q∈E,q<n+1)
  (hC:0<E.length->∀W:World,(∀a:Addr,ve.ownBlock≠some a.block->a.block<w.heap.size->W.cell? a=w.cell? a)->∀x y:Fin (n+1),Calls prog 63 #[.int .i64 (x.val:Nat),.int .i64 (y.val:Nat),.pointer (some ⟨bx,0,none⟩)] W fun e w'=>e=.returned (.int .i64 (cT (f x.val) (f y.val)))/\∃q,w'=W.drewN q) :
  Calls prog 101 #[ve,.func (.func 63) #[] #[.pointer (some ⟨bx,0,none⟩)]] w fun e w'=>e=.returned (.tuple #[])/\∃E':List Nat,E'.Perm E/\(E'.Pairwise fun a b=>cT (f a) (f b)<=0)/\w'.ownsRow base 3 1 ve E'.length (E'.map fun q=>.int .i64 (q:Nat))/\w.grownBy w' ve.ownBlock:=by
 obtain⟨D,hD⟩:∃D:Array (Fin (n+1)),D.toList.map (·.val)=E:=⟨(E.attach.map fun e=>(⟨e.1,hE e.1 e.2⟩:Fin (n+1))).toArray,by simp⟩;have hDs:D.size=E.length:=by rw[<-hD];simp
 have hown':=hown
 by_cases h0:E.length=0
 ·obtain⟨o,c,rfl⟩:=mY hown;have hE0:=List.eq_nil_of_length_eq_zero h0;subst hE0;refine(show Calls prog 101 #[.slice o 0 c,.func (.func 63) #[] #[.pointer (some ⟨bx,0,none⟩)]] w _ from AnyF.slices_SortFunc_none { Tryz.laysSortI with } o c (.func (.func 63) #[] #[.pointer (some ⟨bx,0,none⟩)]) w).mono ?_;rintro e w' ⟨rfl,rfl⟩;exact⟨rfl,[],List.Perm.refl _,List.Pairwise.nil,hown',⟨rfl,rfl,rfl,Nat.le_refl _,fun _ _ _=>rfl⟩⟩
 rcases hown.2 with⟨rfl,h1⟩|⟨g,cap,cur,rfl,hb,hg,hn,hm,hs,ht⟩
 ·exact absurd h1 h0
 ·have hgl:=(aC hg);have hH:Holds (fun x:Fin (n+1)=>Value.int .i64 (x.val:Nat)) w g 0 D:=by
   intro j hj;refine⟨?_,Lib.frozen_of_heap hg _⟩;have hjE:j<E.length:=by omega
   have h1:=hown.cells (g:=g) rfl j (.int .i64 (E[j]:Nat)) (by rw[List.getElem?_map,List.getElem?_eq_getElem hjE];rfl);rw[x9]at h1;rw[Nat.zero_add,h1,getElem!_pos D j hj];have e:E[j]=D[j].val:=by
    subst hD;simp
   rw[e]
  have hcmp:CmpLays1 prog 63 #[.pointer (some ⟨bx,0,none⟩)] (fun x:Fin (n+1)=>Value.int .i64 (x.val:Nat)) (fun x y=>cT (f x.val) (f y.val)) g 0 D.size w:=by
   intro m os dk hdk x y;refine(hC (by omega) _ (fun a h1 h2=>World.cell?_of_block (by
    show((w.heap.modify g _)++os)[a.block]?=_;rw[Array.getElem?_append_left (by simpa using h2),Array.getElem?_modify,if_neg (fun e=>h1 (by rw[<-e];rfl))])) x y).mono ?_
   rintro e w' ⟨rfl,q,rfl⟩;exact⟨rfl,q,#[],by rw[grow_empty]⟩
  have eg:∀args w,(callFunc 63 args).run prog w=.ok (.enter 63 args) w:=enters_of func63 (by kernel_rfl) rfl;rw[<-hDs];refine(show Calls prog 101 #[.slice (some ⟨g,0,none⟩) D.size cap,.func (.func 63) #[] #[.pointer (some ⟨bx,0,none⟩)]] w _ from Any.slices_SortFunc Tryz.laysSortI (fun x:Fin (n+1)=>Value.int .i64 (x.val:Nat)) (fun x=>rfl) (fun x y=>cT (f x.val) (f y.val)) (aek fun x:Fin (n+1)=>f x.val) 63 #[.pointer (some ⟨bx,0,none⟩)] g 0 cap D w eg hcmp hH hgl (by omega)).mono ?_;rintro e w' ⟨rfl,d',m,os,hperm,hsort,hw'⟩;have hds:=hperm.1;have hheap:w'.heap=(w.heap.modify g (onCells (putCells (fun x:Fin (n+1)=>Value.int .i64 (x.val:Nat)) 0 d')))++os:=by rw[hw'];rfl
  have hg':w'.heap[g]?=some (.cells (putCells (fun x:Fin (n+1)=>Value.int .i64 (x.val:Nat)) 0 d' cur) 3):=by
   rw[hheap,Array.getElem?_append_left (by simpa using hgl),Array.getElem?_modify,if_pos rfl,hg];rfl
  have hcs:D.size<=cur.size:=by rw[hs,hDs];omega
  refine⟨rfl,d'.toList.map (·.val),?_,?_,⟨?_,.inr ⟨g,cap,_,?_,hb,hg',?_,hm,?_,?_⟩⟩,?_⟩
  ·rw[<-hD];apply List.Perm.map;have:=hperm.2.2;rw[Array.extract_size]at this;rw[show d'.extract 0 D.size=d' by rw[<-hds,Array.extract_size]]at this;exact this
  ·rw[List.pairwise_iff_getElem];intro i j hi hj hij;simp only[List.length_map,Array.length_toList]at hi hj;have:=hsort i j (Nat.zero_le _) hij (by omega);rw[getElem!_pos d' j hj,getElem!_pos d' i hi]at this;have h3:¬cT (f d'[j].val) (f d'[i].val)<0:=of_decide_eq_false this;simp only[List.getElem_map,Array.getElem_toList];have:=uB.anti (f d'[i].val) (f d'[j].val);omega
  ·simp
  ·simp[hds]
  ·simp[hds];omega
  ·simp[putCells,hs]
  ·rw[show(d'.toList.map (·.val)).length=D.size by simp[hds]];apply List.ext_getElem?;intro j
   by_cases hj:j<D.size
   ·rw[List.getElem?_take_of_lt (by omega),Array.getElem?_toList];rw[putCells,Array.getElem?_mapIdx,Array.getElem?_eq_getElem (show j<cur.size by omega)];rw[Option.map_some,if_pos ⟨Nat.zero_le _,by omega⟩,Nat.sub_zero,getElem!_pos d' j (by omega)];simp[hds,hj]
   ·rw[List.getElem?_eq_none (by simp;omega),List.getElem?_eq_none (by simp;omega)]
  ·refine⟨by rw[hw'];rfl,by rw[hw'];rfl,by rw[hw'];rfl,?_,?_⟩
   ·rw[hheap];simp
   ·intro k hk hne;have hkg:g≠k:=by
     intro h;subst h;exact hne rfl
    rw[hheap,Array.getElem?_append_left (by simpa using hk),Array.getElem?_modify,if_neg hkg]
theorem aeo(bm:Nat)(o:Option Addr)(c:Nat)(L:List Int)(hL:L.length<=1048576)(w:World)(hbm:w.heap[bm]?=some (.cells #[.slice o L.length c] 31 (0,0)))(htx:IS w (.slice o L.length c) L) :
  Calls prog 125 #[.slice none 0 0,.func (.func 102) #[] #[.pointer (some ⟨bm,0,none⟩)]] w fun e w'=>∃v,e=.returned v/\w'.ownsRow w.heap.size 3 1 v L.length (L.map (Value.int .i64))/\Below w.heap.size w w':=callsIn_wide.1 (acP bm o c L hL w hbm htx)
theorem aep(bm:Nat)(o:Option Addr)(c:Nat)(L:List Int)(hL:L.length<=1048576)(w:World)(hbm:w.heap[bm]?=some (.cells #[.slice o L.length c] 31 (0,0)))(htx:IS w (.slice o L.length c) L) :
  Calls prog 100 #[.func (.func 102) #[] #[.pointer (some ⟨bm,0,none⟩)]] w fun e w'=>∃o c,e=.returned (.slice o L.length c)/\w'.ownsRow w.heap.size 3 1 (.slice o L.length c) L.length (L.map (Value.int .i64))/\w.grownBy w' none:=by
 have CA:Hd (Calls prog 125 #[.slice none 0 0,.func (.func 102) #[] #[.pointer (some ⟨bm,0,none⟩)]] w fun e w'=>∃o c,e=.returned (.slice o L.length c)/\w'.ownsRow w.heap.size 3 1 (.slice o L.length c) L.length (L.map (Value.int .i64))/\w.grownBy w' none):=(aeo bm o c L hL w hbm htx).mono fun e w' ⟨v,h1,h2,h3⟩=>by
  obtain⟨o,c,rfl⟩:=mY h2;exact⟨o,c,h1,h2,gz h3⟩
 clear hbm htx;go_enter func100,ntmps100;go_wp2_with (go_at_call 125;refine CA.o.mono ?_);rintro e w1 ⟨o1,c1,rfl,h2,h3⟩;go_wp2;go_ret;exact⟨o1,c1,rfl,h2,h3⟩
def Vb(L:List Re)(ch:List Nat)(w:World)(e:Ending)(w':World):Prop:=∃(E:List Nat) (o:Option Addr) (c:Nat),e=.returned (.slice o E.length c)/\E.Perm ch/\(E.Pairwise fun a b=>cT (aF L a) (aF L b)<=0)/\w'.ownsRow w.heap.size 3 1 (.slice o E.length c) E.length (E.map fun(k:Nat)=>Value.int .i64 (k:Int))/\w.grownBy w' none
theorem MX{w:World}{b b':Nat}{e:TypeId}{size:Nat}{v:Value}{n:Nat}{xs:List Value}(h:w.ownsRow b e size v n xs)(hb:b'<=b):w.ownsRow b' e size v n xs:=by
 refine⟨h.1,?_⟩
 rcases h.2 with h|⟨g,cap,cur,h1,h2,h3⟩
 ·exact Or.inl h
 ·exact Or.inr ⟨g,cap,cur,h1,Nat.le_trans hb h2,h3⟩
theorem aeq{w w':World}{v:Value}{L:List Re}(h:ReS w v L)(hc:∀(a:Addr) u,w.cell? a=some u->w'.cell? a=some u):ReS w' v L:=by
 rcases h with h|⟨a,cap,h1,h2,h3⟩
 ·exact Or.inl h
 ·refine Or.inr ⟨a,cap,h1,h2,fun i hi=>?_⟩;obtain⟨e0,e1,⟨x,e2,e3⟩,e4⟩:=h3 i hi;refine⟨hc _ _ e0,hc _ _ e1,⟨x,hc _ _ e2,?_⟩,hc _ _ e4⟩
  rcases e3 with e3|⟨b,c2,g1,g2,g3⟩
  ·exact Or.inl e3
  ·exact Or.inr ⟨b,c2,g1,g2,fun j hj=>⟨hc _ _ (g3 j hj).1,hc _ _ (g3 j hj).2⟩⟩
theorem Vd{w:World}{B:Nat}{v:Value}{cs:List Int}(h:w.ownsRow B 3 1 v cs.length (cs.map (Value.int .i64))):IS w v cs:=by
 obtain⟨o,c,rfl⟩:=mY h
 rcases h.2 with⟨e1,e2⟩|⟨g,cap,cur,e1,hb,hg,hn,-⟩
 ·obtain rfl:=List.eq_nil_of_length_eq_zero e2;exact Or.inl ⟨e1,rfl⟩
 ·exact Or.inr ⟨⟨g,0,none⟩,cap,e1,hn,fun j hj=>h.cells (g:=g) (by rw[e1];rfl) j (.int .i64 cs[j]) (by rw[List.getElem?_map,List.getElem?_eq_getElem hj];rfl)⟩
theorem aer{w:World}{B:Nat}{v:Value}{ch:List Nat}(h:w.ownsRow B 3 1 v ch.length (ch.map fun(j:Nat)=>Value.int .i64 (j:Int))):IS w v (ch.map fun(k:Nat)=>(k:Int)) :=
 Vd (B:=B) (by rw[List.length_map,List.map_map];exact h)
theorem aes(bm bx:Nat)(o:Option Addr)(c:Nat)(ro:Option Addr)(rc:Nat)(L:List Re)(ch:List Nat)(w:World)(hbm:w.heap[bm]?=some (.cells #[.slice o ch.length c] 31 (0,0)))(htx:IS w (.slice o ch.length c) (ch.map fun(k:Nat)=>(k:Int)))(hbx:w.cell? ⟨bx,0,none⟩=some (.slice ro L.length rc))(hr:ReS w (.slice ro L.length rc) L)(hL:L.length<=1000)(hch:ch.length<=1000)(hlt:∀k∈ch,k<L.length) :
  Calls prog 61 #[.func (.func 102) #[] #[.pointer (some ⟨bm,0,none⟩)],.func (.func 63) #[] #[.pointer (some ⟨bx,0,none⟩)]] w (Vb L ch w):=by
 have hln:(ch.map fun(k:Nat)=>(k:Int)).length=ch.length:=by simp
 have HC:Hd (Calls prog 100 #[.func (.func 102) #[] #[.pointer (some ⟨bm,0,none⟩)]] w fun e w'=>∃o c,e=.returned (.slice o ch.length c)/\w'.ownsRow w.heap.size 3 1 (.slice o ch.length c) ch.length (ch.map fun q=>.int .i64 (q:Nat))/\w.grownBy w' none):=by
  have:=aep bm o c (ch.map fun(k:Nat)=>(k:Int)) (by omega) w (by rw[hln];exact hbm) (by rw[hln];exact htx);rw[hln,List.map_map]at this;exact this
 have CS:Hd (∀o1 c1 w1,w.grownBy w1 none->w1.ownsRow w.heap.size 3 1 (.slice o1 ch.length c1) ch.length (ch.map fun q=>.int .i64 (q:Nat))->Calls prog 101 #[.slice o1 ch.length c1,.func (.func 63) #[] #[.pointer (some ⟨bx,0,none⟩)]] w1 fun e w'=>e=.returned (.tuple #[])/\∃E':List Nat,E'.Perm ch/\(E'.Pairwise fun a b=>cT (aF L a) (aF L b)<=0)/\w'.ownsRow w.heap.size 3 1 (.slice o1 ch.length c1) E'.length (E'.map fun q=>.int .i64 (q:Nat))/\w1.grownBy w' (Value.slice o1 ch.length c1).ownBlock):=fun o1 c1 w1 hg1 hown=>by
  refine aen (.slice o1 ch.length c1) ch w.heap.size (L.length-1) bx w1 (aF L) hown (by omega) (fun q hq=>by have:=hlt q hq;omega) fun h0 W' hW x y=>?_
  have hL0:0<L.length:=by
   cases ch with
   | nil=>simp at h0
   | cons a r=>have:=hlt a (by simp);omega
  have cell:∀(a:Addr) u,w.cell? a=some u->W'.cell? a=some u:=fun a u hu=>by
   have hlt:=qP hu;rw[hW a (fun e=>by have:=(hown.lt _ e).1;omega) (Nat.lt_of_lt_of_le hlt hg1.size)];exact hg1.cell hu (by simp)
  have hx:x.val<L.length:=by have:=x.isLt;omega
  have hy:y.val<L.length:=by have:=y.isLt;omega
  have:=aem W' bx ro rc x.val y.val L (cell _ _ hbx) (aeq hr cell) hx hy (by omega);rw[mX L _ hx,mX L _ hy];exact this
 clear hbm htx hbx hr hln;go_enter func61,ntmps61;go_wp2_with (go_at_call 100;refine HC.o.mono ?_);rintro e w1 ⟨o1,c1,rfl,hown,hb⟩;have HB:=ae hb;have C2:=ae (CS.o o1 c1 w1 hb hown);have gp:=ae (fun q (hq:(Value.slice o1 ch.length c1).ownBlock=some q)=>(hown.lt q hq).1);clear hown hb;go_wp2_with (go_at_call 101;refine C2.o.mono ?_);rintro e w2 ⟨rfl,E',hp,hr,hown2,hg2⟩;go_wp2;refine bodyPost_ret (results_tmp (t:=4) rfl _ _ _) rfl ⟨E',o1,c1,by rw[hp.length_eq];rfl,hp,hr,by rw[hp.length_eq]at hown2 ⊢;exact hown2,?_⟩;exact⟨hg2.os.trans HB.o.os,hg2.tape.trans HB.o.tape,hg2.output.trans HB.o.output,Nat.le_trans HB.o.size hg2.size,fun k hk hn=>(hg2.block k (Nat.lt_of_lt_of_le hk HB.o.size) (fun e=>by have:=gp.o k e.symm;omega)).trans (HB.o.block k hk hn)⟩
theorem aet(S:Nat)(pv nv cm rv im cv:Value)(f:Int)(A D B:Nat)(ro:Option Addr)(rc:Nat)(L:List Re)(ch:List Nat)(w:World)(h:Sb w S pv nv cm rv im cv f A D)(hc:w.ownsRow B 3 1 cv ch.length (ch.map fun(j:Nat)=>Value.int .i64 (j:Int)))(hr:ReS w (.slice ro L.length rc) L)(hL:L.length<=1000)(hch:ch.length<=1000)(hlt:∀k∈ch,k<L.length) :
  Calls prog 30 #[.pointer (some ⟨S,0,none⟩),.slice ro L.length rc] w (Vb L ch w):=by
 obtain⟨o,c,rfl⟩:=mY hc;obtain⟨-,⟨-,-,c6⟩,-⟩:=h.cells;obtain⟨W1,hW1⟩:=zN (w.alloc (.cells #[.slice ro L.length rc] 27));have hg1:w.grownBy W1 none:=by rw[<-hW1];exact ak (ai w none) _
 have hb1:W1.heap[w.heap.size]?=some (.cells #[.slice ro L.length rc] 27 (0,0)):=by rw[<-hW1];exact heap_alloc_new w _
 obtain⟨W2,hW2⟩:=zN (W1.alloc (.cells #[.slice o ch.length c] 31));have hg2:W1.grownBy W2 none:=by rw[<-hW2];exact ak (ai W1 none) _
 have hb2:W2.heap[W1.heap.size]?=some (.cells #[.slice o ch.length c] 31 (0,0)):=by rw[<-hW2];exact heap_alloc_new W1 _
 have hg:=ag hg1 hg2;have CF:Hd (Calls prog 61 #[.func (.func 102) #[] #[.pointer (some ⟨W1.heap.size,0,none⟩)],.func (.func 63) #[] #[.pointer (some ⟨w.heap.size,0,none⟩)]] W2 fun e w'=>∃(E:List Nat) (o:Option Addr) (c:Nat),e=.returned (.slice o E.length c)/\Hd (E.Perm ch/\(E.Pairwise fun a b=>cT (aF L a) (aF L b)<=0)/\w'.ownsRow W2.heap.size 3 1 (.slice o E.length c) E.length (E.map fun(k:Nat)=>Value.int .i64 (k:Int))/\W2.grownBy w' none)):=aes W1.heap.size w.heap.size o c ro rc L ch W2 hb2 ((aer hc).grow hg) (hg2.cell (by rw[ah hb1];rfl) (by simp)) (hr.grow hg) hL hch hlt;have CV:Hd (Calls prog 62 #[.slice o ch.length c] W1 fun e w'=>e=.returned (.func (.func 102) #[] #[.pointer (some ⟨W1.heap.size,0,none⟩)])/\w'=W2):=by
  have:=acN o ch.length c W1;rw[hW2]at this;exact this
 have HG:=ae hg;have hmf:∀(fn:Fn) (first cap:Array Value) (w:World),(Instr.makeFunc fn first cap).run prog w=.ok (.func fn first cap) w:=fun _ _ _ _=>rfl
 have d6:=hg1.cell c6 (by simp);clear h hc hr hlt hb1 hb2 hW2 hg hg1 hg2 c6;go_enter func30,ntmps30;go_wp2_with (first|(go_at_call 62;refine CV.o.mono ?_;rintro e w' ⟨rfl,rfl⟩)|(go_at_call 61;refine CF.o.mono ?_));rintro e w3 ⟨E,o3,c3,rfl,hE⟩;go_wp2;go_ret;exact⟨E,o3,c3,rfl,hE.o.1,hE.o.2.1,MX hE.o.2.2.1 HG.o.size,ag HG.o hE.o.2.2.2⟩
open Go.RowKit Go.Maps Go.Joins
theorem II{w:World}{o:Option Addr}{c:Nat}{L:List En}(h:EnS w (.slice o L.length c) L){i:Nat}(hi:i<L.length):∃a,o=some a/\L.length<=c/\∀j (hj:j<L.length),EnAt w (a.add (j*4)) L[j]:=by
 rcases h with⟨h1,h2⟩|⟨a,cap,h1,h2,h3⟩
 ·rw[h2]at hi;simp at hi
 ·cases h1
  exact⟨a,rfl,h2,h3⟩
theorem sK{w wa wb:World}{r:Option Nat}(h:w.grownBy wa none)(hg:wa.grownBy wb r)(hr:∀q,r=some q->w.heap.size<=q):w.grownBy wb none :=
 ⟨hg.os.trans h.os,hg.tape.trans h.tape,hg.output.trans h.output,Nat.le_trans h.size hg.size,fun k hk hn=>(hg.block k (Nat.lt_of_lt_of_le hk h.size) (fun e=>by have:=hr k e.symm;omega)).trans (h.block k hk hn)⟩
theorem aeu(n:Nat)(h0:0<n)(hn:n<=1000)(w:World) :
  Calls prog 124 #[.slice none 0 0,.int .i64 n] w fun e w'=>∃v,e=.returned v/\w'.ownsRow w.heap.size 3 1 v 0 []/\w.grownBy w' none:=by
 obtain⟨i0,hi0,hii⟩:=Option.map_eq_some_iff.1 Ie;simp only[Prod.mk.injEq]at hii;obtain⟨hz0,hz1,hzb⟩:=hii;have hrz:∀ty,(Builtin.append_ #[31,3] ty #[.slice none 0 0,.int .i64 (n:Int)]).run prog w=.ok (.slice (some ⟨w.heap.size,0,none⟩) n (grownCap w n 0 3)) (w.drew.alloc (.cells (Builtin.zeroCells #[.int .i64 0] n++Builtin.zeroCells #[.int .i64 0] (grownCap w n 0 3-n)) 3)):=fun ty=>by
  have h:=Lib.run_append_grow_zeros w 31 3 ty 3 i0 (.int .i64 0) .i64 .i64 underlying31 underlying3 hi0 hz0 none 0 0 [] (run_firstCells_none w.drew i0.size 0 0 0) n h0 (by omega) (by omega) (by omega) (by rw[hzb];omega) (growslice_fits (by omega) (by rw[hzb];omega));rw[Nat.zero_add]at h;simpa [Value.cells] using h
 have hG:=grownCap_ge w n 0 3;have hG2:=grownCap_le_maxLen w n 0 3 (by unfold maxLen;omega);obtain⟨G,Ve⟩:=zN (grownCap w n 0 3);rw[Ve]at hrz hG hG2;have HO:Hd ((w.drew.alloc (.cells (Builtin.zeroCells #[.int .i64 0] n++Builtin.zeroCells #[.int .i64 0] (G-n)) 3)).ownsRow w.heap.size 3 1 (.slice (some ⟨w.heap.size,0,none⟩) 0 G) 0 []):=by
  refine⟨rfl,Or.inr ⟨w.heap.size,G,_,rfl,Nat.le_refl _,heap_alloc_new w.drew _,Nat.zero_le _,hG2,?_,rfl⟩⟩;rw[Array.size_append,size_zeroCells,size_zeroCells];simp;omega
 have HG:Hd (w.grownBy (w.drew.alloc (.cells (Builtin.zeroCells #[.int .i64 0] n++Builtin.zeroCells #[.int .i64 0] (G-n)) 3)) none):=⟨rfl,rfl,rfl,by rw[World.size_alloc];exact Nat.le_succ _,fun k hk _=>Below.heap_alloc w.drew _ k hk⟩;have hG63:G<=9223372036854775807:=by unfold maxLen at hG2;omega
 have sH:(n:Int) > 0:=by omega
 clear Ve hG hG2;go_enter func124,ntmps124;go_wp2_with (at_builtin;refine Lib.wpList_append_run _ rfl _ _ _ _ rfl _ _ rfl rfl _ _ (hrz _) ?_)
 all_goals (go_ret;exact⟨_,rfl,HO.o,HG.o⟩)
def gX(C:Nat->List Int):Nat->List Int
 | 0=>[]
 | i+1=>gX C i++C i
theorem aev(q:Nat)(A:Nat->Addr)(C:Nat->List Int)(K:Nat->Nat)(w:World)(hq:∀i,i<3->w.cell? ⟨q,i,none⟩=some (.slice (some (A i)) (C i).length (K i)))(hA:∀i,i<3->∀j u,((C i).map (Value.int .i64))[j]?=some u->w.cell? ((A i).add j)=some u)(hC:∀i,i<3->(C i).length<=100)(h0:0<(gX C 3).length) :
  Calls prog 95 #[.slice (some ⟨q,0,none⟩) 3 3] w fun e w'=>∃v,e=.returned v/\w'.ownsRow w.heap.size 3 1 v (gX C 3).length ((gX C 3).map (Value.int .i64))/\w.grownBy w' none:=by
 obtain⟨j0,hj0,hjj⟩:=Option.map_eq_some_iff.1 Ie;simp only[Prod.mk.injEq]at hjj;obtain⟨hy0,hy1,hyb⟩:=hjj;have hlen:∀i,i<=3->(gX C i).length<=100*i:=fun i hi=>by
  induction i with
  | zero=>simp[gX]
  | succ i ih =>
   have:=ih (by omega);have:=hC i (by omega);rw[gX,List.length_append];omega
 have HQ:=ae hq;have HA:=ae hA;have HC:=ae hC;have HL:=ae hlen;have h3:=hlen 3 (by omega);have HST:Hd (∀i,gX C (i+1)=gX C i++C i):=fun i=>rfl
 obtain⟨N,hN⟩:=zN ((gX C 3).length);have HN:=ae hN;rw[hN]at h0 h3 ⊢;have CG:=ae (aeu N h0 (by omega));clear hq hA hC hlen hN;go_enter func95,ntmps95;go_wp2;go_loopw [3,11] (fun vs vi wr=>∃i:Nat,vi=.int .i64 i/\i<=3/\vs=.int .i64 ((gX C i).length:Nat)/\wr=w) (fun _ vi _=>3-(intOf vi).toNat)
 case atStart=>exact⟨0,rfl,by omega,rfl,rfl⟩
 case round =>
  obtain⟨i,rfl,hi,rfl,hw⟩:=hrel;have hw:=hw.symm;subst hw
  by_cases hlt:i<3
  ·have e0:=HQ.o i hlt;have hm:=HC.o i hlt;have hp:=HL.o i hi;have HS:Hd ((gX C (i+1)).length=(gX C i).length+(C i).length):=by rw[HST.o,List.length_append];exact rfl
   obtain⟨m,hm'⟩:=zN ((C i).length);obtain⟨p,hp'⟩:=zN ((gX C i).length);rw[hm']at e0 hm HS;rw[hp']at hp HS ⊢;clear hm' hp';go_wp2;exact⟨⟨i+1,by go_num,by omega,by rw[HS.o];go_num,by trivial⟩,by simp[intOf];omega⟩
  ·obtain rfl:i=3:=by omega
   rw[HN.o];go_wp2_with (go_at_call 124;refine(CG.o _).mono ?_);rintro e w1 v1 rfl hown1 hg1;have dB:=ae hown1;have bg:=ae hg1;clear hown1 hg1;go_wp2;go_loopw [6,27] (fun v6 vi wr=>∃i:Nat,vi=.int .i64 i/\i<=3/\wr.ownsRow w.heap.size 3 1 v6 (gX C i).length ((gX C i).map (Value.int .i64))/\w.grownBy wr none) (fun _ vi _=>3-(intOf vi).toNat)
   case atStart=>exact⟨0,rfl,by omega,dB.o,bg.o⟩
   case round =>
    obtain⟨i,rfl,hi,hown,hg⟩:=hrel;obtain⟨wo,hwo⟩:∃wo,wo=wr:=⟨_,rfl⟩;subst hwo;have HG:=ae hg;have HOW:=ae hown
    by_cases hlt:i<3
    ·have e0:=hg.cell (HQ.o i hlt) (by simp);have hnews:=fun j u (hu:((C i).map (Value.int .i64))[j]?=some u)=>hg.cell (HA.o i hlt j u hu) (by simp)
     have hm:=HC.o i hlt;have hp:=HL.o i hi;have HS:Hd ((gX C (i+1)).length=(gX C i).length+(C i).length):=by rw[HST.o,List.length_append];exact rfl
     have HS2:Hd ((gX C (i+1)).map (Value.int .i64)=(gX C i).map (Value.int .i64)++(C i).map (Value.int .i64)):=by rw[HST.o,List.map_append];exact rfl
     obtain⟨news,hnw⟩:=zN ((C i).map (Value.int .i64));have hone:∀u∈news,u.oneCell'=true:=by
      intro u hu;rw[<-hnw]at hu;obtain⟨b,-,rfl⟩:=List.mem_map.1 hu;rfl
     have hnl:news.length=(C i).length*1:=by rw[<-hnw];simp
     obtain⟨xs,hxs⟩:=zN ((gX C i).map (Value.int .i64));rw[hnw]at hnews HS2;rw[hxs]at hown HS2;obtain⟨m,hm'⟩:=zN ((C i).length);obtain⟨p,hp'⟩:=zN ((gX C i).length);rw[hm']at e0 hm HS hnl;rw[hp']at hp HS hown;obtain⟨o6,c6,rfl⟩:=mY hown;obtain⟨ad,had⟩:=zN (A i);rw[had]at e0 hnews;have hbs:=hg.size;clear hm' hp' hnw hxs had hg;go_wp2_with (first|(at_builtin;refine wpList_append_own _ rfl _ _ 31 rfl w.heap.size 3 j0 (.int .i64 0) 1 8 underlying31 hj0 hy0 hy1 hyb rfl (by decide) _ p xs rfl hown ad m (K i) news rfl hnl hnews hone (by unfold maxLen;omega) (by omega) hbs ?_;intro v' w2 hown2 hg2 hnil2));exact⟨⟨i+1,by go_num,by omega,by rw[HS.o,HS2.o];exact hown2,sK HG.o hg2 (fun q' hq'=>(hown.lt q' hq').1)⟩,by simp[intOf];omega⟩
    ·obtain rfl:i=3:=by omega
     rw[HN.o]at HOW;clear hown hg;go_wp2;refine bodyPost_ret (results_tmp (t:=2) rfl _ _ _) rfl ?_;exact⟨_,rfl,HOW.o,HG.o⟩
open Go.RowKit Go.Maps Go.Joins
theorem aew{a b:ByteArray}(h:a.toList=b.toList):a=b:=by
 rw[Lib.toList_data,Lib.toList_data]at h;exact ByteArray.ext (Array.ext' h)
theorem aex(o:Option Addr)(c:Nat)(C:List Int)(v:Int)(w:World)(h:IS w (.slice o C.length c) C)(hC:C.length<=1000) :
  Calls prog 93 #[.slice o C.length c,.int .i64 v] w fun e w'=>w'=w/\∃z:Int,e=.returned (.int .i64 z)/\((z=-1/\∀c∈C,¬c=v)\/∃(j:Nat) (hj:j<C.length),z=(j:Int)/\C[j]=v/\∀i (hi:i<j),¬C[i]=v):=by
 have HC:=ae h;clear h;go_enter func93,ntmps93;go_wp2;go_loopw [8] (fun vi wr=>∃i:Nat,vi=.int .i64 i/\i<=C.length/\(∀k (hk:k<C.length),k<i->¬C[k]=v)/\wr=w) (fun vi _=>C.length-(intOf vi).toNat)
 case atStart=>exact⟨0,rfl,Nat.zero_le _,fun k hk h=>by omega,rfl⟩
 case round =>
  obtain⟨i,rfl,hi,hpre,hw⟩:=hrel;have HP:=ae hpre;have hw:=hw.symm;subst hw
  by_cases hlt:i<C.length
  ·obtain⟨a,rfl,hc,hat⟩:=rU HC.o hlt;have e0:=hat i hlt;obtain⟨x,hx⟩:=zN (C[i]);have HX:=ae hx;rw[hx]at e0;have hic:i<c:=by omega
   clear hat hx hpre
   cases hq:(v == x) with
   | true =>
    go_wp2;go_ret;exact⟨rfl,_,rfl,Or.inr ⟨i,rfl,hlt,HX.o.trans (by simpa using(show v=x by simpa using hq).symm),fun k hk=>HP.o k (by omega) hk⟩⟩
   | false =>
    go_wp2;exact⟨⟨i+1,by go_num,by omega,fun k hk hki=>(by
     by_cases e:k=i
     ·subst e;rw[HX.o];intro e2;rw[e2]at hq;simp at hq
     ·exact HP.o k hk (by omega)),by trivial⟩,by simp[intOf];omega⟩
  ·clear hpre;go_wp2;go_ret;exact⟨rfl,_,rfl,Or.inl ⟨rfl,fun c hc=>by
    obtain⟨k,hk,rfl⟩:=List.getElem_of_mem hc;exact HP.o k hk (by omega)⟩⟩
theorem aey(bx:Nat)(name nm ve dg:ByteArray)(v:Value)(w:World)(h:w.cell? ⟨bx,0,none⟩=some (.string name)) :
  Calls prog 92 #[.agg #[.string nm,.string ve,.string dg,v],.pointer (some ⟨bx,0,none⟩)] w fun e w'=>e=.returned (.bool (nm.toList == name.toList))/\w.grownBy w' none:=by
 obtain⟨W,hW⟩:=zN (w.alloc (.cells #[.string nm,.string ve,.string dg,v] 70));have hg:w.grownBy W none:=by rw[<-hW];exact ak (ai w none) _
 have hb:W.heap[w.heap.size]?=some (.cells #[.string nm,.string ve,.string dg,v] 70 (0,0)):=by rw[<-hW];exact heap_alloc_new w _
 have b0:W.cell? ⟨w.heap.size,0,none⟩=some (.string nm):=by rw[ah hb];rfl
 have h1:=hg.cell h (by simp);have HG:=ae hg;clear hb hg;go_enter func92,ntmps92;go_wp2;go_ret;exact⟨rfl,HG.o⟩
theorem aez(o:Option Addr)(c bx:Nat)(O:List En)(name:ByteArray)(w:World)(h:EnS w (.slice o O.length c) O)(hO:O.length<=1048576)(hb:w.cell? ⟨bx,0,none⟩=some (.string name)) :
  Calls prog 91 #[.slice o O.length c,.func (.func 92) #[] #[.pointer (some ⟨bx,0,none⟩)]] w fun e w'=>w.grownBy w' none/\∃z:Int,e=.returned (.int .i64 z)/\((z=-1/\∀x∈O,¬x.nm=name)\/∃(j:Nat) (hj:j<O.length),z=(j:Int)/\O[j].nm=name/\∀i (hi:i<j),¬O[i].nm=name):=by
 have HC:=ae h;have CF:=ae (fun nm ve dg v w' (hg:w.grownBy w' none)=>aey bx name nm ve dg v w' (hg.cell hb (by simp)));clear h hb;go_enter func91,ntmps91;go_wp2;go_loopw [8] (fun vi wr=>∃i:Nat,vi=.int .i64 i/\i<=O.length/\(∀k (hk:k<O.length),k<i->¬O[k].nm=name)/\w.grownBy wr none) (fun vi _=>O.length-(intOf vi).toNat)
 case atStart=>exact⟨0,rfl,Nat.zero_le _,fun k hk h=>by omega,ai _ _⟩
 case round =>
  obtain⟨i,rfl,hi,hpre,hg⟩:=hrel;have HP:=ae hpre;have HG:=ae hg
  by_cases hlt:i<O.length
  ·obtain⟨a,rfl,hc,hat⟩:=II (HC.o.grow hg) hlt;obtain⟨e0,e1,e2,sv,e3,-⟩:=hat i hlt;obtain⟨⟨nm,ve,dg,nd⟩,hx⟩:∃x,O[i]=x:=⟨_,rfl⟩;have HX:Hd (O[i].nm=nm):=by rw[hx];exact rfl
   rw[hx]at e0 e1 e2;simp only[]at e0 e1 e2;have hic:i<c:=by omega
   have C1:=ae (CF.o nm ve dg sv wr hg);clear hat hx hg hpre;go_wp2_with (first|(go_at_call 92;refine C1.o.mono ?_));rintro e w1 ⟨rfl,hg1⟩;obtain⟨b,hb⟩:=zN ((nm.toList == name.toList));have lV:=ae hb;rw[hb];have bg:=ae (ag HG.o hg1);clear hg1 hb
   cases b with
   | true =>
    go_wp2;go_ret;exact⟨bg.o,_,rfl,Or.inr ⟨i,hlt,rfl,by
     rw[HX.o];have:=lV.o;exact aew (by simpa using this),fun k hk=>HP.o k (by omega) hk⟩⟩
   | false =>
    go_wp2;exact⟨⟨i+1,by go_num,by omega,fun k hk hki=>(by
     by_cases e:k=i
     ·subst e;rw[HX.o];intro e2;have:=lV.o;rw[e2]at this;simp at this
     ·exact HP.o k hk (by omega)),bg.o⟩,by simp[intOf];omega⟩
  ·clear hg hpre;go_wp2;go_ret;exact⟨HG.o,_,rfl,Or.inl ⟨rfl,fun c hc=>by
    obtain⟨k,hk,rfl⟩:=List.getElem_of_mem hc;exact HP.o k hk (by omega)⟩⟩
end Go.Proofs.YtiinliaoojfjaaaGreatDoor
