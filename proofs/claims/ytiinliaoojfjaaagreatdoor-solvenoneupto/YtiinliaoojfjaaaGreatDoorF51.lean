import Derived.Test.YtiinliaoojfjaaaGreatDoorF45
import Derived.Test.YtiinliaoojfjaaaGreatDoorF43
set_option linter.all false
set_option maxRecDepth 100000
set_option maxHeartbeats 0
open Go.Proofs.Tryz
namespace Go.Proofs.YtiinliaoojfjaaaGreatDoor
open Go.RowKit Go.Maps Go.Joins
structure PQ(w wr:World)(R0 V S0 P0 n g m:Nat)(x:Pl)(L:List Re):Prop where
 s0:wr.heap[S0]?=some (.cells #[.int .u64 (x.nam:Nat),.int .u64 (x.bar:Nat),.slice (some ⟨g,0,none⟩) m m,.slice (some ⟨P0,0,none⟩) n n] 120 (0,0))
 g0:wr.heap[g]?=some (.cells (iW x.mt) 114 (0,0))
 v0:RowV wr V n n L
 r0:wr.heap[R0]?=some (.cells #[.int .u64 0,.int .u64 0,.slice none 0 0,.slice none 0 0] 120 (0,0))
 gb:w.grownBy wr none
theorem PQ.grow{w wr w':World}{R0 V S0 P0 n g m:Nat}{x:Pl}{L:List Re}(h:PQ w wr R0 V S0 P0 n g m x L)(hg:wr.grownBy w' none):PQ w w' R0 V S0 P0 n g m x L :=
 ⟨(hg.block S0 (aC h.s0) (by simp)).trans h.s0,(hg.block g (aC h.g0) (by simp)).trans h.g0,h.v0.grow hg,(hg.block R0 (aC h.r0) (by simp)).trans h.r0,ag h.gb hg⟩
theorem PQ.set{w wr:World}{R0 V S0 P0 n g m:Nat}{x:Pl}{L:List Re}(h:PQ w wr R0 V S0 P0 n g m x L){cs:Array Value}{fz:Nat × Nat}(hp:wr.heap[P0]?=some (.cells cs 117 fz))(hw:w.heap.size<=P0)(o:Nat)(v:Value):PQ w (wr.setCell ⟨P0,o,none⟩ v) R0 V S0 P0 n g m x L:=by
 have hne:∀(k:Nat) (ds:Array Value) (t:TypeId),wr.heap[k]?=some (.cells ds t (0,0))->¬t=117->¬k=P0:=fun k ds t hk ht e=>by
  subst e;rw[hp]at hk;injection hk with hk
  injection hk with _ e2 _
  exact ht e2.symm
 refine⟨(heap_setCell_other _ _ S0 _ (hne _ _ _ h.s0 (by decide))).trans h.s0,(heap_setCell_other _ _ g _ (hne _ _ _ h.g0 (by decide))).trans h.g0,?_,(heap_setCell_other _ _ R0 _ (hne _ _ _ h.r0 (by decide))).trans h.r0,mg h.gb hw _ _⟩;obtain⟨cur,h1,h2,h3⟩:=h.v0;exact⟨cur,(heap_setCell_other _ _ V _ (hne _ _ _ h1 (by decide))).trans h1,h2,h3⟩
theorem aiG{w:World}{P n:Nat}{Q:List Pl}(h:RowP w P n Q):∃cs,w.heap[P]?=some (.cells cs 117 (0,0)):=by
 obtain⟨cur,h1,-⟩:=h;exact⟨cur,h1⟩
theorem RowP.other{w:World}{P n:Nat}{Q:List Pl}(h:RowP w P n Q){q:Nat}{cs:Array Value}{fz:Nat × Nat}(hq:w.heap[q]?=some (.cells cs 120 fz))(o:Nat)(v:Value):RowP (w.setCell ⟨q,o,none⟩ v) P n Q:=by
 have hne:∀(k:Nat) (ds:Array Value) (t:TypeId),w.heap[k]?=some (.cells ds t (0,0))->¬t=120->¬k=q:=fun k ds t hk ht e=>by
  subst e;rw[hq]at hk;injection hk with hk
  injection hk with _ e2 _
  exact ht e2.symm
 obtain⟨cur,h1,h2,h3⟩:=h;refine⟨cur,(heap_setCell_other _ _ P _ (hne _ _ _ h1 (by decide))).trans h1,h2,fun j hj=>?_⟩;obtain⟨g,c1,c2,c3,c4⟩:=h3 j hj;exact⟨g,c1,c2,c3,(heap_setCell_other _ _ g _ (hne _ _ _ c4 (by decide))).trans c4⟩
theorem DX{w:World}{P n:Nat}(h:w.heap[P]?=some (.cells (madeCells #[.int .u64 0,.int .u64 0,.slice none 0 0] (n*3)) 117 (0,0))):RowP w P n []:=⟨_,h,size_madeCells _ _,fun j hj=>by simp at hj⟩
theorem aiH{w:World}{V n:Nat}{L:List Re}(h:w.heap[V]?=some (.cells (madeCells #[.int .i64 0,.int .i64 0,.int .i64 0,.string ⟨#[]⟩,.string ⟨#[]⟩] (n*5)) 150 (0,0))):RowV w V n 0 L:=⟨_,h,size_madeCells _ _,fun j hj h0=>by omega⟩
theorem PS{w W:World}{R0 V S0 P0 n g m:Nat}{x:Pl}{L:List Re}{a b c d:Value}(hs:W.heap[S0]?=some (.cells #[a,b,c,d] 120 (0,0)))(hg0:W.heap[g]?=some (.cells (iW x.mt) 114 (0,0)))(hv:RowV W V n n L)(hr:W.heap[R0]?=some (.cells #[.int .u64 0,.int .u64 0,.slice none 0 0,.slice none 0 0] 120 (0,0)))(hgb:w.grownBy W none)(hp:RowP W P0 n [])(hne:¬R0=S0)(hw:w.heap.size<=S0) :
  PQ w ((((W.setCell ⟨S0,0,none⟩ (.int .u64 (x.nam:Nat))).setCell ⟨S0,1,none⟩ (.int .u64 (x.bar:Nat))).setCell ⟨S0,2,none⟩ (.slice (some ⟨g,0,none⟩) m m)).setCell ⟨S0,3,none⟩ (.slice (some ⟨P0,0,none⟩) n n)) R0 V S0 P0 n g m x L/\RowP ((((W.setCell ⟨S0,0,none⟩ (.int .u64 (x.nam:Nat))).setCell ⟨S0,1,none⟩ (.int .u64 (x.bar:Nat))).setCell ⟨S0,2,none⟩ (.slice (some ⟨g,0,none⟩) m m)).setCell ⟨S0,3,none⟩ (.slice (some ⟨P0,0,none⟩) n n)) P0 n []:=by
 have hk:∀(k:Nat),¬k=S0->((((W.setCell ⟨S0,0,none⟩ (.int .u64 (x.nam:Nat))).setCell ⟨S0,1,none⟩ (.int .u64 (x.bar:Nat))).setCell ⟨S0,2,none⟩ (.slice (some ⟨g,0,none⟩) m m)).setCell ⟨S0,3,none⟩ (.slice (some ⟨P0,0,none⟩) n n)).heap[k]?=W.heap[k]?:=fun k hk=>by
  rw[heap_setCell_other _ _ k _ hk,heap_setCell_other _ _ k _ hk,heap_setCell_other _ _ k _ hk,heap_setCell_other _ _ k _ hk]
 have hne2:∀(k:Nat) (ds:Array Value) (t:TypeId),W.heap[k]?=some (.cells ds t (0,0))->¬t=120->¬k=S0:=fun k ds t hkk ht e=>by
  subst e;rw[hs]at hkk;injection hkk with hkk
  injection hkk with _ e2 _
  exact ht e2.symm
 refine⟨⟨?_,(hk g (hne2 _ _ _ hg0 (by decide))).trans hg0,?_,(hk R0 hne).trans hr,mg (mg (mg (mg hgb hw _ _) hw _ _) hw _ _) hw _ _⟩,?_⟩
 ·exact block_setCell (i:=3) (block_setCell (i:=2) (block_setCell (i:=1) (block_setCell (i:=0) hs _) _) _) _
 ·obtain⟨cur,h1,h2,h3⟩:=hv;exact⟨cur,(hk V (hne2 _ _ _ h1 (by decide))).trans h1,h2,h3⟩
 ·obtain⟨cur,h1,h2,h3⟩:=hp;exact⟨cur,(hk P0 (hne2 _ _ _ h1 (by decide))).trans h1,h2,fun j hj=>by simp at hj⟩
theorem wZ{w:World}{b:Nat}{v0 v1 v2 v3:Value}{t:TypeId}(h:w.heap[b]?=some (.cells #[v0,v1,v2,v3] t (0,0))):w.cell? ⟨b,0,none⟩=some v0/\w.cell? ⟨b,1,none⟩=some v1/\w.cell? ⟨b,2,none⟩=some v2/\w.cell? ⟨b,3,none⟩=some v3/\∀i,w.frozen? ⟨b,i,none⟩=false :=
 ⟨by rw[ah h];rfl,by rw[ah h];rfl,by rw[ah h];rfl,by rw[ah h];rfl,fun i=>Lib.frozen_of_heap h i⟩
theorem aiI(o o':Option Addr)(c c':Nat)(N:List Nd)(L:List Re)(w:World)(h:NdS w (.slice o N.length c) N)(h':ReS w (.slice o' L.length c') L)(oD:∀x∈L,okV x.ve=true)(hr:∀y∈N,okR y.r=true)(hrr:∀x∈L,∀y∈x.nd,okR y.r=true)(hN:N.length<=1048576)(hL:L.length<=64)(hLN:∀x∈L,x.nd.length<=1048576)(hS:∀y∈N,y.n.size<2 ^ 60/\y.r.size<2 ^ 60)(hSS:∀x∈L,∀y∈x.nd,y.n.size<2 ^ 60/\y.r.size<2 ^ 60)(hV:∀x∈L,x.ve.size<2 ^ 60) :
  Calls prog 54 #[.slice o N.length c,.slice o' L.length c'] w fun e w'=>∃(x:Pl) (Q:List Pl) (mv pv:Value),e=.returned (.agg #[.int .u64 (x.nam:Nat),.int .u64 (x.bar:Nat),mv,pv])/\SnS w' mv x.mt/\PlS w' pv Q/\gY N L x/\Q.length=L.length/\(∀j (h1:j<L.length) (h2:j<Q.length),gY L[j].nd L Q[j])/\w.grownBy w' none:=by
 have gq:Hd (∀w',w.grownBy w' none->∀i,i<L.length->∃a,o'=some a/\L.length<=c'/\∀j (hj:j<L.length),ReAt w' (a.add (j*4)) L[j]):=fun w' hg i hi=>lq (h'.grow hg) hi
 have CP:Hd (∀x∈L,∀w,Calls prog 88 #[.string x.ve] w fun e w'=>∃E K:Int,e=.returned (.tuple #[eY (aK x.ve),.int .i64 E,.int .i64 K])/\w.grownBy w' none):=fun x hx w=>(parse_any x.ve w (by have:=hV x hx;omega)).mono fun e w' ⟨h1,h2⟩=>⟨_,_,h1,h2⟩
 have CN:Hd (∀V w',w.grownBy w' none->RowV w' V L.length L.length L->Calls prog 89 #[.slice o N.length c,.slice o' L.length c',.slice (some ⟨V,0,none⟩) L.length L.length] w' fun e w''=>∃(x:Pl) (g:Nat),e=.returned (.agg #[.int .u64 (x.nam:Nat),.int .u64 (x.bar:Nat),.slice (some ⟨g,0,none⟩) N.length N.length])/\w''.heap[g]?=some (.cells (iW x.mt) 114 (0,0))/\gY N L x/\w'.grownBy w'' none):=fun V w' hg hv=>X6 o o' c c' ⟨V,0,none⟩ N L w' (h.grow hg) (h'.grow hg) hv.vrs oD hr hN hL hS
 have CR:Hd (∀V w' so sc (x:Re),x∈L->w.grownBy w' none->NdS w' (.slice so x.nd.length sc) x.nd->RowV w' V L.length L.length L->Calls prog 89 #[.slice so x.nd.length sc,.slice o' L.length c',.slice (some ⟨V,0,none⟩) L.length L.length] w' fun e w''=>∃(y:Pl) (g:Nat),e=.returned (.agg #[.int .u64 (y.nam:Nat),.int .u64 (y.bar:Nat),.slice (some ⟨g,0,none⟩) x.nd.length x.nd.length])/\w''.heap[g]?=some (.cells (iW y.mt) 114 (0,0))/\gY x.nd L y/\w'.grownBy w'' none):=fun V w' so sc x hx hg hn hv=>X6 so o' sc c' ⟨V,0,none⟩ x.nd L w' hn (h'.grow hg) hv.vrs oD (hrr x hx) (hLN x hx) hL (hSS x hx)
 obtain⟨R0,hR0⟩:=zN w.heap.size;have HR0:Hd (w.heap.size=R0):=hR0;have hmk:=aht L.length (by omega) (w.alloc (.cells #[.int .u64 0,.int .u64 0,.slice none 0 0,.slice none 0 0] 120));rw[World.size_alloc,hR0]at hmk;clear h h' oD hr hrr hS hSS hV hLN;go_enter func54,ntmps54;go_wp2;obtain⟨V,JL⟩:=zN (R0+1);rw[JL];have Dw:Hd (R0+1=V):=JL;have HI0:Hd (RowV ((w.alloc (.cells #[.int .u64 0,.int .u64 0,.slice none 0 0,.slice none 0 0] 120)).alloc (.cells (madeCells #[.int .i64 0,.int .i64 0,.int .i64 0,.string ⟨#[]⟩,.string ⟨#[]⟩] (L.length*5)) 150)) V L.length 0 L/\((w.alloc (.cells #[.int .u64 0,.int .u64 0,.slice none 0 0,.slice none 0 0] 120)).alloc (.cells (madeCells #[.int .i64 0,.int .i64 0,.int .i64 0,.string ⟨#[]⟩,.string ⟨#[]⟩] (L.length*5)) 150)).heap[R0]?=some (.cells #[.int .u64 0,.int .u64 0,.slice none 0 0,.slice none 0 0] 120 (0,0))/\w.grownBy ((w.alloc (.cells #[.int .u64 0,.int .u64 0,.slice none 0 0,.slice none 0 0] 120)).alloc (.cells (madeCells #[.int .i64 0,.int .i64 0,.int .i64 0,.string ⟨#[]⟩,.string ⟨#[]⟩] (L.length*5)) 150)) none):=by
  have s1:(w.alloc (.cells #[.int .u64 0,.int .u64 0,.slice none 0 0,.slice none 0 0] 120)).heap.size=V:=by rw[World.size_alloc,HR0.o,JL]
  refine⟨aiH ?_,?_,ak (ak (ai w none) _) _⟩
  ·have:=heap_alloc_new (w.alloc (.cells #[.int .u64 0,.int .u64 0,.slice none 0 0,.slice none 0 0] 120)) (.cells (madeCells #[.int .i64 0,.int .i64 0,.int .i64 0,.string ⟨#[]⟩,.string ⟨#[]⟩] (L.length*5)) 150);rw[s1]at this;exact this
  ·have:=heap_alloc_new w (.cells #[.int .u64 0,.int .u64 0,.slice none 0 0,.slice none 0 0] 120);rw[HR0.o]at this;exact((ak (ai _ none) _).block R0 (by rw[s1];omega) (by simp)).trans this
 clear hmk hR0 JL;go_loopw [16] (fun vi wr=>∃i:Nat,vi=.int .i64 i/\i<=L.length/\(RowV wr V L.length i L/\wr.heap[R0]?=some (.cells #[.int .u64 0,.int .u64 0,.slice none 0 0,.slice none 0 0] 120 (0,0))/\w.grownBy wr none)) (fun vi _=>L.length-(intOf vi).toNat)
 case atStart=>exact⟨0,rfl,Nat.zero_le _,HI0.o⟩
 case round =>
  obtain⟨i,rfl,hi,hrow,hrb,hg⟩:=hrel;have aiJ:Hd (RowV wr V L.length i L):=hrow;have iY:Hd (wr.heap[R0]?=some (.cells #[.int .u64 0,.int .u64 0,.slice none 0 0,.slice none 0 0] 120 (0,0))):=hrb;have HG:Hd (w.grownBy wr none):=hg
  by_cases hlt:i<L.length
  ·have hil:i<L.length:=hlt;obtain⟨a2,ho2,hcp2,gu⟩:=gq.o wr hg i hlt;obtain⟨f0,f1,⟨sv,f2,f2'⟩,f3⟩:=gu i hil;have Gm:=CP.o _ (List.getElem_mem hil);obtain⟨x,hx⟩:=zN (L[i]);have HX:Hd (L[i]=x):=hx;rw[hx]at f0 f1 f2' f3 Gm;obtain⟨so,sn,sc,rfl⟩:∃o n c,sv=.slice o n c:=by
    rcases f2' with⟨rfl,-⟩|⟨_,_,rfl,-⟩<;>exact⟨_,_,_,rfl⟩
   unfold eY at Gm;obtain⟨v1,hv1⟩:=zN ((aK x.ve).major);obtain⟨v2,hv2⟩:=zN ((aK x.ve).minor);obtain⟨v3,hv3⟩:=zN ((aK x.ve).patch);obtain⟨v4,hv4⟩:∃v:ByteArray,⟨(aK x.ve).pre.toArray⟩=v:=⟨_,rfl⟩;obtain⟨v5,hv5⟩:∃v:ByteArray,⟨(aK x.ve).build.toArray⟩=v:=⟨_,rfl⟩;have wY:Hd ((aK x.ve).major=v1/\(aK x.ve).minor=v2/\(aK x.ve).patch=v3/\(⟨(aK x.ve).pre.toArray⟩:ByteArray)=v4/\(⟨(aK x.ve).build.toArray⟩:ByteArray)=v5):=⟨hv1,hv2,hv3,hv4,hv5⟩;rw[hv1,hv2,hv3,hv4,hv5]at Gm;have Ph:Hd (∀w,Calls prog 88 #[.string x.ve] w fun e w'=>∃E K:Int,e=.returned (.tuple #[.agg #[.int .i64 v1,.int .i64 v2,.int .i64 v3,.string v4,.string v5],.int .i64 E,.int .i64 K])/\w.grownBy w' none):=Gm;have dD:Hd (wr.grownBy (wr.alloc (.cells #[.string x.nm,.string x.ve,.slice so sn sc,.string x.da] 38)) none):=ak (ai wr none) _;have hic:i<c':=by omega
   subst ho2;clear gu hcp2 hrow hrb hg hx f2' Gm hv1 hv2 hv3 hv4 hv5;go_wp2_with (go_at_call 88;refine(Ph.o _).mono ?_);rintro e w4 ⟨E,K,rfl,hg4⟩;have eX:Hd (wr.grownBy w4 none):=ag dD.o hg4;have Ak:=aiJ.o.grow eX.o;obtain⟨⟨z0,k0⟩,l0⟩:=Ak.room (i*5) (by omega);obtain⟨⟨z1,k1⟩,l1⟩:=Ak.room (i*5+1) (by omega);obtain⟨⟨z2,k2⟩,l2⟩:=Ak.room (i*5+2) (by omega);obtain⟨⟨z3,k3⟩,l3⟩:=Ak.room (i*5+3) (by omega);obtain⟨⟨z4,k4⟩,l4⟩:=Ak.room (i*5+4) (by omega);have Gj:Hd (RowV (((((w4.setCell ⟨V,i*5,none⟩ (.int .i64 v1)).setCell ⟨V,i*5+1,none⟩ (.int .i64 v2)).setCell ⟨V,i*5+2,none⟩ (.int .i64 v3)).setCell ⟨V,i*5+3,none⟩ (.string v4)).setCell ⟨V,i*5+4,none⟩ (.string v5)) V L.length (i+1) L):=Ak.set hil rfl v1 v2 v3 v4 v5 (by rw[HX.o];exact wY.o.1) (by rw[HX.o];exact wY.o.2.1) (by rw[HX.o];exact wY.o.2.2.1) (by rw[HX.o];exact wY.o.2.2.2.1) (by rw[HX.o];exact wY.o.2.2.2.2)
   have hwV:w.heap.size<=V:=by have:=HR0.o;have:=Dw.o;omega
   have HGN:Hd (w.grownBy (((((w4.setCell ⟨V,i*5,none⟩ (.int .i64 v1)).setCell ⟨V,i*5+1,none⟩ (.int .i64 v2)).setCell ⟨V,i*5+2,none⟩ (.int .i64 v3)).setCell ⟨V,i*5+3,none⟩ (.string v4)).setCell ⟨V,i*5+4,none⟩ (.string v5)) none):=mg (mg (mg (mg (mg (ag HG.o eX.o) hwV _ _) hwV _ _) hwV _ _) hwV _ _) hwV _ _;have oz:Hd ((((((w4.setCell ⟨V,i*5,none⟩ (.int .i64 v1)).setCell ⟨V,i*5+1,none⟩ (.int .i64 v2)).setCell ⟨V,i*5+2,none⟩ (.int .i64 v3)).setCell ⟨V,i*5+3,none⟩ (.string v4)).setCell ⟨V,i*5+4,none⟩ (.string v5)).heap[R0]?=some (.cells #[.int .u64 0,.int .u64 0,.slice none 0 0,.slice none 0 0] 120 (0,0))):=by
    have hne:¬R0=V:=by have:=Dw.o;omega
    show _=_;rw[heap_setCell_other _ _ R0 _ hne,heap_setCell_other _ _ R0 _ hne,heap_setCell_other _ _ R0 _ hne,heap_setCell_other _ _ R0 _ hne,heap_setCell_other _ _ R0 _ hne];exact(eX.o.block R0 (aC iY.o) (by simp)).trans iY.o
   clear hg4 Ak f0 f1 f2 f3 hwV;go_wp2;go_roundw
   case rel=>exact⟨i+1,by go_num,by omega,Gj.o,oz.o,HGN.o⟩
   case measure=>simp[intOf];omega
  ·have hil:i=L.length:=by omega
   rw[hil]at hrow;have kz:Hd (RowV wr V L.length L.length L):=hrow;have xO:=ahu L.length (by omega);obtain⟨wo,hwo⟩:∃wo,wo=wr:=⟨_,rfl⟩;subst hwo;clear hrow hrb hg hil hi;go_upto_region 7 with fail
   go_cut [8] from 32 (fun v8 wx=>∃(S0 P0 g:Nat) (x:Pl),v8=.pointer (some ⟨S0,0,none⟩)/\PQ w wx R0 V S0 P0 L.length g N.length x L/\gY N L x/\RowP wx P0 L.length []/\w.heap.size<=P0)
   case first =>
    have G1:wo.grownBy wo.drew none:=ru _;have G3:wo.grownBy (wo.alloc (.cells (madeCells #[.int .u64 0,.int .u64 0,.slice none 0 0] (L.length*3)) 117)).drew none:=ag (ak (ai wo none) _) (ru _);have G4:wo.grownBy (wo.alloc (.cells #[.int .u64 0,.int .u64 0,.slice none 0 0,.slice none 0 0] 120)).drew none:=ag (ak (ai wo none) _) (ru _);have G5:wo.grownBy ((wo.alloc (.cells (madeCells #[.int .u64 0,.int .u64 0,.slice none 0 0] (L.length*3)) 117)).alloc (.cells #[.int .u64 0,.int .u64 0,.slice none 0 0,.slice none 0 0] 120)).drew none:=ag (ak (ak (ai wo none) _) _) (ru _);have G6:wo.grownBy ((wo.alloc (.cells #[.int .u64 0,.int .u64 0,.slice none 0 0,.slice none 0 0] 120)).alloc (.cells (madeCells #[.int .u64 0,.int .u64 0,.slice none 0 0] (L.length*3)) 117)).drew none:=ag (ak (ak (ai wo none) _) _) (ru _)
    have aj7:=xO wo.drew;have aj8:=xO (wo.alloc (.cells #[.int .u64 0,.int .u64 0,.slice none 0 0,.slice none 0 0] 120)).drew;have hS4:=heap_alloc_new wo (.cells #[.int .u64 0,.int .u64 0,.slice none 0 0,.slice none 0 0] 120);have hS5:=heap_alloc_new (wo.alloc (.cells (madeCells #[.int .u64 0,.int .u64 0,.slice none 0 0] (L.length*3)) 117)) (.cells #[.int .u64 0,.int .u64 0,.slice none 0 0,.slice none 0 0] 120);rw[World.size_alloc]at hS5;have hS6:=((ak (ai (wo.alloc (.cells #[.int .u64 0,.int .u64 0,.slice none 0 0,.slice none 0 0] 120)) none) (.cells (madeCells #[.int .u64 0,.int .u64 0,.slice none 0 0] (L.length*3)) 117)).block wo.heap.size (by simp) (by simp)).trans hS4;go_region_with (first|(go_at_call 89;first|(refine(CN.o V (wo.drew) (ag HG.o G1) (kz.o.grow G1)).mono ?_;rintro e w5 ⟨x,g,rfl,hgb,hpi,hg5⟩;have aiK:=xO w5;have aj9:=xO (w5.alloc (.cells #[.int .u64 0,.int .u64 0,.slice none 0 0,.slice none 0 0] 120));have hs2:=((ak (ai (w5.alloc (.cells #[.int .u64 0,.int .u64 0,.slice none 0 0,.slice none 0 0] 120)) none) (.cells (madeCells #[.int .u64 0,.int .u64 0,.slice none 0 0] (L.length*3)) 117)).block w5.heap.size (by simp) (by simp)).trans (heap_alloc_new w5 (.cells #[.int .u64 0,.int .u64 0,.slice none 0 0,.slice none 0 0] 120));obtain⟨b0,b1,b2,b3,bf⟩:=wZ hs2;have bf0:=bf 0;have bf1:=bf 1;have bf2:=bf 2;have bf3:=bf 3)|(refine(CN.o V ((wo.alloc (.cells (madeCells #[.int .u64 0,.int .u64 0,.slice none 0 0] (L.length*3)) 117)).drew) (ag HG.o G3) (kz.o.grow G3)).mono ?_;rintro e w5 ⟨x,g,rfl,hgb,hpi,hg5⟩)|(refine(CN.o V ((wo.alloc (.cells #[.int .u64 0,.int .u64 0,.slice none 0 0,.slice none 0 0] 120)).drew) (ag HG.o G4) (kz.o.grow G4)).mono ?_;rintro e w5 ⟨x,g,rfl,hgb,hpi,hg5⟩;have aiK:=xO w5;have hs5:=(hg5.block wo.heap.size (aC hS4) (by simp)).trans hS4;obtain⟨c0,c1,c2,c3,cf⟩:=wZ hs5;have cf0:=cf 0;have cf1:=cf 1;have cf2:=cf 2;have cf3:=cf 3;have hs2:=((ak (ai w5 none) (.cells (madeCells #[.int .u64 0,.int .u64 0,.slice none 0 0] (L.length*3)) 117)).block wo.heap.size (aC hs5) (by simp)).trans hs5;obtain⟨b0,b1,b2,b3,bf⟩:=wZ hs2;have bf0:=bf 0;have bf1:=bf 1;have bf2:=bf 2;have bf3:=bf 3)|(refine(CN.o V (((wo.alloc (.cells (madeCells #[.int .u64 0,.int .u64 0,.slice none 0 0] (L.length*3)) 117)).alloc (.cells #[.int .u64 0,.int .u64 0,.slice none 0 0,.slice none 0 0] 120)).drew) (ag HG.o G5) (kz.o.grow G5)).mono ?_;rintro e w5 ⟨x,g,rfl,hgb,hpi,hg5⟩;have hs5:=(hg5.block (wo.heap.size+1) (aC hS5) (by simp)).trans hS5;obtain⟨c0,c1,c2,c3,cf⟩:=wZ hs5;have cf0:=cf 0;have cf1:=cf 1;have cf2:=cf 2;have cf3:=cf 3)|(refine(CN.o V (((wo.alloc (.cells #[.int .u64 0,.int .u64 0,.slice none 0 0,.slice none 0 0] 120)).alloc (.cells (madeCells #[.int .u64 0,.int .u64 0,.slice none 0 0] (L.length*3)) 117)).drew) (ag HG.o G6) (kz.o.grow G6)).mono ?_;rintro e w5 ⟨x,g,rfl,hgb,hpi,hg5⟩;have hs5:=(hg5.block wo.heap.size (aC hS6) (by simp)).trans hS6;obtain⟨c0,c1,c2,c3,cf⟩:=wZ hs5;have cf0:=cf 0;have cf1:=cf 1;have cf2:=cf 2;have cf3:=cf 3)))
    ·have g5:wo.grownBy w5 none:=ag G1 hg5;have hv5:=kz.o.grow g5;have ja:=(g5.block R0 (aC iY.o) (by simp)).trans iY.o;have hw5:=ag HG.o g5;have hwo:w.heap.size<=wo.heap.size:=HG.o.size;have tC:wo.heap.size<=w5.heap.size:=g5.size;have tH:R0<wo.heap.size:=(aC iY.o);have ga:=ak (ak (ai w5 none) (.cells (madeCells #[.int .u64 0,.int .u64 0,.slice none 0 0] (L.length*3)) 117)) (.cells #[.int .u64 (x.nam:Nat),.int .u64 (x.bar:Nat),.slice (some ⟨g,0,none⟩) N.length N.length,.slice (some ⟨w5.heap.size,0,none⟩) L.length L.length] 120);have hs0:=heap_alloc_new (w5.alloc (.cells (madeCells #[.int .u64 0,.int .u64 0,.slice none 0 0] (L.length*3)) 117)) (.cells #[.int .u64 (x.nam:Nat),.int .u64 (x.bar:Nat),.slice (some ⟨g,0,none⟩) N.length N.length,.slice (some ⟨w5.heap.size,0,none⟩) L.length L.length] 120)
     rw[World.size_alloc]at hs0;have hp0:=((ak (ai (w5.alloc (.cells (madeCells #[.int .u64 0,.int .u64 0,.slice none 0 0] (L.length*3)) 117)) none) (.cells #[.int .u64 (x.nam:Nat),.int .u64 (x.bar:Nat),.slice (some ⟨g,0,none⟩) N.length N.length,.slice (some ⟨w5.heap.size,0,none⟩) L.length L.length] 120)).block w5.heap.size (by simp) (by simp)).trans (heap_alloc_new w5 (.cells (madeCells #[.int .u64 0,.int .u64 0,.slice none 0 0] (L.length*3)) 117));have hq:PQ w _ R0 V (w5.heap.size+1) w5.heap.size L.length g N.length x L:=⟨hs0,(ga.block g (aC hgb) (by simp)).trans hgb,hv5.grow ga,(ga.block R0 (aC ja) (by simp)).trans ja,ag hw5 ga⟩;have HF:Hd (PQ w _ R0 V (w5.heap.size+1) w5.heap.size L.length g N.length x L/\gY N L x/\RowP _ w5.heap.size L.length []/\w.heap.size<=w5.heap.size):=⟨hq,hpi,DX hp0,by omega⟩
     clear ga hs0 hp0 hq g5 hv5 ja hw5 hwo tC tH;go_wp2;go_meet
     case rel=>exact⟨_,_,_,_,rfl,HF.o⟩
    ·have g5:wo.grownBy w5 none:=ag G1 hg5;have hv5:=kz.o.grow g5;have ja:=(g5.block R0 (aC iY.o) (by simp)).trans iY.o;have hw5:=ag HG.o g5;have hwo:w.heap.size<=wo.heap.size:=HG.o.size;have tC:wo.heap.size<=w5.heap.size:=g5.size;have tH:R0<wo.heap.size:=(aC iY.o);have ga:=ak (ak (ai w5 none) (.cells #[.int .u64 (x.nam:Nat),.int .u64 (x.bar:Nat),.slice (some ⟨g,0,none⟩) N.length N.length,.slice (some ⟨w5.heap.size+1,0,none⟩) L.length L.length] 120)) (.cells (madeCells #[.int .u64 0,.int .u64 0,.slice none 0 0] (L.length*3)) 117);have hs0:=((ak (ai (w5.alloc (.cells #[.int .u64 (x.nam:Nat),.int .u64 (x.bar:Nat),.slice (some ⟨g,0,none⟩) N.length N.length,.slice (some ⟨w5.heap.size+1,0,none⟩) L.length L.length] 120)) none) (.cells (madeCells #[.int .u64 0,.int .u64 0,.slice none 0 0] (L.length*3)) 117)).block w5.heap.size (by simp) (by simp)).trans (heap_alloc_new w5 (.cells #[.int .u64 (x.nam:Nat),.int .u64 (x.bar:Nat),.slice (some ⟨g,0,none⟩) N.length N.length,.slice (some ⟨w5.heap.size+1,0,none⟩) L.length L.length] 120))
     have hp0:=heap_alloc_new (w5.alloc (.cells #[.int .u64 (x.nam:Nat),.int .u64 (x.bar:Nat),.slice (some ⟨g,0,none⟩) N.length N.length,.slice (some ⟨w5.heap.size+1,0,none⟩) L.length L.length] 120)) (.cells (madeCells #[.int .u64 0,.int .u64 0,.slice none 0 0] (L.length*3)) 117);rw[World.size_alloc]at hp0;have hq:PQ w _ R0 V w5.heap.size (w5.heap.size+1) L.length g N.length x L:=⟨hs0,(ga.block g (aC hgb) (by simp)).trans hgb,hv5.grow ga,(ga.block R0 (aC ja) (by simp)).trans ja,ag hw5 ga⟩;have HF:Hd (PQ w _ R0 V w5.heap.size (w5.heap.size+1) L.length g N.length x L/\gY N L x/\RowP _ (w5.heap.size+1) L.length []/\w.heap.size<=w5.heap.size+1):=⟨hq,hpi,DX hp0,by omega⟩;clear ga hs0 hp0 hq g5 hv5 ja hw5 hwo tC tH;go_wp2;go_meet
     case rel=>exact⟨_,_,_,_,rfl,HF.o⟩
    ·have g5:wo.grownBy w5 none:=ag G3 hg5;have hv5:=kz.o.grow g5;have ja:=(g5.block R0 (aC iY.o) (by simp)).trans iY.o;have hw5:=ag HG.o g5;have hwo:w.heap.size<=wo.heap.size:=HG.o.size;have tC:wo.heap.size<=w5.heap.size:=g5.size;have tH:R0<wo.heap.size:=(aC iY.o);have ga:=ak (ai w5 none) (.cells #[.int .u64 (x.nam:Nat),.int .u64 (x.bar:Nat),.slice (some ⟨g,0,none⟩) N.length N.length,.slice (some ⟨wo.heap.size,0,none⟩) L.length L.length] 120);have hs0:=heap_alloc_new w5 (.cells #[.int .u64 (x.nam:Nat),.int .u64 (x.bar:Nat),.slice (some ⟨g,0,none⟩) N.length N.length,.slice (some ⟨wo.heap.size,0,none⟩) L.length L.length] 120);have xe:w5.heap[wo.heap.size]?=_:=(hg5.block wo.heap.size (Array.getElem?_eq_some_iff.1 (heap_alloc_new wo (.cells (madeCells #[.int .u64 0,.int .u64 0,.slice none 0 0] (L.length*3)) 117))).1 (by simp)).trans (heap_alloc_new wo (.cells (madeCells #[.int .u64 0,.int .u64 0,.slice none 0 0] (L.length*3)) 117))
     have hp0:=(ga.block wo.heap.size (aC xe) (by simp)).trans xe;have hq:PQ w _ R0 V w5.heap.size wo.heap.size L.length g N.length x L:=⟨hs0,(ga.block g (aC hgb) (by simp)).trans hgb,hv5.grow ga,(ga.block R0 (aC ja) (by simp)).trans ja,ag hw5 ga⟩;have HF:Hd (PQ w _ R0 V w5.heap.size wo.heap.size L.length g N.length x L/\gY N L x/\RowP _ wo.heap.size L.length []/\w.heap.size<=wo.heap.size):=⟨hq,hpi,DX hp0,hwo⟩;clear ga hs0 hp0 xe hq g5 hv5 ja hw5 hwo tC tH;go_wp2;go_meet
     case rel=>exact⟨_,_,_,_,rfl,HF.o⟩
    ·have g5:wo.grownBy w5 none:=ag G5 hg5;have hv5:=kz.o.grow g5;have ja:=(g5.block R0 (aC iY.o) (by simp)).trans iY.o;have hw5:=ag HG.o g5;have hwo:w.heap.size<=wo.heap.size:=HG.o.size;have tC:wo.heap.size<=w5.heap.size:=g5.size;have tH:R0<wo.heap.size:=(aC iY.o);have hpa:=((ak (ai (wo.alloc (.cells (madeCells #[.int .u64 0,.int .u64 0,.slice none 0 0] (L.length*3)) 117)) none) (.cells #[.int .u64 0,.int .u64 0,.slice none 0 0,.slice none 0 0] 120)).block wo.heap.size (by simp) (by simp)).trans (heap_alloc_new wo (.cells (madeCells #[.int .u64 0,.int .u64 0,.slice none 0 0] (L.length*3)) 117));have xe:w5.heap[wo.heap.size]?=_:=(hg5.block wo.heap.size (aC hpa) (by simp)).trans hpa;obtain⟨hq,oG⟩:=PS (m:=N.length) hs5 hgb hv5 ja hw5 (DX xe) (by omega) (by omega)
     have HF:Hd (PQ w _ R0 V (wo.heap.size+1) wo.heap.size L.length g N.length x L/\gY N L x/\RowP _ wo.heap.size L.length []/\w.heap.size<=wo.heap.size):=⟨hq,hpi,oG,hwo⟩;clear hpa xe hq oG g5 hv5 ja hw5 hwo tC tH;go_wp2;go_meet
     case rel=>exact⟨_,_,_,_,rfl,HF.o⟩
    ·have g5:wo.grownBy w5 none:=ag G4 hg5;have hv5:=kz.o.grow g5;have ja:=(g5.block R0 (aC iY.o) (by simp)).trans iY.o;have hw5:=ag HG.o g5;have hwo:w.heap.size<=wo.heap.size:=HG.o.size;have tC:wo.heap.size<=w5.heap.size:=g5.size;have tH:R0<wo.heap.size:=(aC iY.o);have ga:=ak (ai w5 none) (.cells (madeCells #[.int .u64 0,.int .u64 0,.slice none 0 0] (L.length*3)) 117);obtain⟨hq,oG⟩:=PS (m:=N.length) hs2 ((ga.block g (aC hgb) (by simp)).trans hgb) (hv5.grow ga) ((ga.block R0 (aC ja) (by simp)).trans ja) (ag hw5 ga) (DX (heap_alloc_new w5 (.cells (madeCells #[.int .u64 0,.int .u64 0,.slice none 0 0] (L.length*3)) 117))) (by omega) (by omega);have HF:Hd (PQ w _ R0 V wo.heap.size w5.heap.size L.length g N.length x L/\gY N L x/\RowP _ w5.heap.size L.length []/\w.heap.size<=w5.heap.size):=⟨hq,hpi,oG,by omega⟩
     clear ga hq oG g5 hv5 ja hw5 hwo tC tH;go_wp2;go_meet
     case rel=>exact⟨_,_,_,_,rfl,HF.o⟩
    ·have g5:wo.grownBy w5 none:=ag G6 hg5;have hv5:=kz.o.grow g5;have ja:=(g5.block R0 (aC iY.o) (by simp)).trans iY.o;have hw5:=ag HG.o g5;have hwo:w.heap.size<=wo.heap.size:=HG.o.size;have tC:wo.heap.size<=w5.heap.size:=g5.size;have tH:R0<wo.heap.size:=(aC iY.o);have hpa:=heap_alloc_new (wo.alloc (.cells #[.int .u64 0,.int .u64 0,.slice none 0 0,.slice none 0 0] 120)) (.cells (madeCells #[.int .u64 0,.int .u64 0,.slice none 0 0] (L.length*3)) 117);rw[World.size_alloc]at hpa;have xe:w5.heap[wo.heap.size+1]?=_:=(hg5.block (wo.heap.size+1) (aC hpa) (by simp)).trans hpa;obtain⟨hq,oG⟩:=PS (m:=N.length) hs5 hgb hv5 ja hw5 (DX xe) (by omega) (by omega);have HF:Hd (PQ w _ R0 V wo.heap.size (wo.heap.size+1) L.length g N.length x L/\gY N L x/\RowP _ (wo.heap.size+1) L.length []/\w.heap.size<=wo.heap.size+1):=⟨hq,hpi,oG,by omega⟩
     clear hpa xe hq oG g5 hv5 ja hw5 hwo tC tH;go_wp2;go_meet
     case rel=>exact⟨_,_,_,_,rfl,HF.o⟩
   case rest =>
    obtain⟨S0,P0,g,x0,rfl,hpq,hpi,oG,hwp⟩:=hcut;have Jw:Hd (gY N L x0):=hpi;have PT:Hd (w.heap.size<=P0):=hwp;have HPQ:Hd (PQ w wc R0 V S0 P0 L.length g N.length x0 L):=hpq;have HRP:Hd (RowP wc P0 L.length []):=oG;clear hpq hpi oG hwp xO;go_wp2;go_loopw [42] (fun vi wr=>∃(i:Nat) (Q:List Pl),vi=.int .i64 i/\i<=L.length/\Q.length=i/\PQ w wr R0 V S0 P0 L.length g N.length x0 L/\RowP wr P0 L.length Q/\∀j (h1:j<L.length) (h2:j<Q.length),gY L[j].nd L Q[j]) (fun vi _=>L.length-(intOf vi).toNat)
    case atStart=>exact⟨0,[],rfl,Nat.zero_le _,rfl,HPQ.o,HRP.o,fun j h1 h2=>by simp at h2⟩
    case round =>
     obtain⟨i,Q,rfl,hi,PU,hpq,oG,lw⟩:=hrel;have DY:Hd (Q.length=i):=PU;have YV:Hd (∀j (h1:j<L.length) (h2:j<Q.length),gY L[j].nd L Q[j]):=lw;have xg:Hd (PQ w wr R0 V S0 P0 L.length g N.length x0 L):=hpq;have YW:Hd (RowP wr P0 L.length Q):=oG
     by_cases hlt:i<L.length
     ·obtain⟨a2,ho2,hcp2,gu⟩:=gq.o wr hpq.gb i hlt;obtain⟨f0,f1,⟨sv,f2,f2'⟩,f3⟩:=gu i hlt;have YX:=CR.o V;have hmem:=List.getElem_mem hlt;obtain⟨x,hx⟩:=zN (L[i]);have HX:Hd (L[i]=x):=hx;rw[hx]at f0 f1 f2' f3 hmem;obtain⟨so,sc,rfl⟩:∃o c,sv=.slice o x.nd.length c:=by
       rcases f2' with⟨rfl,h0⟩|⟨_,_,rfl,-⟩
       ·exact⟨none,0,by rw[h0];rfl⟩
       ·exact⟨_,_,rfl⟩
      have dD:Hd (wr.grownBy (wr.alloc (.cells #[.string x.nm,.string x.ve,.slice so x.nd.length sc,.string x.da] 38)).drew none):=ag (ak (ai wr none) _) (ru _);have jW:Hd (NdS wr (.slice so x.nd.length sc) x.nd):=f2';have Gn:Hd (Calls prog 89 #[.slice so x.nd.length sc,.slice o' L.length c',.slice (some ⟨V,0,none⟩) L.length L.length] (wr.alloc (.cells #[.string x.nm,.string x.ve,.slice so x.nd.length sc,.string x.da] 38)).drew fun e w''=>∃(y:Pl) (g:Nat),e=.returned (.agg #[.int .u64 (y.nam:Nat),.int .u64 (y.bar:Nat),.slice (some ⟨g,0,none⟩) x.nd.length x.nd.length])/\w''.heap[g]?=some (.cells (iW y.mt) 114 (0,0))/\gY x.nd L y/\(wr.alloc (.cells #[.string x.nm,.string x.ve,.slice so x.nd.length sc,.string x.da] 38)).drew.grownBy w'' none):=YX _ so sc x hmem (ag xg.o.gb dD.o) (jW.o.grow dD.o) (xg.o.v0.grow dD.o);have hs3:=(ak (ai wr none) (.cells #[.string x.nm,.string x.ve,.slice so x.nd.length sc,.string x.da] 38)).cell (wZ hpq.s0).2.2.2.1 (by simp)
      have YY:=dD.o.cell (wZ hpq.s0).2.2.2.1 (by simp);have hic:i<c':=by omega
      subst ho2;clear gu hcp2 PU hpq oG lw hx f2' YX hmem;go_upto_region 11 with fail
      go_region_with (first|(go_at_call 89;refine Gn.o.mono ?_;rintro e w5 ⟨y,g5,rfl,hgb,PV,hg5⟩;have q3:=hg5.cell YY (by simp);have DZ:=(YW.o.grow dD.o).grow hg5;obtain⟨⟨z0,k0⟩,l0⟩:=DZ.room (i*3) (by omega);obtain⟨⟨z1,k1⟩,l1⟩:=DZ.room (i*3+1) (by omega);obtain⟨⟨z2,k2⟩,l2⟩:=DZ.room (i*3+2) (by omega)))
      all_goals (
       have YZ:=(xg.o.grow dD.o).grow hg5;obtain⟨cs,hcs⟩:=aiG DZ;have aiL:Hd (PQ w (((w5.setCell ⟨P0,i*3,none⟩ (.int .u64 (y.nam:Nat))).setCell ⟨P0,i*3+1,none⟩ (.int .u64 (y.bar:Nat))).setCell ⟨P0,i*3+2,none⟩ (.slice (some ⟨g5,0,none⟩) x.nd.length x.nd.length)) R0 V S0 P0 L.length g N.length x0 L):=((YZ.set hcs PT.o _ _).set (block_setCell hcs _) PT.o _ _).set (block_setCell (block_setCell hcs _) _) PT.o _ _;have aiM:Hd (RowP (((w5.setCell ⟨P0,i*3,none⟩ (.int .u64 (y.nam:Nat))).setCell ⟨P0,i*3+1,none⟩ (.int .u64 (y.bar:Nat))).setCell ⟨P0,i*3+2,none⟩ (.slice (some ⟨g5,0,none⟩) x.nd.length x.nd.length)) P0 L.length (Q++[y])):=DZ.push DY.o hlt y g5 hgb x.nd.length PV.ln;have aiN:Hd (∀j (h1:j<L.length) (h2:j<(Q++[y]).length),gY L[j].nd L (Q++[y])[j]):=fun j h1 h2=>by
        by_cases hj:j<Q.length
        ·rw[List.getElem_append_left hj];exact YV.o j h1 hj
        ·have he:j=i:=by rw[List.length_append,List.length_singleton,DY.o]at h2;have:=DY.o;omega
         subst he;rw[List.getElem_append_right (by have:=DY.o;omega)];have e0:∀(q:Nat) (hq:q < [y].length),[y][q]=y:=fun q hq=>by
          have:q=0:=by simpa using hq
          subst this;rfl
         rw[e0,HX.o];exact PV
       clear YZ hcs DZ hgb PV hg5 q3 k0 k1 k2 l0 l1 l2 hs3 YY f0 f1 f2 f3;go_wp2;go_roundw
       case rel=>exact⟨i+1,Q++[y],by go_num,by omega,by rw[List.length_append,DY.o];rfl,aiL.o,aiM.o,aiN.o⟩
       case measure=>simp[intOf];omega)
     ·have hil:i=L.length:=by omega
      have Y1:Hd (Q.length=L.length):=DY.o.trans hil;obtain⟨d0,d1,d2,d3,-⟩:=wZ hpq.s0;obtain⟨q0,q1,q2,q3,qf⟩:=wZ hpq.r0;have qf0:=qf 0;have qf1:=qf 1;have qf2:=qf 2;have qf3:=qf 3;clear PU hpq oG lw hil hi qf;go_wp2;have hb1:=block_setCell (i:=0) xg.o.r0 (.int .u64 (x0.nam:Nat));have hb2:=block_setCell (i:=1) hb1 (.int .u64 (x0.bar:Nat));have hb3:=block_setCell (i:=2) hb2 (.slice (some ⟨g,0,none⟩) N.length N.length);have hb4:=block_setCell (i:=3) hb3 (.slice (some ⟨P0,0,none⟩) L.length L.length);have aiO:=(((YW.o.other xg.o.r0 0 (.int .u64 (x0.nam:Nat))).other hb1 1 (.int .u64 (x0.bar:Nat))).other hb2 2 (.slice (some ⟨g,0,none⟩) N.length N.length)).other hb3 3 (.slice (some ⟨P0,0,none⟩) L.length L.length);have hw0:=Nat.le_of_eq HR0.o;have ji:=mg (mg (mg (mg xg.o.gb hw0 0 (.int .u64 (x0.nam:Nat))) hw0 1 (.int .u64 (x0.bar:Nat))) hw0 2 (.slice (some ⟨g,0,none⟩) N.length N.length)) hw0 3 (.slice (some ⟨P0,0,none⟩) L.length L.length)
      have hne:¬g=R0:=fun e=>by
       have h1:=xg.o.g0;rw[e,xg.o.r0]at h1;injection h1 with h1
       injection h1 with _ e2 _
       exact absurd e2 (by decide)
      have hgg:((((wr.setCell ⟨R0,0,none⟩ (.int .u64 (x0.nam:Nat))).setCell ⟨R0,1,none⟩ (.int .u64 (x0.bar:Nat))).setCell ⟨R0,2,none⟩ (.slice (some ⟨g,0,none⟩) N.length N.length)).setCell ⟨R0,3,none⟩ (.slice (some ⟨P0,0,none⟩) L.length L.length)).heap[g]?=some (.cells (iW x0.mt) 114 (0,0)):=by
       rw[heap_setCell_other _ _ g _ hne,heap_setCell_other _ _ g _ hne,heap_setCell_other _ _ g _ hne,heap_setCell_other _ _ g _ hne];exact xg.o.g0
      refine bodyPost_ret (results_cell_row rfl _ _ R0 120 #[.int .u64 (x0.nam:Nat),.int .u64 (x0.bar:Nat),.slice (some ⟨g,0,none⟩) N.length N.length,.slice (some ⟨P0,0,none⟩) L.length L.length] (0,0) _ rfl ?_ underlying120 rfl (by kernel_rfl)) rfl ⟨x0,Q,_,_,rfl,XF hgg Jw.o.ln,aiO.pls Y1.o,Jw.o,Y1.o,YV.o,ji⟩;exact hb4
open Go.RowKit Go.Maps Go.Joins
theorem aiP:(prog.info? 67).map (fun i=>(i.zero,i.size,i.bytes))=some (some (.slice none 0 0),1,24):=by kernel_rfl
theorem aiQ(n:Nat)(hn:n<=1048576)(W:World):(Instr.makeSlice 122 (.int .i64 (n:Int)) (.int .i64 (n:Int))).run prog W=.ok (.slice (some ⟨W.heap.size,0,none⟩) n n) (W.alloc (.cells (List.replicate n (Value.slice none 0 0)).toArray 67)):=by
 obtain⟨i0,hi0,hii⟩:=Option.map_eq_some_iff.1 aiP;simp only[Prod.mk.injEq]at hii;obtain⟨hz0,hz1,hzb⟩:=hii;have:=run_make W 122 67 i0 (.slice none 0 0) underlying122 hi0 hz0 .i64 .i64 (n:Int) (n:Int) (by omega) (Int.le_refl _) (by rw[hzb];omega) (by omega);rw[this,hz1];have e:((n:Int)).toNat=n:=by omega
 rw[e,Nat.mul_one];have e2:(Value.slice none 0 0).cells=#[.slice none 0 0]:=rfl;rw[e2,Tz]
theorem aiR(w:World):(Instr.makeMap 123 none).run prog w=.ok (.map (some w.heap.size)) (w.alloc (.map #[] 0)):=by kernel_rfl
theorem aiS(w:World):(Instr.makeMap 124 none).run prog w=.ok (.map (some w.heap.size)) (w.alloc (.map #[] 0)):=by kernel_rfl
open Go.RowKit Go.Maps
theorem aiT(v v':Value)(N:List Nd)(L:List Re)(w:World)(h:NdS w v N)(h':ReS w v' L)(hN:N.length<=1048576)(hL:L.length<=1048576)(hS:∀y∈N,y.n.size<2 ^ 60/\y.r.size<2 ^ 60)(hV:∀x∈L,x.nm.size<2 ^ 60/\x.ve.size<2 ^ 60)(hLN:∀x∈L,x.nd.length<=1048576)(hSS:∀x∈L,∀y∈x.nd,y.n.size<2 ^ 60/\y.r.size<2 ^ 60) :
  Calls prog 26 #[v,v'] w fun e w'=>e=.returned (.int .i64 (fE N L))/\w.grownBy w' none:=by
 have CC:Hd (Calls prog 52 #[v'] w fun e w''=>e=.returned (.tuple #[.int .i64 (bQ L L.length).1,.int .i64 ((bQ L L.length).2:Int)])/\w.grownBy w'' none):=check_any v' L w h' hL hV hLN hSS;have CF:Hd (∀w',w.grownBy w' none->Calls prog 53 #[v] w' fun e w''=>e=.returned (.int .i64 (bY N))/\w'.grownBy w'' none):=fun w' hg=>Xt v N w' (h.grow hg) hN hS
 have HF:Hd (fE N L=if(bQ L L.length).1=0 then bY N else 7):=rfl;obtain⟨o,n,c,rfl⟩:∃o n c,v=.slice o n c:=by
  rcases h with⟨rfl,-⟩|⟨_,_,rfl,-⟩<;>exact⟨_,_,_,rfl⟩
 obtain⟨o',c',rfl⟩:=qj h';obtain⟨R,hR⟩:=zN (fE N L);obtain⟨E,hE⟩:=zN ((bQ L L.length).1);obtain⟨K,hK⟩:∃K:Int,((bQ L L.length).2:Int)=K:=⟨_,rfl⟩;obtain⟨F,DV⟩:=zN (bY N);rw[hR,hE,DV]at HF;rw[hE,hK]at CC;rw[DV]at CF;rw[hR];clear h h' hS hV hLN hSS hR hE hK DV;go_enter func26,ntmps26;go_wp2_with (go_at_call 52;refine CC.o.mono ?_);rintro e w1 ⟨rfl,hg1⟩
 by_cases hz:E=0
 ·subst hz;have HR:Hd (R=F):=by show R=F;rw[HF.o,if_pos (by trivial)]
  have bg:Hd (w.grownBy w1 none):=hg1;clear hg1;go_wp2_with (go_at_call 53;refine(CF.o _ bg.o).mono ?_;rintro e w2 ⟨rfl,hg2⟩);refine bodyPost_ret (results_tmp (t:=4) rfl _ _ _) rfl ⟨?_,ag bg.o hg2⟩;rw[HR.o];rfl
 ·have hb:(E != 0)=true:=by simp[hz]
  have HR:Hd (R=7):=by show R=7;rw[HF.o,if_neg hz]
  clear hz;go_wp2;refine bodyPost_ret (results_tmp (t:=4) rfl _ _ _) rfl ⟨?_,hg1⟩;rw[HR.o];rfl
open Go.RowKit Go.Maps Go.Joins
def PW(N:List Nd)(L:List Re)(O:List En)(fu:Int)(w:World)(e:Ending)(w':World):Prop:=∃(B S M nb Mc:Nat) (po:Option Addr) (pc:Nat) (P:List Pl) (x0:Pl) (rv:Value),e=.returned (.pointer (some ⟨S,0,none⟩))/\(w.heap.size<=S/\w.heap.size<=M/\w.heap.size<=B/\B<=w'.heap.size/\¬S=M/\¬Xb B S M nb)/\(P.length=L.length/\gY N L x0/\∀j (h1:j<L.length) (h2:j<P.length),gY L[j].nd L P[j])/\Dy B S M (.slice po P.length pc) (.slice (some ⟨nb,0,none⟩) L.length L.length) (.map (some Mc)) (aU [] (N.map (·.n))) [] 0 x0.bar rv (.slice none 0 0) (max fu 0) w'/\(∀w'',Fx (Xb B S M) w' w''->Nj L.length P (bG L) (dL L O) B S M nb Mc (.slice po P.length pc) w'')/\w.grownBy w' none
theorem aiU(no lo oo:Option Addr)(nc lc oc:Nat)(N:List Nd)(L:List Re)(O:List En)(fu:Int)(w:World)(h:NdS w (.slice no N.length nc) N)(h':ReS w (.slice lo L.length lc) L)(ho:EnS w (.slice oo O.length oc) O)(oD:∀x∈L,okV x.ve=true)(hr:∀y∈N,okR y.r=true)(hrr:∀x∈L,∀y∈x.nd,okR y.r=true)(hN:N.length<=1048576)(hL:L.length<=64)(hLN:∀x∈L,x.nd.length<=64)(hS:∀y∈N,y.n.size<2 ^ 60/\y.r.size<2 ^ 60)(hSS:∀x∈L,∀y∈x.nd,y.n.size<2 ^ 60/\y.r.size<2 ^ 60)(hV:∀x∈L,x.ve.size<2 ^ 60/\x.nm.size<2 ^ 60)(hO:O.length<=1048576)(hOV:∀x∈O,x.ve.size<2 ^ 60)(hfu:fu<9223372036854775808) :
  Calls prog 28 #[.slice no N.length nc,.slice lo L.length lc,.slice oo O.length oc,.int .i64 fu] w (PW N L O fu w):=by
 have CP:Hd (Calls prog 54 #[.slice no N.length nc,.slice lo L.length lc] w fun e w'=>∃(nam bar:Nat) (mo po:Option Addr) (mn mc pc:Nat),e=.returned (.agg #[.int .u64 (nam:Nat),.int .u64 (bar:Nat),.slice mo mn mc,.slice po L.length pc])/\Hd (∃(x:Pl) (Q:List Pl),x.bar=bar/\PlS w' (.slice po L.length pc) Q/\gY N L x/\Q.length=L.length/\(∀j (h1:j<L.length) (h2:j<Q.length),gY L[j].nd L Q[j])/\w.grownBy w' none)):=(aiI no lo nc lc N L w h h' oD hr hrr hN hL (fun x hx=>by have:=hLN x hx;omega) hS hSS (fun x hx=>(hV x hx).1)).mono fun e w' ⟨x,Q,mv,pv,h1,h2,h3,h4,h5,h6,h7⟩=>by
  obtain⟨po,pc,rfl⟩:=acv h3;obtain⟨mo,mn,mc,rfl⟩:∃o n c,mv=.slice o n c:=by
   rcases h2 with⟨rfl,-⟩|⟨a,cap,rfl,-⟩
   ·exact⟨_,_,_,rfl⟩
   ·exact⟨_,_,_,rfl⟩
  rw[h5]at h1 h3;exact⟨x.nam,x.bar,mo,po,mn,mc,pc,h1,x,Q,rfl,h3,h4,h5,h6,h7⟩
 have HN:=ae h;have HL:=ae h';have HO:=ae ho;have HH:=ae (And.intro hN (And.intro hLN (And.intro hS (And.intro hSS (And.intro hV (And.intro hO hOV))))));clear h h' ho oD hr hrr hN hLN hS hSS hV hO hOV;go_enter func28,ntmps28;go_wp2_with (first|(go_at_call 54;refine CP.o.mono ?_));rintro e w1 ⟨nam,bar,mo,po,mn,mc,pc,rfl,hp⟩;obtain⟨x0,P,hbar,hpl,hx0,hPl,Y2,hg1⟩:=hp.o;have HP:=ae (And.intro hbar (And.intro hpl (And.intro hx0 (And.intro hPl Y2))));have bg:=ae hg1;clear hp hbar hpl hx0 Y2 hg1;go_wp2;obtain⟨g1,hg⟩:=zN w1.heap.size;obtain⟨W2,hW2⟩:=zN (w1.alloc (.cells #[.int .u64 (nam:Int),.int .u64 (bar:Int),.slice mo mn mc,.slice po L.length pc] 120));have hb2:W2.heap[g1]?=some (.cells #[.int .u64 (nam:Int),.int .u64 (bar:Int),.slice mo mn mc,.slice po L.length pc] 120 (0,0)):=by rw[<-hW2,<-hg];exact heap_alloc_new w1 _
 have d1:W2.cell? ⟨g1,1,none⟩=some (.int .u64 (bar:Int)):=by rw[ah hb2];rfl
 have d3:W2.cell? ⟨g1,3,none⟩=some (.slice po L.length pc):=by rw[ah hb2];rfl
 have HG2:Hd (w1.grownBy W2 none):=by rw[<-hW2];exact ak (ai w1 none) _
 obtain⟨G,hG⟩:=zN (W2.heap.size);have Gl:=ae hG;have hmk:=aiQ L.length (by omega);have hmc:=aiR;have hmu:=aiS;have HK:Hd (∀U,W2.grownBy U none->U.cell? ⟨g1,1,none⟩=some (.int .u64 (bar:Int))/\U.cell? ⟨g1,3,none⟩=some (.slice po L.length pc)):=fun U hU=>⟨hU.cell d1 (by simp),hU.cell d3 (by simp)⟩
 rw[hW2,hg];clear hW2 hb2
 go_cut [10] from 15 (Wy L O fu (.slice po L.length pc) bar G W2)
 case first =>
  go_region_held3 (fun u=>u.cell? ⟨g1,1,none⟩=some (.int .u64 (bar:Int))/\u.cell? ⟨g1,3,none⟩=some (.slice po L.length pc)) ((first|exact HK.o _ (by repeat (first|exact ai _ _|refine oW ?_|refine ak ?_ _))|go_keep)) (fail)
  all_goals (go_wp2_with fail;go_meet;exact agf Gl.o (by first|exact Or.inl ⟨rfl,rfl⟩|exact Or.inr (Or.inl ⟨rfl,rfl⟩)|exact Or.inr (Or.inr ⟨rfl,rfl⟩)) (by first|exact Or.inl ⟨rfl,rfl⟩|exact Or.inr (Or.inl ⟨rfl,rfl⟩)|exact Or.inr (Or.inr ⟨rfl,rfl⟩)) (by first|exact Or.inl ⟨rfl,rfl⟩|exact Or.inr (Or.inl ⟨rfl,rfl⟩)|exact Or.inr (Or.inr ⟨rfl,rfl⟩)) (by omega) ⟨by omega,by omega,rfl⟩)
 case rest =>
  obtain⟨S,M,nb,Mc,f,rfl,hge,hdi,hf,hnw,hgw⟩:=hcut;have xX:=ae hnw;have hbase:w.heap.size<=w1.heap.size/\w1.heap.size<=G:=⟨bg.o.size,by rw[<-Gl.o];exact HG2.o.size⟩;have aZ:=ae (ag HG2.o hgw);have CN:Hd (∀so sc (K:List Nd) w',K.length<=1048576->NdS w' (.slice so K.length sc) K->Calls prog 55 #[.slice so K.length sc] w' fun e w''=>∃g,e=.returned (.slice (some ⟨g,0,none⟩) K.length K.length)/\Hd (w'.heap.size<=g/\Nms w'' g K.length K.length (K.map (·.n))/\w'.grownBy w'' none)):=fun so sc K w' hK hN=>acz so sc K w' hN hK
  have CC:=ae (fun name w' (hg:w.grownBy w' none)=>afQ lo oo lc oc L O name w' (HL.o.grow hg) (HO.o.grow hg) hL (fun x hx=>by have:=(HH.o.2.2.2.2.1 x hx).1;omega) HH.o.2.2.2.2.2.1 (fun x hx=>by have:=HH.o.2.2.2.2.2.2 x hx;omega));have aiV:=ae (fun w' (hg:w.grownBy w' none) i (hi:i<L.length)=>lq (HL.o.grow hg) hi);have gG:=ae hbase;clear hnw hgw hmk hmc hmu d1 d3 hg hG;go_wp2;go_loopw [34] (fun vi wr=>∃i km:Nat,vi=.int .i64 i/\i<=L.length/\km<=i/\NwX L O S M nb Mc (.slice po L.length pc) f bar i i km wr/\w1.grownBy wr none) (fun vi _=>L.length-(intOf vi).toNat)
  case atStart=>exact⟨0,0,rfl,Nat.zero_le _,Nat.le_refl _,xX.o,aZ.o⟩
  case round =>
   obtain⟨i,km,rfl,hi,Gh,hnw,hgr⟩:=hrel;obtain⟨wo,hwo⟩:∃wo,wo=wr:=⟨_,rfl⟩;subst hwo;have DW:=ae hgr;have bD:=ae (ag bg.o hgr)
   by_cases hlt:i<L.length
   ·obtain⟨a,rfl,hlc,hat⟩:=aiV.o wo bD.o i hlt;obtain⟨e0,e1,⟨v,e2,hnd⟩,e3⟩:=hat i hlt;obtain⟨so,sc,rfl⟩:∃o c,v=.slice o L[i].nd.length c:=by
     rcases hnd with⟨rfl,h⟩|⟨a,cap,rfl,-⟩
     ·exact⟨none,0,by rw[h];rfl⟩
     ·exact⟨_,_,rfl⟩
    have xQ:=ae (Df L i hlt);have Y3:=HH.o.2.1 L[i] (List.getElem_mem _);have Y4:=(HH.o.2.2.2.2.1 L[i] (List.getElem_mem _)).2;have Y5:=ae (mX L i hlt);obtain⟨⟨nm,ve,nd,da⟩,hx⟩:∃x,L[i]=x:=⟨_,rfl⟩;have bW:Hd (L[i].nm=nm):=by rw[hx];exact rfl
    rw[hx]at e0 e1 e2 e3 hnd xQ Y3 Y4 Y5;simp only[]at e0 e1 e2 e3 hnd xQ Y3 Y4 Y5;have hic:i<lc:=by omega
    obtain⟨R,hR⟩:=zN (wo.heap.size);obtain⟨WR,PX⟩:=zN (wo.alloc (.cells #[.string nm,.string ve,.slice so nd.length sc,.string da] 38));have hgA:wo.grownBy WR none:=by rw[<-PX];exact ak (ai wo none) _
    have PY:WR.heap[R]?=some (.cells #[.string nm,.string ve,.slice so nd.length sc,.string da] 38 (0,0)):=by rw[<-PX,<-hR];exact heap_alloc_new wo _
    have r0:WR.cell? ⟨R,0,none⟩=some (.string nm):=by rw[ah PY];rfl
    have r2:WR.cell? ⟨R,2,none⟩=some (.slice so nd.length sc):=by rw[ah PY];rfl
    have xh:=hnw.grow hgA;have aiW:=ae xh;obtain⟨⟨-,s1,s2,-⟩,-⟩:=xh.sb.cells;have ny:=ae hgA;have Gp:Hd (nb<R/\S<R/\M<R/\Mc<R):=by
     obtain⟨cur,q1,-⟩:=hnw.row;obtain⟨D,q2,-⟩:=hnw.cd;have q3:=q2.lt;rw[<-hR];exact⟨(aC q1),(aC hnw.sb),(aC hnw.mm),q3⟩
    have C1:=ae (CN.o so sc nd WR.drew (by omega) (hnd.grow (oW hgA)));have aiX:Hd (∀w3,WR.drew.grownBy w3 none->(∃v,w3.cell? ⟨nb,i,none⟩=some v)/\w3.frozen? ⟨nb,i,none⟩=false):=fun w3 hg3=>by
     obtain⟨cur,q1,q2⟩:=((xh.grow (oW (ai WR none))).grow hg3).row;exact⟨⟨cur[i]'(by omega),by rw[ah q1];exact Array.getElem?_eq_getElem (by omega)⟩,Lib.frozen_of_heap q1 i⟩
    have Ad:Hd (∀w3,WR.drew.grownBy w3 none->w3.cell? ⟨S,1,none⟩=some (.slice (some ⟨nb,0,none⟩) L.length L.length)/\w3.cell? ⟨R,2,none⟩=some (.slice so nd.length sc)):=fun w3 hg3=>⟨hg3.cell s1 (by simp),hg3.cell r2 (by simp)⟩
    have aiY:Hd (∀w3 v,WR.drew.grownBy w3 none->(w3.setCell ⟨nb,i,none⟩ v).cell? ⟨S,1,none⟩=some (.slice (some ⟨nb,0,none⟩) L.length L.length)/\(w3.setCell ⟨nb,i,none⟩ v).cell? ⟨R,2,none⟩=some (.slice so nd.length sc)):=fun w3 v hg3=>by
     have hf3:Fx (fun b=>b=nb) w3 (w3.setCell ⟨nb,i,none⟩ v):=(Fx.refl (fun b=>b=nb) w3).set (Or.inl rfl) _ _;exact⟨hf3.cell (Ad.o w3 hg3).1 hdi.2.1,hf3.cell (Ad.o w3 hg3).2 (by have:=Gp.o;omega)⟩
    have HR:=ae hR;have O4:=ae PX;clear hat hnd hx hnw xh hgA PY hgr s2;go_upto_region 6 with fail
    go_region_held3 (fun u=>u.cell? ⟨S,1,none⟩=some (.slice (some ⟨nb,0,none⟩) L.length L.length)/\u.cell? ⟨R,2,none⟩=some (.slice so nd.length sc)) ((first|exact Ad.o _ (by assumption)|exact aiY.o _ _ (by assumption)|go_keep)) (first|(go_at_call 55;refine C1.o.mono ?_;rintro e w3 ⟨ng,rfl,hnm⟩;have hg3:=hnm.o.2.2;obtain⟨⟨vx,BK⟩,hfx⟩:=aiX.o w3 hg3))
    have uC:=hnm.o.1;have hlen:(bG L i).length=nd.length:=by rw[xQ.o];simp
    have Y6:NwX L O S M nb Mc (.slice po L.length pc) f bar (i+1) i km (w3.setCell ⟨nb,i,none⟩ (.slice (some ⟨ng,0,none⟩) nd.length nd.length)):=by
     have hq:=(aiW.o.grow (oW (ai WR none))).grow hg3;obtain⟨cur,q1,q2,q3⟩:=hnm.o.2.1;have:=hq.name (ng:=ng) (nc:=nd.length) ⟨hdi.2.1,hdi.2.2.2.1,fun e=>hdi.2.2.2.2.2 e.symm⟩ hlt (by omega) (aC q1) ?_ (fun t ht=>?_)
     ·rw[hlen]at this;exact this
     ·have h1:=ny.o.size;have h2:=HR.o;have h3:=Gp.o;have h4:WR.drew.heap.size=WR.heap.size:=rfl;refine⟨?_,?_,?_,?_⟩<;>omega
     ·rw[ah q1];have hE:∀(K:List ByteArray) (hK:K=nd.map (·.n)) (ht:t<K.length),cur[t]?=some (.string K[t]):=fun K hK ht=>by
       subst hK;exact q3 t ht (by simpa using ht)
      exact hE _ xQ.o ht
    have Gq:=ae Y6;have vP:w1.grownBy (w3.setCell ⟨nb,i,none⟩ (.slice (some ⟨ng,0,none⟩) nd.length nd.length)) none:=sK (ag (ag DW.o (oW ny.o)) hg3) (bI (ai w3 (some nb)) _ _) (fun q hq=>by injection hq with hq;have:=hbase.2;omega);have qR:=ae vP;have r0':(w3.setCell ⟨nb,i,none⟩ (.slice (some ⟨ng,0,none⟩) nd.length nd.length)).cell? ⟨R,0,none⟩=some (.string nm):=by
     have hf3:Fx (fun b=>b=nb) w3 (w3.setCell ⟨nb,i,none⟩ (.slice (some ⟨ng,0,none⟩) nd.length nd.length)):=(Fx.refl (fun b=>b=nb) w3).set (Or.inl rfl) _ _;exact hf3.cell (hg3.cell r0 (by simp)) (by have:=Gp.o;omega)
    obtain⟨W6,mZ⟩:=zN (w3.setCell ⟨nb,i,none⟩ (.slice (some ⟨ng,0,none⟩) nd.length nd.length));rw[mZ]at Gq qR r0' ⊢;have jq:=ae (ag bg.o qR.o);have Y7:WR.heap.size<=W6.heap.size:=by
     rw[<-mZ];have h1:=hg3.size;have h2:(w3.setCell ⟨nb,i,none⟩ (.slice (some ⟨ng,0,none⟩) nd.length nd.length)).heap.size=w3.heap.size:=by simp[World.setCell]
     have h4:WR.drew.heap.size=WR.heap.size:=rfl;omega
    have nN:=ae Y7;obtain⟨D,hown,hall,Y8⟩:=Gq.o.cd;have Y9:=ae Y8;have HOWN:=ae hown;have Jd:=ae hown.isMap;have jH:=ae hall;have hkey:=Ia (x:=nm) (by unfold maxLen;omega);obtain⟨v0,cs0,hv0,-⟩:=hall nm;obtain⟨hs,PZ⟩:=zN (Maps.has D (kT nm));have zI:=ae PZ;have Nl:Hd (∀W:World,W.heap=W6.heap->(Instr.lookup 123 (.map (some Mc)) (.string nm) true).run prog W=.ok (.tuple #[v0,.bool hs]) W):=fun W hW=>by
     obtain⟨es,cl,q1,q⟩:=hown;obtain⟨v',ps,hrun,hv'⟩:=World.ownsMap.look_ok (w:=W) ⟨es,cl,by rw[hW];exact q1,q⟩ keyS underlying123 (Vk _) (show jo (.slice none 0 0)=some (vT,[]) from rfl) hkey;rw[TK hv' hv0,PZ]at hrun;exact hrun
    have P5:Hd (∀w5 (g n c:Nat),W6.grownBy w5 none->∃w9,(Instr.mapUpdate 123 (.map (some Mc)) (.string nm) (.slice (some ⟨g,0,none⟩) n c)).run prog w5=.ok () w9/\w9.ownsMap prog 9 jo Mc (km+1) (D.put (kT nm) (.agg [nZ n,nZ c,nZ g,nZ 0]))/\w5.grownBy w9 (some Mc)):=fun w5 g n c hg=>(hown.kept hg (by simp)).update keyS underlying123 (by unfold maxLen;omega) hkey rfl
    have hrun:=fun q=>Nl.o (W6.drewN q) rfl
    obtain⟨⟨-,-,s2,-⟩,-⟩:=Gq.o.sb.cells;clear mZ hown hall Y8 hv0 PZ hkey Y7 Y6 vP hg3 BK hfx uC hlen hnm s1 r2 r0
    cases hs with
    | true =>
     go_wp2;go_quiet (fail);go_wp2;exact⟨⟨i+1,km,by go_num,by omega,by omega,(Gq.o.seen HOWN.o jH.o Y9.o hlt (by rw[bW.o];exact zI.o)).grow (aH (ai W6 none) _),aH qR.o _⟩,by simp[intOf];omega⟩
    | false =>
     go_wp2;go_quiet (fail);go_upto_region 9 with fail
     obtain⟨W7,P6⟩:=zN (W6.drewN nq);have iw:W6.grownBy W7 none:=by rw[<-P6];exact aH (ai W6 none) _
     have Aj:=ae iw;have t2:=iw.cell s2 (by simp);have t0:=iw.cell r0' (by simp);have C3:=ae (CC.o nm W7.drew (ag jq.o (oW iw)));have wG:Hd (∀w5,W7.drew.grownBy w5 none->w5.cell? ⟨S,2,none⟩=some (.map (some Mc))/\w5.cell? ⟨R,0,none⟩=some (.string nm)):=fun w5 hg5=>⟨hg5.cell t2 (by simp),hg5.cell t0 (by simp)⟩
     have Kz:Hd (∀w5 w9,W7.drew.grownBy w5 none->w5.grownBy w9 (some Mc)->w9.cell? ⟨S,2,none⟩=some (.map (some Mc))/\w9.cell? ⟨R,0,none⟩=some (.string nm)):=fun w5 w9 hg5 ji=>⟨ji.cell (wG.o w5 hg5).1 (fun e=>hdi.2.2.1 (Option.some.inj e)),ji.cell (wG.o w5 hg5).2 (fun e=>by have h1:R=Mc:=Option.some.inj e;have:=Gp.o;omega)⟩
     rw[P6];clear hrun P6 iw s2 r0'
     go_region_held3 (fun u=>u.cell? ⟨S,2,none⟩=some (.map (some Mc))/\u.cell? ⟨R,0,none⟩=some (.string nm)) ((first|exact wG.o _ (by assumption)|exact Kz.o _ _ (by assumption) (by assumption)|go_keep)) (first|(go_at_call 56;refine C3.o.mono ?_;rintro e w5 ⟨g,c,cs,rfl,q1,q2,q3,q4,-,q5,hg5⟩;obtain⟨w9,aiZ,Za,ji⟩:=P5.o w5 g cs.length c (ag Aj.o (ag (oW (ai W7 none)) hg5))))
     have Zb:=Gq.o.grow (ag Aj.o (ag (oW (ai W7 none)) hg5));have Zc:NwX L O S M nb Mc (.slice po L.length pc) f bar (i+1) (i+1) (km+1) w9:=by
      refine Zb.cand ⟨hdi.2.2.1,hdi.2.2.2.2.1,hdi.2.2.2.2.2⟩ Jd.o (fun x=>?_) Y9.o hlt bW.o (v:=.slice (some ⟨g,0,none⟩) cs.length c) (cs:=cs) rfl ?_ q4 Za ji
      ·obtain⟨v,cs',k1,k2,k3⟩:=jH.o x;exact⟨v,cs',k1,k2.fx ((Fx.refl (fun _=>False) W6).gb (ag Aj.o (ag (oW (ai W7 none)) hg5)) (fun b e=>by cases e)) (fun _ _ _ h=>h),k3⟩
      ·rcases q3 with⟨e,-⟩|⟨a',cap,e,h1,h2⟩
       ·cases e
       ·injection e with e1 e2 e3
        cases e1
        subst e3;have hcl:(cs.map fun(k:Nat)=>(k:Int)).length=cs.length:=by simp
        refine Or.inr ⟨g,c,by rw[hcl],h1,q2,?_,fun j hj=>by have:=h2 j hj;rw[x9]at this;exact this⟩;have h3:=Gp.o;have h4:=nN.o;have h5:=Aj.o.size;have h6:=ny.o.size;have h7:=HR.o;have h8:W7.drew.heap.size=W7.heap.size:=rfl;refine⟨?_,?_,?_,?_⟩<;>omega
     have hgE:=sK (ag qR.o (ag Aj.o (ag (oW (ai W7 none)) hg5))) ji (fun q hq=>by injection hq with hq;have:=hbase.2;omega);have HE:=ae (And.intro Zc hgE);clear Zb Zc hgE Za ji hg5 q1 q2 q3 q4 q5 aiZ;go_wp2;exact⟨⟨i+1,km+1,by go_num,by omega,by omega,HE.o.1,HE.o.2⟩,by simp[intOf];omega⟩
   ·obtain rfl:i=L.length:=by omega
    have C4:=ae (CN.o no nc N wo HH.o.1 (HN.o.grow bD.o));have Gs:=ae hnw;clear hnw hgr;go_wp2_with (go_at_call 55;refine C4.o.mono ?_);rintro e w2 ⟨ng,rfl,hnm⟩;have hg2:=hnm.o.2.2;obtain⟨cur,q1,q2,q3⟩:=hnm.o.2.1;have uC:=hnm.o.1;have xh:=Gs.o.grow hg2;have hlen:(N.map (·.n)).length=N.length:=by simp
    have hlt4:S<wo.heap.size/\M<wo.heap.size/\nb<wo.heap.size/\Mc<wo.heap.size:=by
     obtain⟨cur,q1,-⟩:=Gs.o.row;obtain⟨D,q2,-⟩:=Gs.o.cd;exact⟨(aC Gs.o.sb),(aC Gs.o.mm),(aC q1),q2.lt⟩
    have CL:Hd (Calls prog 57 #[.pointer (some ⟨S,0,none⟩),.slice (some ⟨ng,0,none⟩) N.length N.length] w2 fun e w'=>(∃v,e=.returned v)/\Hd (PW N L O fu w (.returned (.pointer (some ⟨S,0,none⟩))) w')):=by
     have:=TF w2.heap.size S M ng N.length (.slice po L.length pc) (.slice (some ⟨nb,0,none⟩) L.length L.length) (.map (some Mc)) (.slice none 0 0) (.slice none 0 0) f 0 bar [] (N.map (·.n)) w2 xh.sb (World.ownsRow_nil _ _ _ _) (afN xh.mm) hdi.1 (Nat.le_refl _) (fun t ht=>by rw[ah q1];exact q3 t ht (by rw[hlen]at ht;exact ht)) (by
      rintro(h|h|h)
      ·omega
      ·omega
      ·cases h) (by rw[hlen];exact Nat.le_refl _) (fun x hx=>by
       obtain⟨y,hy,rfl⟩:=List.mem_map.1 hx;have:=(HH.o.2.2.1 y hy).1;unfold maxLen;omega) (by rw[hlen];have:=HH.o.1;simpa using this)
     rw[hlen]at this;refine this.mono ?_;rintro e w3 ⟨bs,bl,rv',rfl,-,k1,k2,k3,k4,k5⟩;refine⟨⟨_,rfl⟩,?_⟩;obtain⟨p1,p2,p3,p4,p5⟩:=HP.o;have k4':Fx (Xb w2.heap.size S M) w2 w3:=k4.mono fun b hb=>by
      rcases hb with h|h|h
      ·exact Or.inl h
      ·exact Or.inr (Or.inl h)
      ·cases h
     have hsz2:=hg2.size;have hs3:=k4.size;have hb1:=hbase.1;have hb2:=hbase.2;have lJ:=ag DW.o hg2;have ai0:=lJ.size;have keep:∀w'',Fx (Xb w2.heap.size S M) w2 w''->w1.grownBy w'' none:=fun w'' hf=>⟨hf.os.trans lJ.os,hf.tape.trans lJ.tape,hf.output.trans lJ.output,Nat.le_trans ai0 hf.size,fun b hb _=>(hf.block b (by omega) (fun h=>by
      rcases h with h|h|h<;>omega)).trans (lJ.block b hb (by simp))⟩
     subst p1;rw[<-p4]at p2;refine⟨w2.heap.size,S,M,nb,Mc,po,pc,P,x0,rv',rfl,⟨by omega,by omega,by omega,hs3,hdi.1,?_⟩,⟨p4,p3,p5⟩,?_,fun w'' hf=>?_,ag bg.o (keep w3 k4')⟩
     ·rintro(h|h|h)<;>omega
     ·rw[<-hf.2.2];exact⟨by rw[p4];exact k1,hf.1,hf.2.1,k2,World.ownsRow_nil _ _ _ _,k3⟩
     ·have Zd:=k4'.trans hf;refine NwX.ro (km:=km) (f:=f) (bar:=x0.bar) ?_ rfl ⟨fun e=>hdi.2.1 e.symm,fun e=>hdi.2.2.2.1 e.symm,fun e=>hdi.2.2.1 e.symm,fun e=>hdi.2.2.2.2.1 e.symm⟩ hL (p2.grow (keep w'' Zd)) Zd;rw[p4];exact xh
    clear hg2 q1 q2 q3 uC xh hlen hlt4 hnm;go_wp2_with (go_at_call 57;refine CL.o.mono ?_);rintro e w3 ⟨⟨v,rfl⟩,hpost⟩;go_wp2;go_ret;exact hpost.o
open Go.RowKit Go.Maps
def P7(N:List Nd)(L:List Re)(O:List En)(fu:Int)(S:Nat)(w:World)(e:Ending)(w':World):Prop:=w.grownBy w' none/\((jB N L O fu=.dry/\e=EK)\/(∃f,jB N L O fu=.no f/\e=.returned (.bool false))\/(∃ch:List Nat,jB N L O fu=.yes ch/\e=.returned (.bool true)/\∃(B:Nat) (pv nv cm rv im cv:Value) (f:Int) (A D:Nat),Sb w' S pv nv cm rv im cv f A D/\w'.ownsRow B 3 1 cv ch.length (ch.map fun(j:Nat)=>Value.int .i64 (j:Int))/\ch.length<=64/\(∀k∈ch,k<L.length)/\(ch.map (aF L)).Nodup))
theorem ai1{N:List Nd}{L:List Re}{O:List En}{fu:Int}{w wi:World}{e:Ending}(hN:N.length<=1040000)(hf:fE N L=0)(hS:∀y∈N,y.n.size<2 ^ 60/\y.r.size<2 ^ 60)(hSS:∀x∈L,∀y∈x.nd,y.n.size<2 ^ 60/\y.r.size<2 ^ 60)(hL:L.length<=64)(hLN:∀x∈L,x.nd.length<=64)(h:PW N L O fu wi e w):∃S,e=.returned (.pointer (some ⟨S,0,none⟩))/\wi.grownBy w none/\Calls prog 29 #[.pointer (some ⟨S,0,none⟩)] w fun e w'=>∀w0:World,w0.heap.size<=wi.heap.size->w0.grownBy w none->P7 N L O fu S w0 e w':=by
 obtain⟨B,S,M,nb,Mc,po,pc,P,x0,rv,h1,⟨s1,s2,s3,s4,s5,s6⟩,⟨p1,p2,p3⟩,hd,hr,hg⟩:=h;refine⟨S,h1,hg,?_⟩;have V:=ahj (O:=O) hN hL p1 p2 p3 hLN (fun x hx y hy=>by have:=(hSS x hx y hy).1;unfold maxLen;omega);refine(aeF L.length P (bG L) (dL L O) (dG N L) _ V B S M nb L.length Mc po pc p1 hL s5 s6 (Nat.le_refl _) w s4 hr (L.length+1) _ _ _ _ _ _ _ w rfl (ahk p2.ok.bar (fun y hy=>by have:=(hS y hy).1;unfold maxLen;omega)) hd (Fx.refl _ w)).mono ?_;intro e' w' hp w0 hw0 hg0;have fr:Fx (Xr S M rv (.slice none 0 0)) w w'->w0.grownBy w' none:=fun hx=>⟨hx.os.trans hg0.os,hx.tape.trans hg0.tape,hx.output.trans hg0.output,Nat.le_trans hg0.size hx.size,fun b hb _=>(hx.block b (Nat.lt_of_lt_of_le hb hg0.size) (fun hh=>by
  rcases hh with h|h|h|h
  ·omega
  ·omega
  ·have:=(sN hd.rr h).1;omega
  ·cases h)).trans (hg0.block b hb (by simp))⟩
 rcases hp with⟨hr',rfl,hx⟩|⟨ch',hr',rfl,hx,row',A',D',rv',cv',f',hd',hi,he⟩|⟨f',hr',rfl,rv',cv',hd',hfd⟩
 ·exact⟨fr hx,Or.inl ⟨hr',rfl⟩⟩
 ·refine⟨fr hx,Or.inr (Or.inr ⟨ch',hr',rfl,B,_,_,_,rv',_,cv',f',A',D',hd'.sb,hd'.cc,?_,fun k hk=>?_,hi.1.one⟩)⟩
  ·have:=hi.1.few;omega
  ·obtain⟨i,hi'⟩:=List.getElem?_of_mem hk;exact(hi.1.nm i k hi').1
 ·exact⟨fr hfd.1,Or.inr (Or.inl ⟨f',hr',rfl⟩)⟩
theorem Am(no lo oo:Option Addr)(nc lc oc:Nat)(N:List Nd)(L:List Re)(O:List En)(fu:Int)(w:World)(h:NdS w (.slice no N.length nc) N)(h':ReS w (.slice lo L.length lc) L)(ho:EnS w (.slice oo O.length oc) O)(hN:N.length<=1040000)(hL:L.length<=1048576)(hLN:∀x∈L,x.nd.length<=1048576)(hS:∀y∈N,y.n.size<2 ^ 60/\y.r.size<2 ^ 60)(hSS:∀x∈L,∀y∈x.nd,y.n.size<2 ^ 60/\y.r.size<2 ^ 60)(hV:∀x∈L,x.nm.size<2 ^ 60/\x.ve.size<2 ^ 60)(hO:O.length<=1048576)(hOV:∀x∈O,x.ve.size<2 ^ 60)(hfu:fu<9223372036854775808) :
  Calls prog 11 #[.slice no N.length nc,.slice lo L.length lc,.slice oo O.length oc,.int .i64 fu] w (Xy N L O fu w):=by
 obtain⟨ec,hec⟩:=zN w.heap.size;obtain⟨W1,hW1⟩:=zN (w.alloc (.cells #[.int .i64 0] 32));have hg1:w.grownBy W1 none:=by rw[<-hW1];exact ak (ai w none) _
 have hb1:W1.heap[ec]?=some (.cells #[.int .i64 0] 32 (0,0)):=by rw[<-hW1,<-hec];exact heap_alloc_new w _
 have uP:Hd (∀w',W1.grownBy w' none->w'.cell? ⟨ec,0,none⟩=some (.int .i64 0)/\w'.frozen? ⟨ec,0,none⟩=false):=fun w' hg=>by
  have hb:=(hg.block ec (aC hb1) (by simp)).trans hb1;exact⟨by rw[ah hb];rfl,Lib.frozen_of_heap hb 0⟩
 have HST:Hd (∀w' v,W1.grownBy w' none->w.grownBy (w'.setCell ⟨ec,0,none⟩ v) none):=fun w' v hg=>sK (ag hg1 hg) (bI (ai w' (some ec)) _ _) (fun q hq=>by injection hq with hq;omega)
 have CF:=ae (aiT _ _ N L W1 (h.grow hg1) (h'.grow hg1) (by omega) hL hS hV hLN hSS);have Ae:Hd (fE N L=0->(bQ L L.length).1=0/\bY N=0):=fun h0=>by
  unfold fE at h0;split at h0
  ·rename_i h1;exact⟨h1,h0⟩
  ·exact absurd h0 (by decide)
 have HS2:Hd (fE N L=0->L.length<=50/\∀x∈L,x.nd.length<=20):=fun h0=>⟨(uN L (Ae.o h0).1).1,fun x hx=>((uN L (Ae.o h0).1).2 x hx).1⟩
 have CN:Hd (fE N L=0->∀w',W1.grownBy w' none->Calls prog 28 #[.slice no N.length nc,.slice lo L.length lc,.slice oo O.length oc,.int .i64 fu] w' fun e w''=>∃S,e=.returned (.pointer (some ⟨S,0,none⟩))/\Hd (w'.grownBy w'' none/\Calls prog 29 #[.pointer (some ⟨S,0,none⟩)] w'' (P7 N L O fu S w'))):=fun h0 w' hg=>by
  obtain⟨k1,k2⟩:=Ae.o h0;obtain⟨q1,q2⟩:=uN L k1;have hgw:=ag hg1 hg;refine(aiU no lo oo nc lc oc N L O fu w' (h.grow hgw) (h'.grow hgw) (ho.grow hgw) (fun x hx=>(q2 x hx).2.1) (fun y hy=>by
   have:=Dx k2 y hy;unfold iC at this;rw[Bool.and_eq_true]at this;exact this.2) (fun x hx=>(q2 x hx).2.2) (by omega) (by omega) (fun x hx=>by have:=(q2 x hx).1;omega) hS hSS (fun x hx=>⟨(hV x hx).2,(hV x hx).1⟩) hO hOV hfu).mono ?_
  intro e w'' hp;obtain⟨S,e1,e2,e3⟩:=ai1 hN h0 hS hSS (by omega) (fun x hx=>by have:=(q2 x hx).1;omega) hp;exact⟨S,e1,e2,e3.mono fun e w3 hq=>hq w' (Nat.le_refl _) e2⟩
 have CS:Hd (fE N L=0->∀wb w' S e,W1.grownBy w' none->P7 N L O fu S wb e w'->e=.returned (.bool true)->Calls prog 30 #[.pointer (some ⟨S,0,none⟩),.slice lo L.length lc] w' fun e w''=>∃(o:Option Addr) (c:Nat) (C:List Nat),e=.returned (.slice o C.length c)/\Hd (w'.grownBy w'' none/\∀w3,w''.grownBy w3 (some ec)->w3.ownsRow w.heap.size 3 1 (.slice o C.length c) C.length (nI C)/\(∃ch,jB N L O fu=.yes ch/\C.Perm ch)/\(C.Pairwise fun a b=>cT (aF L a) (aF L b)<=0)/\(C.map (aF L)).Nodup/\C.length<=64/\∀k∈C,k<L.length)):=fun h0 wb w' S e hg hp he=>by
  have q1:=(HS2.o h0).1
  rcases hp with⟨-,⟨-,rfl⟩|⟨-,-,rfl⟩|⟨ch,hrs,-,B,pv,nv,cm,rv,im,cv,f,A,D,k1,k2,k3,k4,k5⟩⟩
  ·cases he
  ·cases he
  refine(aet S pv nv cm rv im cv f A D B lo lc L ch w' k1 k2 (h'.grow (ag hg1 hg)) (by omega) (by omega) k4).mono ?_;rintro e w'' ⟨C,o,c,e1,e2,e3,e4,e5⟩;refine⟨o,c,C,e1,e5,fun w3 hg3=>⟨?_,⟨ch,hrs,e2⟩,e3,(e2.map (aF L)).nodup_iff.2 k5,by rw[e2.length_eq];exact k3,fun k hk=>k4 k (e2.subset hk)⟩⟩;refine(MX e4 (ag hg1 hg).size).kept hg3 (Or.inr fun e=>?_);have h3:=(e4.lt ec e).1;have h4:=(aC hb1);have h5:=hg.size;omega
 have HW1:=ae hW1;obtain⟨F,hF⟩:=zN (fE N L);have HF:=ae hF;have CI:=ae (fun w'=>catch_idle ⟨ec,0,none⟩ w');have CP:=ae (fun w' (hg:W1.grownBy w' none)=>catch_panicking ⟨ec,0,none⟩ 0 w' (uP.o w' hg).1 (uP.o w' hg).2);have hmf:∀(fn:Fn) (first cap:Array Value) (w:World),(Instr.makeFunc fn first cap).run prog w=.ok (.func fn first cap) w:=fun _ _ _ _=>rfl
 rw[hF]at CF CN CS;clear h h' ho hS hSS hV hOV hLN hb1 hg1 hF
 go_enter_defers func11,ntmps11
 go_wp2_with (go_at_call 26;refine CF.o.mono ?_);rintro e w2 ⟨rfl,hg2⟩;obtain⟨d0,d1⟩:=uP.o w2 hg2;have HG2:=ae hg2;clear hg2
 by_cases hz:F=0
 ·subst hz;have C1:=ae (CN.o (by trivial) w2 HG2.o);go_wp2_with (go_at_call 28;refine C1.o.mono ?_);rintro e w3 ⟨S,rfl,hn⟩;have dD:=ae (ag HG2.o hn.o.1);have C2:=ae hn.o.2;clear hn d0 d1;go_wp2_with (go_at_call 29;refine C2.o.mono ?_);rintro e w4 hf;have Bo:=ae hf;have eX:=ae (ag HG2.o hf.1);obtain⟨d0,d1⟩:=uP.o w4 eX.o
  rcases hf.2 with⟨hrs,rfl⟩|⟨ff,hrs,rfl⟩|⟨ch,hrs,rfl,-⟩
  ·have aA:=ae hrs;clear hf hrs;refine leaves_cons (f:=27) (args:=#[.pointer (some ⟨ec,0,none⟩)]) (by simp) (by simp[go_sem]) ?_;refine(CP.o w4 eX.o).mono ?_;rintro e u' w'' ⟨rfl,rfl,rfl⟩;have hc:(w4.setCell ⟨ec,0,none⟩ (.int .i64 10)).cell? ⟨ec,0,none⟩=some (.int .i64 10):=by simp[go_sem,d0]
   simp[Leaves,settle,results,Tryz.results11,go_sem,hc];exact⟨HST.o w4 _ eX.o,none,0,[],10,rfl,World.ownsRow_nil _ _ _ _,Or.inr (Or.inl ⟨HF.o,aA.o,rfl,rfl⟩)⟩
  ·have aA:=ae hrs;clear hf hrs;go_wp2;refine leaves_cons (f:=27) (args:=#[.pointer (some ⟨ec,0,none⟩)]) (by simp) (by simp[go_sem]) ?_;refine(CI.o _).mono ?_;rintro e u' w'' ⟨rfl,rfl,rfl⟩;have hc:(w4.setCell ⟨ec,0,none⟩ (.int .i64 8)).cell? ⟨ec,0,none⟩=some (.int .i64 8):=by simp[go_sem,d0]
   simp[Leaves,settle,results,Tryz.results11,go_sem,hc];exact⟨HST.o w4 _ eX.o,none,0,[],8,rfl,World.ownsRow_nil _ _ _ _,Or.inr (Or.inr (Or.inl ⟨HF.o,⟨ff,aA.o⟩,rfl,rfl⟩))⟩
  ·have C3:=ae (CS.o (by trivial) w2 w4 S _ eX.o hf rfl);clear hf hrs;go_wp2_with (go_at_call 30;refine C3.o.mono ?_);rintro e w5 ⟨o,c,C,rfl,hs⟩;obtain⟨g0,g1⟩:=uP.o w5 (ag eX.o hs.o.1);go_wp2;refine leaves_cons (f:=27) (args:=#[.pointer (some ⟨ec,0,none⟩)]) (by simp) (by simp[go_sem]) ?_;refine(CI.o _).mono ?_;rintro e u' w'' ⟨rfl,rfl,rfl⟩;have hc:(w5.setCell ⟨ec,0,none⟩ (.int .i64 0)).cell? ⟨ec,0,none⟩=some (.int .i64 0):=by simp[go_sem,g0]
   simp[Leaves,settle,results,Tryz.results11,go_sem,hc];have hfin:=hs.o.2 _ (bI (ai w5 (some ec)) 0 (.int .i64 0));exact⟨HST.o w5 _ (ag eX.o hs.o.1),o,c,C,0,rfl,hfin.1,Or.inr (Or.inr (Or.inr ⟨HF.o,rfl,hfin.2⟩))⟩
 ·have hb:(F != 0)=true:=by simp[hz]
  have hc:(w2.setCell ⟨ec,0,none⟩ (.int .i64 F)).cell? ⟨ec,0,none⟩=some (.int .i64 F):=by simp[go_sem,d0]
  go_wp2;simp[bodyPostD,Leaves,results,Tryz.results11,go_sem,hc];exact⟨HST.o w2 _ HG2.o,none,0,[],F,rfl,World.ownsRow_nil _ _ _ _,Or.inl ⟨fun h=>hz (HF.o.symm.trans h),HF.o.symm,rfl⟩⟩
end Go.Proofs.YtiinliaoojfjaaaGreatDoor
