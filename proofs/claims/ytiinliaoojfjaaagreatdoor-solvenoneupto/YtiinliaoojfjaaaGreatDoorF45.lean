import Derived.Test.YtiinliaoojfjaaaGreatDoorF42
set_option linter.all false
set_option maxRecDepth 100000
set_option maxHeartbeats 0
open Go.Proofs.Tryz
namespace Go.Proofs.YtiinliaoojfjaaaGreatDoor
open Go.RowKit Go.Maps Go.Joins
theorem ru(w:World):w.grownBy w.drew none:=⟨rfl,rfl,rfl,Nat.le_refl _,fun _ _ _=>rfl⟩
theorem mg{w W:World}{q:Nat}(h:w.grownBy W none)(hq:w.heap.size<=q)(o:Nat)(v:Value):w.grownBy (W.setCell ⟨q,o,none⟩ v) none :=
 ⟨h.os,h.tape,h.output,by simpa [World.setCell] using h.size,fun k hk hn=>(heap_setCell_other W _ k _ (by show ¬k=q;omega)).trans (h.block k hk hn)⟩
theorem PSt.other{w:World}{b g n nam bar:Nat}{M:List Nat}(h:PSt w b g n nam bar M){q:Nat}(h1:¬q=b)(h2:¬q=g)(o:Nat)(v:Value):PSt (w.setCell ⟨q,o,none⟩ v) b g n nam bar M :=
 ⟨(heap_setCell_other w _ b _ (by show ¬b=q;exact fun e=>h1 e.symm)).trans h.1,(heap_setCell_other w _ g _ (by show ¬g=q;exact fun e=>h2 e.symm)).trans h.2.1,h.2.2⟩
theorem ahX(s:ByteArray)(w:World)(hs:s.size<2 ^ 60)(ho:okR s=true):Calls prog 115 #[.string s] w fun e w'=>∃(o:Option Addr) (n c:Nat) (E K:Int) (S:List Sp),e=.returned (.tuple #[.slice o n c,.int .i64 E,.int .i64 K])/\(OS w' w.heap.size (.slice o n c) S/\LOk S 70000/\Has S (jr (fJ s.data.toList).2.2))/\w.grownBy w' none:=by
 have h0:(fJ s.data.toList).1=0:=of_decide_eq_true ho;refine(WY s w (by omega)).mono ?_;rintro e w' ⟨o,n,c,rfl,hg,-,hok⟩;obtain⟨T,h1,h2,h3,h4⟩:=hok h0;exact⟨o,n,c,_,_,_,rfl,⟨h1,h2,h4⟩,hg⟩
theorem ahY(sl:Value)(S:List Sp)(f:V->Bool)(s:ByteArray)(w:World)(h:SpS w sl S)(hk:LOk S 70000)(hh:Has S f)(hv:okV s=true):Calls prog 117 #[sl,eY (aK s)] w fun e w'=>e=.returned (.bool (f (cutV (aK s))))/\w.grownBy w' none:=by
 have:=sF s;refine(aby sl S _ _ _ _ _ w h (by have:=hk.ln;omega) hk.sm (by show(aK s).pre.toArray.size<=_;simp;omega)).mono ?_;rintro e w' ⟨rfl,hg⟩;refine⟨bi ?_,hg⟩;rw[<-hh _ (agF hv)];simp[cutV]
theorem X6(o o':Option Addr)(c c':Nat)(a:Addr)(N:List Nd)(L:List Re)(w:World)(h:NdS w (.slice o N.length c) N)(h':ReS w (.slice o' L.length c') L)(hv:VrS w a L)(oD:∀x∈L,okV x.ve=true)(hr:∀y∈N,okR y.r=true)(hN:N.length<=1048576)(hL:L.length<=64)(hS:∀y∈N,y.n.size<2 ^ 60/\y.r.size<2 ^ 60) :
  Calls prog 89 #[.slice o N.length c,.slice o' L.length c',.slice (some a) L.length L.length] w fun e w'=>∃(x:Pl) (g:Nat),e=.returned (.agg #[.int .u64 (x.nam:Nat),.int .u64 (x.bar:Nat),.slice (some ⟨g,0,none⟩) N.length N.length])/\w'.heap[g]?=some (.cells (iW x.mt) 114 (0,0))/\gY N L x/\w.grownBy w' none:=by
 have zl:Hd (∀w',w.grownBy w' none->∀i,i<N.length->∃a,o=some a/\N.length<=c/\∀j (hj:j<N.length),NdAt w' (a.add (j*2)) N[j]):=fun w' hg i hi=>FZ (h.grow hg) hi
 have gq:Hd (∀w',w.grownBy w' none->∀i,i<L.length->∃a,o'=some a/\L.length<=c'/\∀j (hj:j<L.length),ReAt w' (a.add (j*4)) L[j]):=fun w' hg i hi=>lq (h'.grow hg) hi
 have HEV:Hd (∀w',w.grownBy w' none->VrS w' a L):=fun w' hg=>hv.grow hg
 have CP:Hd (∀y∈N,∀w,Calls prog 115 #[.string y.r] w fun e w'=>∃(o:Option Addr) (n c:Nat) (E K:Int) (S:List Sp),e=.returned (.tuple #[.slice o n c,.int .i64 E,.int .i64 K])/\(OS w' w.heap.size (.slice o n c) S/\LOk S 70000/\Has S (jr (fJ y.r.data.toList).2.2))/\w.grownBy w' none):=fun y hy w=>ahX y.r w (hS y hy).2 (hr y hy)
 have HVO:Hd (∀x∈L,okV x.ve=true):=oD;have CO:Hd (∀k w,k<64->Calls prog 98 #[.int .i64 (k:Nat)] w fun e w'=>e=.returned (.int .u64 ((2 ^ k:Nat):Int))/\w'=w):=fun k w hk=>KE k hk w
 obtain⟨R0,hR0⟩:=zN w.heap.size;have HR0:Hd (w.heap.size=R0):=hR0;have hmk:=ag5 N.length hN (w.alloc (.cells #[.int .u64 0,.int .u64 0,.slice none 0 0] 117));rw[World.size_alloc,hR0]at hmk;clear h h' hv oD hr hS;go_enter func89,ntmps89;go_wp2;obtain⟨G,hG⟩:=zN (R0+1);obtain⟨B,hB⟩:=zN (G+1);rw[hG,hB];have aZ:Hd (R0+1=G/\G+1=B):=⟨hG,hB⟩;have X7:Hd (PSt (((w.alloc (.cells #[.int .u64 0,.int .u64 0,.slice none 0 0] 117)).alloc (.cells (iW (List.replicate N.length 0)) 114)).alloc (.cells #[.int .u64 0,.int .u64 0,.slice (some ⟨G,0,none⟩) N.length N.length] 117)) B G N.length 0 0 (List.replicate N.length 0)):=by
  have s1:(w.alloc (.cells #[.int .u64 0,.int .u64 0,.slice none 0 0] 117)).heap.size=G:=by rw[World.size_alloc,HR0.o,hG]
  have s2:((w.alloc (.cells #[.int .u64 0,.int .u64 0,.slice none 0 0] 117)).alloc (.cells (iW (List.replicate N.length 0)) 114)).heap.size=B:=by rw[World.size_alloc,s1,hB]
  refine⟨?_,?_,by simp⟩
  ·have:=heap_alloc_new ((w.alloc (.cells #[.int .u64 0,.int .u64 0,.slice none 0 0] 117)).alloc (.cells (iW (List.replicate N.length 0)) 114)) (.cells #[.int .u64 0,.int .u64 0,.slice (some ⟨G,0,none⟩) N.length N.length] 117);rw[s2]at this;exact this
  ·have:=heap_alloc_new (w.alloc (.cells #[.int .u64 0,.int .u64 0,.slice none 0 0] 117)) (.cells (iW (List.replicate N.length 0)) 114);rw[s1]at this;exact((ak (ai _ none) _).block G (by rw[s2];omega) (by simp)).trans this
 have mQ:Hd (w.grownBy (((w.alloc (.cells #[.int .u64 0,.int .u64 0,.slice none 0 0] 117)).alloc (.cells (iW (List.replicate N.length 0)) 114)).alloc (.cells #[.int .u64 0,.int .u64 0,.slice (some ⟨G,0,none⟩) N.length N.length] 117)) none):=ak (ak (ak (ai w none) _) _) _;have iY:Hd ((((w.alloc (.cells #[.int .u64 0,.int .u64 0,.slice none 0 0] 117)).alloc (.cells (iW (List.replicate N.length 0)) 114)).alloc (.cells #[.int .u64 0,.int .u64 0,.slice (some ⟨G,0,none⟩) N.length N.length] 117)).heap[R0]?=some (.cells #[.int .u64 0,.int .u64 0,.slice none 0 0] 117 (0,0))/\B<(((w.alloc (.cells #[.int .u64 0,.int .u64 0,.slice none 0 0] 117)).alloc (.cells (iW (List.replicate N.length 0)) 114)).alloc (.cells #[.int .u64 0,.int .u64 0,.slice (some ⟨G,0,none⟩) N.length N.length] 117)).heap.size):=by
  have:=heap_alloc_new w (.cells #[.int .u64 0,.int .u64 0,.slice none 0 0] 117);rw[HR0.o]at this;refine⟨((ak (ak (ai _ none) _) _).block R0 (by rw[World.size_alloc,HR0.o];omega) (by simp)).trans this,?_⟩;rw[World.size_alloc,World.size_alloc,World.size_alloc,HR0.o];omega
 generalize (((w.alloc (.cells #[.int .u64 0,.int .u64 0,.slice none 0 0] 117)).alloc (.cells (iW (List.replicate N.length 0)) 114)).alloc (.cells #[.int .u64 0,.int .u64 0,.slice (some ⟨G,0,none⟩) N.length N.length] 117))=W0 at X7 mQ iY ⊢;clear hmk hR0 hG hB;go_loopw [21] (fun vi wr=>∃(i nam bar:Nat) (M:List Nat),vi=.int .i64 i/\i<=N.length/\PSt wr B G N.length nam bar M/\lF N L i 0 nam bar M/\E2 B G W0 wr) (fun vi _=>N.length-(intOf vi).toNat)
 case atStart=>exact⟨0,0,0,_,rfl,Nat.zero_le _,X7.o,ag6 N L _,E2.refl _ _ _⟩
 case round =>
  obtain⟨i,nam,bar,M,rfl,hi,hst,hpb,he⟩:=hrel;have bD:Hd (w.grownBy wr none):=he.gb mQ.o (by have:=aZ.o;have:=HR0.o;omega) (by have:=aZ.o;have:=HR0.o;omega);have jI:Hd (E2 B G W0 wr):=he;obtain⟨wo,hwo⟩:∃wo,wo=wr:=⟨_,rfl⟩;subst hwo
  by_cases hlt:i<N.length
  ·obtain⟨a1,ho,hcp,hat⟩:=zl.o wo bD.o i hlt;obtain⟨e0,e1⟩:=hat i hlt;have Du:=CP.o N[i] (List.getElem_mem hlt);have Pg:Hd (∀k,dE N[i].r (dY L k)=jr (fJ N[i].r.data.toList).2.2 (cutV (aK (dY L k)))):=fun k=>rfl
   obtain⟨y,hy⟩:=zN (N[i]);have HY:Hd (N[i]=y):=hy;rw[hy]at e0 e1 Du Pg;have Ph:Hd (∀w,Calls prog 115 #[.string y.r] w fun e w'=>∃(o:Option Addr) (n c:Nat) (E K:Int) (S:List Sp),e=.returned (.tuple #[.slice o n c,.int .i64 E,.int .i64 K])/\(OS w' w.heap.size (.slice o n c) S/\LOk S 70000/\Has S (jr (fJ y.r.data.toList).2.2))/\w.grownBy w' none):=Du;have hic:i<c:=by omega
   have HST:Hd (PSt wo B G N.length nam bar M):=hst;have HPB:Hd (lF N L i 0 nam bar M):=hpb;obtain⟨Y0,hY0⟩:=zN wo.heap.size;have X8:Hd (wo.heap.size=Y0):=hY0;have X9:Hd ((wo.alloc (.cells #[.string y.n,.string y.r] 36)).heap[Y0]?=some (.cells #[.string y.n,.string y.r] 36 (0,0))):=by rw[<-hY0];exact heap_alloc_new wo _
   have bg:Hd (wo.grownBy (wo.alloc (.cells #[.string y.n,.string y.r] 36)) none):=ak (ai wo none) _;subst ho;clear hat hcp hst hpb he Du hy;go_wp2_with (go_at_call 115;refine(Ph.o _).mono ?_);rintro e w2 ⟨oS,nS,cS,E,K,S,rfl,⟨hos,hlk,hhas⟩,hg2⟩;have bZ:Hd (OS w2 (Y0+1) (.slice oS nS cS) S/\LOk S 70000/\Has S (jr (fJ y.r.data.toList).2.2)):=by
    refine⟨?_,hlk,hhas⟩;rw[World.size_alloc,X8.o]at hos;exact hos
   have Ya:Hd (w2.heap[Y0]?=some (.cells #[.string y.n,.string y.r] 36 (0,0))):=(hg2.block Y0 (aC X9.o) (by simp)).trans X9.o;have HG2:Hd (wo.grownBy w2 none):=ag bg.o hg2;have Pj:Hd (PSt w2 B G N.length nam bar M):=HST.o.grow HG2.o;have HE2:Hd (E2 B G W0 w2):=jI.o.then HG2.o;have gp:Hd (B<Y0):=by
    have:=iY.o.2;have:=jI.o.size;have:=X8.o;show B<Y0;omega
   try rw[hY0]
   clear hos hlk hhas hg2 hY0 e0 e1;go_wp2;go_loopw [35] (fun vk wr=>∃(k nam bar:Nat) (M:List Nat),vk=.int .i64 k/\k<=L.length/\PSt wr B G N.length nam bar M/\lF N L i k nam bar M/\E2 B G w2 wr) (fun vk _=>L.length-(intOf vk).toNat)
   case atStart=>exact⟨0,nam,bar,M,rfl,Nat.zero_le _,Pj.o,HPB.o,E2.refl _ _ _⟩
   case round =>
    obtain⟨k,nam,bar,M,rfl,hk,hst,hpb,he⟩:=hrel;have HW2:Hd (w.grownBy w2 none):=HE2.o.gb mQ.o (by have:=aZ.o;have:=HR0.o;omega) (by have:=aZ.o;have:=HR0.o;omega);have wW:Hd (w.grownBy wr none):=he.gb HW2.o (by have:=aZ.o;have:=HR0.o;omega) (by have:=aZ.o;have:=HR0.o;omega);have HEk:Hd (E2 B G w2 wr):=he;have Yb:Hd (PSt wr B G N.length nam bar M):=hst;have DF:Hd (lF N L i k nam bar M):=hpb
    by_cases hkl:k<L.length
    ·obtain⟨a2,ho2,hcp2,gu⟩:=gq.o wr wW.o k hkl;obtain⟨f0,f1,⟨sv,f2,f2'⟩,f3⟩:=gu k hkl;have hvk:=HVO.o _ (List.getElem_mem hkl);have Ju:Hd (aF L k=L[k].nm/\dY L k=L[k].ve):=⟨mX L k hkl,wM L k hkl⟩;obtain⟨x,hx⟩:=zN (L[k]);have HX:Hd (L[k]=x):=hx;rw[hx]at f0 f1 f2' f3 hvk Ju;obtain⟨so,sn,sc,rfl⟩:∃o n c,sv=.slice o n c:=by
      rcases f2' with⟨rfl,-⟩|⟨_,_,rfl,-⟩<;>exact⟨_,_,_,rfl⟩
     have hyb:wr.heap[Y0]?=some (.cells #[.string y.n,.string y.r] 36 (0,0)):=(he.block Y0 (aC Ya.o) (by have:=gp.o;omega) (by have:=gp.o;have:=aZ.o;omega)).trans Ya.o;have yc:=(ak (ai wr none) (.cells #[.string x.nm,.string x.ve,.slice so sn sc,.string x.da] 38)).cell (show wr.cell? ⟨Y0,0,none⟩=some (.string y.n) by rw[ah hyb];rfl) (by simp);have hkc:k<c':=by omega
     obtain⟨W3,hW3⟩:=zN (wr.alloc (.cells #[.string x.nm,.string x.ve,.slice so sn sc,.string x.da] 38));have hx0:W3.cell? ⟨wr.heap.size,0,none⟩=some (.string x.nm):=by
      rw[<-hW3,ah (heap_alloc_new wr _)];rfl
     rw[hW3]at yc;have dD:Hd (wr.grownBy W3 none):=by rw[<-hW3];exact ak (ai wr none) _
     have Pm:Hd (PSt W3 B G N.length nam bar M):=Yb.o.grow dD.o;have yV:Hd (E2 B G w2 W3):=HEk.o.then dD.o;subst ho2;clear gu hcp2 hst hpb he hx f2' hyb
     by_cases hn:x.nm=y.n
     ·have hnn:(x.nm.toList == y.n.toList)=true:=by rw[hn];simp
      have oM:Hd (N[i].n=aF L k):=by show _=_;rw[HY.o,Ju.o.1];exact hn.symm
      obtain⟨p0,p1,p2,pf⟩:=Pm.o.cells;have pf0:=pf 0;have hnl:=DF.o.n1;have uS:=bits_or_u64_nat nam (2 ^ k) hnl (rG (by omega));have C1:Hd (∀w,Calls prog 98 #[.int .i64 (k:Nat)] w fun e w'=>e=.returned (.int .u64 ((2 ^ k:Nat):Int))/\w'=w):=fun w=>CO.o k w (by omega)
      obtain⟨X,hX⟩:=zN (nam ||| 2 ^ k)
      obtain⟨Z,hZ⟩:∃Z:Nat,2 ^ k=Z:=⟨_,rfl⟩;have Yc:Hd (nam ||| 2 ^ k=X):=hX;rw[hX]at uS;rw[hZ]at C1 uS;have Yd:Hd (2 ^ k=Z):=hZ;clear hn pf hX hZ hnl p1 p2;go_upto_region 10 with fail
      go_region_with (first|(go_at_call 98;refine(C1.o _).mono ?_;rintro e w' ⟨rfl,rfl⟩))
      all_goals (
       obtain⟨W4,iO⟩:=zN ((W3.setCell ⟨B,0,none⟩ (.int .u64 (X:Nat))).drew);have Bz:Hd (¬G=B):=by have:=aZ.o;show ¬G=B;omega
       have Ye:Hd (PSt W4 B G N.length X bar M):=by rw[<-iO];exact(Pm.o.nam Bz.o X).grow (ru _)
       have Jv:Hd (E2 B G w2 W4):=by rw[<-iO];exact(yV.o.set (Or.inl rfl) 0 _).then (ru _)
       have ahZ:Hd (w.grownBy W4 none):=Jv.o.gb HW2.o (by have:=aZ.o;have:=HR0.o;omega) (by have:=aZ.o;have:=HR0.o;omega);obtain⟨g0,g1,g2,g3,g4⟩:=HEV.o W4 ahZ.o k hkl;rw[HX.o]at g0 g1 g2 g3 g4;have CH:Hd (Calls prog 117 #[.slice oS nS cS,eY (aK x.ve)] W4 fun e w'=>e=.returned (.bool (jr (fJ y.r.data.toList).2.2 (cutV (aK x.ve))))/\W4.grownBy w' none):=ahY _ S _ x.ve W4 (Jv.o.own bZ.o.1 (by have:=gp.o;omega) (by have:=gp.o;have:=aZ.o;omega)).sps bZ.o.2.1 bZ.o.2.2 hvk;unfold eY at CH;obtain⟨v1,hv1⟩:=zN ((aK x.ve).major);obtain⟨v2,hv2⟩:=zN ((aK x.ve).minor);obtain⟨v3,hv3⟩:=zN ((aK x.ve).patch);obtain⟨v4,hv4⟩:∃v:ByteArray,⟨(aK x.ve).pre.toArray⟩=v:=⟨_,rfl⟩;obtain⟨v5,hv5⟩:∃v:ByteArray,⟨(aK x.ve).build.toArray⟩=v:=⟨_,rfl⟩;rw[hv1]at CH g0;rw[hv2]at CH g1;rw[hv3]at CH g2;rw[hv4]at CH g3
       rw[hv5]at CH g4;have HQ:Hd (dE N[i].r (dY L k)=jr (fJ y.r.data.toList).2.2 (cutV (aK x.ve))):=by show _=_;rw[HY.o,Ju.o.2];rfl
       obtain⟨q,hq⟩:=zN (jr (fJ y.r.data.toList).2.2 (cutV (aK x.ve)));rw[hq]at CH HQ;rw[iO];clear iO hW3 hv1 hv2 hv3 hv4 hv5 hq hx0 yc p0 pf0 f0 f1 f2 f3 hnn uS
       cases q with
       | true =>
        go_wp2_with (go_at_call 117;refine CH.o.mono ?_);rintro e w5 ⟨rfl,hg5⟩;have Af:Hd (PSt w5 B G N.length X bar M):=Ye.o.grow hg5;have Pn:Hd (E2 B G w2 w5):=Jv.o.then hg5;have hiM:i<M.length:=by rw[Af.o.2.2];exact hlt
        obtain⟨r0,r1⟩:=Af.o.cell i hiM;obtain⟨-,-,p2,-⟩:=Af.o.cells;have uS:=bits_or_u64_nat M[i] (2 ^ k) (DF.o.n3 _ (List.getElem_mem _)) (rG (by omega));have yF:Hd (lF N L i (k+1) (nam ||| 2 ^ k) bar (M.set i (M[i] ||| 2 ^ k))):=ag9 DF.o hlt hkl (by omega) oM.o HQ.o hiM;obtain⟨m,hm⟩:=zN (M[i]);obtain⟨m',hm'⟩:=zN (m ||| 2 ^ k)
        rw[hm]at r0 uS yF;rw[hm']at uS yF;rw[Yd.o]at uS;rw[Yc.o]at yF;clear hm hm' hg5 g0 g1 g2 g3 g4;go_upto_region 12 with fail
        go_region_with (first|(go_at_call 98;refine(C1.o _).mono ?_;rintro e w' ⟨rfl,rfl⟩))
        all_goals (
         have Po:Hd (PSt ((w5.setCell ⟨G,i,none⟩ (.int .u64 (m':Nat))).drew) B G N.length X bar (M.set i m')):=(Af.o.met Bz.o i m').grow (ru _);have Pq:Hd (E2 B G w2 ((w5.setCell ⟨G,i,none⟩ (.int .u64 (m':Nat))).drew)):=(Pn.o.set (Or.inr rfl) i _).then (ru _);go_wp2;go_roundw
         case rel=>exact⟨k+1,X,bar,M.set i m',by go_num,by omega,Po.o,yF.o,Pq.o⟩
         case measure=>simp[intOf];omega)
       | false =>
        go_wp2_with (first|(go_at_call 117;refine CH.o.mono ?_));rintro e w5 ⟨rfl,hg5⟩;have Af:Hd (PSt w5 B G N.length X bar M):=Ye.o.grow hg5;have Pn:Hd (E2 B G w2 w5):=Jv.o.then hg5;obtain⟨-,p1,-,pf⟩:=Af.o.cells;have pf1:=pf 1;have uS:=bits_or_u64_nat bar (2 ^ k) DF.o.n2 (rG (by omega));have yF:Hd (lF N L i (k+1) (nam ||| 2 ^ k) (bar ||| 2 ^ k) M):=aha DF.o hlt hkl (by omega) oM.o HQ.o;obtain⟨m',hm'⟩:=zN (bar ||| 2 ^ k)
        rw[hm']at uS yF;rw[Yd.o]at uS;rw[Yc.o]at yF;clear hm' hg5 g0 g1 g2 g3 g4 pf;go_upto_region 13 with fail
        go_region_with (first|(go_at_call 98;refine(C1.o _).mono ?_;rintro e w' ⟨rfl,rfl⟩))
        all_goals (
         have Po:Hd (PSt ((w5.setCell ⟨B,1,none⟩ (.int .u64 (m':Nat))).drew) B G N.length X m' M):=(Af.o.bar Bz.o m').grow (ru _);have Pq:Hd (E2 B G w2 ((w5.setCell ⟨B,1,none⟩ (.int .u64 (m':Nat))).drew)):=(Pn.o.set (Or.inl rfl) 1 _).then (ru _);go_wp2;go_roundw
         case rel=>exact⟨k+1,X,m',M,by go_num,by omega,Po.o,yF.o,Pq.o⟩
         case measure=>simp[intOf];omega))
     ·have hnn:(x.nm.toList == y.n.toList)=false:=pz hn;have Pv:Hd (lF N L i (k+1) nam bar M):=ag8 DF.o hlt hkl (by rw[HY.o,Ju.o.1];exact fun e=>hn e.symm);clear hn;go_wp2;go_roundw
      case rel=>exact⟨k+1,nam,bar,M,by go_num,by omega,Pm.o,Pv.o,yV.o⟩
      case measure=>simp[intOf];omega
    ·have hke:k=L.length:=by omega
     have Pv:Hd (lF N L (i+1) 0 nam bar M):=by
      rw[hke]at hpb;exact ag7 hpb hlt
     have ah0:Hd (E2 B G W0 wr):=by
      refine⟨he.os.trans HE2.o.os,he.tape.trans HE2.o.tape,he.output.trans HE2.o.output,Nat.le_trans HE2.o.size he.size,fun q hq h1 h2=>(he.block q (Nat.lt_of_lt_of_le hq HE2.o.size) h1 h2).trans (HE2.o.block q hq h1 h2)⟩
     clear hst hpb he hke hk;go_wp2;go_roundw
     case rel=>exact⟨i+1,nam,bar,M,by go_num,by omega,Yb.o,Pv.o,ah0.o⟩
     case measure=>simp[intOf];omega
  ·have hil:i=N.length:=by omega
   have Jw:Hd (gY N L ⟨nam,bar,M⟩):=by
    rw[hil]at hpb;exact ahb hpb hst.2.2 hN
   have HST:Hd (PSt wo B G N.length nam bar M):=hst;obtain⟨p0,p1,p2,-⟩:=hst.cells;have hrb:wo.heap[R0]?=some (.cells #[.int .u64 0,.int .u64 0,.slice none 0 0] 117 (0,0)):=(he.block R0 (by have:=iY.o.2;have:=aZ.o;omega) (by have:=aZ.o;omega) (by have:=aZ.o;omega)).trans iY.o.1;have ah1:Hd (wo.heap[R0]?=some (.cells #[.int .u64 0,.int .u64 0,.slice none 0 0] 117 (0,0))):=hrb;have q0:wo.cell? ⟨R0,0,none⟩=some (.int .u64 0):=by rw[ah hrb];rfl
   have q1:wo.cell? ⟨R0,1,none⟩=some (.int .u64 0):=by rw[ah hrb];rfl
   have q2:wo.cell? ⟨R0,2,none⟩=some (.slice none 0 0):=by rw[ah hrb];rfl
   have qf0:=Lib.frozen_of_heap hrb 0;have qf1:=Lib.frozen_of_heap hrb 1;have qf2:=Lib.frozen_of_heap hrb 2;clear hst hpb he hil hi hrb;go_wp2;have hb1:=block_setCell (i:=0) ah1.o (.int .u64 (nam:Nat));have hb2:=block_setCell (i:=1) hb1 (.int .u64 (bar:Nat));have hb3:=block_setCell (i:=2) hb2 (.slice (some ⟨G,0,none⟩) N.length N.length);have hneq:¬R0=B/\¬R0=G:=by have:=aZ.o;omega
   have ah2:=((HST.o.other (q:=R0) hneq.1 hneq.2 0 (.int .u64 (nam:Nat))).other (q:=R0) hneq.1 hneq.2 1 (.int .u64 (bar:Nat))).other (q:=R0) hneq.1 hneq.2 2 (.slice (some ⟨G,0,none⟩) N.length N.length);have ji:w.grownBy (((wo.setCell ⟨R0,0,none⟩ (.int .u64 (nam:Nat))).setCell ⟨R0,1,none⟩ (.int .u64 (bar:Nat))).setCell ⟨R0,2,none⟩ (.slice (some ⟨G,0,none⟩) N.length N.length)) none:=mg (mg (mg bD.o (Nat.le_of_eq HR0.o) _ _) (Nat.le_of_eq HR0.o) _ _) (Nat.le_of_eq HR0.o) _ _;refine bodyPost_ret (results_cell_row rfl _ _ R0 117 #[.int .u64 (nam:Nat),.int .u64 (bar:Nat),.slice (some ⟨G,0,none⟩) N.length N.length] (0,0) _ rfl ?_ underlying117 rfl (by kernel_rfl)) rfl ⟨⟨nam,bar,M⟩,G,rfl,ah2.2.1,Jw.o,ji⟩;exact hb3
end Go.Proofs.YtiinliaoojfjaaaGreatDoor
