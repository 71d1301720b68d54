import Derived.Test.YtapodndfpecglaaGreatDoorK31
import Derived.Test.YtapodndfpecglaaGreatDoorK26
set_option linter.all false
set_option maxRecDepth 100000
set_option maxHeartbeats 0
open Go.Proofs.Tryz
namespace Go.Proofs.YtapodndfpecglaaGreatDoor
open Go.RowKit Go.Maps Go.Joins
theorem oH(w:World):w.grownBy w.drew none:=⟨rfl,rfl,rfl,Nat.le_refl _,fun _ _ _=>rfl⟩
theorem kQ{w W:World}{q:Nat}(h:w.grownBy W none)(hq:w.heap.size<=q)(o:Nat)(v:Value):w.grownBy (W.setCell ⟨q,o,none⟩ v) none :=
 ⟨h.os,h.tape,h.output,by simpa [World.setCell] using h.size,fun k hk hn=>(heap_setCell_other W _ k _ (by show ¬k=q;omega)).trans (h.block k hk hn)⟩
theorem PSt.other{w:World}{b g n nam bar:Nat}{M:List Nat}(h:PSt w b g n nam bar M){q:Nat}(h1:¬q=b)(h2:¬q=g)(o:Nat)(v:Value):PSt (w.setCell ⟨q,o,none⟩ v) b g n nam bar M :=
 ⟨(heap_setCell_other w _ b _ (by show ¬b=q;exact fun e=>h1 e.symm)).trans h.1,(heap_setCell_other w _ g _ (by show ¬g=q;exact fun e=>h2 e.symm)).trans h.2.1,h.2.2⟩
theorem adK(s:ByteArray)(w:World)(hs:s.size<2 ^ 60)(ho:okR s=true):Calls prog 81 #[.string s] w fun e w'=>∃(o:Option Addr) (n c:Nat) (E K:Int) (S:List Sp),e=.returned (.tuple #[.slice o n c,.int .i64 E,.int .i64 K])/\(OS w' w.heap.size (.slice o n c) S/\LOk S 70000/\Has S (iZ (fF s.data.toList).2.2))/\w.grownBy w' none:=by
 have h0:(fF s.data.toList).1=0:=of_decide_eq_true ho;refine(Rq s w (by omega)).mono ?_;rintro e w' ⟨o,n,c,rfl,hg,-,hok⟩;obtain⟨T,h1,h2,h3,h4⟩:=hok h0;exact⟨o,n,c,_,_,_,rfl,⟨h1,h2,h4⟩,hg⟩
theorem adL(sl:Value)(S:List Sp)(f:V->Bool)(s:ByteArray)(w:World)(h:SpS w sl S)(hk:LOk S 70000)(hh:Has S f)(hv:okV s=true):Calls prog 83 #[sl,jr (aZ s)] w fun e w'=>e=.returned (.bool (f (cutV (aZ s))))/\w.grownBy w' none:=by
 have:=zl s;refine(WI sl S _ _ _ _ _ w h (by have:=hk.ln;omega) hk.sm (by show(aZ s).pre.toArray.size<=_;simp;omega)).mono ?_;rintro e w' ⟨rfl,hg⟩;refine⟨bn ?_,hg⟩;rw[<-hh _ (acK hv)];simp[cutV]
theorem SH(o o':Option Addr)(c c':Nat)(a:Addr)(N:List Nd)(L:List Re)(w:World)(h:NdS w (.slice o N.length c) N)(h':ReS w (.slice o' L.length c') L)(hv:VrS w a L)(hvo:∀x∈L,okV x.ve=true)(hr:∀y∈N,okR y.r=true)(hN:N.length<=1048576)(hL:L.length<=64)(hS:∀y∈N,y.n.size<2 ^ 60/\y.r.size<2 ^ 60) :
  Calls prog 54 #[.slice o N.length c,.slice o' L.length c',.slice (some a) L.length L.length] w fun e w'=>∃(x:Pl) (g:Nat),e=.returned (.agg #[.int .u64 (x.nam:Nat),.int .u64 (x.bar:Nat),.slice (some ⟨g,0,none⟩) N.length N.length])/\w'.heap[g]?=some (.cells (iG x.mt) 70 (0,0))/\gz N L x/\w.grownBy w' none:=by
 have wQ:Hd (∀w',w.grownBy w' none->∀i,i<N.length->∃a,o=some a/\N.length<=c/\∀j (hj:j<N.length),NdAt w' (a.add (j*2)) N[j]):=fun w' hg i hi=>Fa (h.grow hg) hi
 have kD:Hd (∀w',w.grownBy w' none->∀i,i<L.length->∃a,o'=some a/\L.length<=c'/\∀j (hj:j<L.length),ReAt w' (a.add (j*4)) L[j]):=fun w' hg i hi=>sG (h'.grow hg) hi
 have HEV:Hd (∀w',w.grownBy w' none->VrS w' a L):=fun w' hg=>hv.grow hg
 have CP:Hd (∀y∈N,∀w,Calls prog 81 #[.string y.r] w fun e w'=>∃(o:Option Addr) (n c:Nat) (E K:Int) (S:List Sp),e=.returned (.tuple #[.slice o n c,.int .i64 E,.int .i64 K])/\(OS w' w.heap.size (.slice o n c) S/\LOk S 70000/\Has S (iZ (fF y.r.data.toList).2.2))/\w.grownBy w' none):=fun y hy w=>adK y.r w (hS y hy).2 (hr y hy)
 have HVO:Hd (∀x∈L,okV x.ve=true):=hvo;have CO:Hd (∀k w,k<64->Calls prog 63 #[.int .i64 (k:Nat)] w fun e w'=>e=.returned (.int .u64 ((2 ^ k:Nat):Int))/\w'=w):=fun k w hk=>Hw k hk w
 obtain⟨R0,hR0⟩:=zN w.heap.size;have HR0:Hd (w.heap.size=R0):=hR0;have hmk:=ads N.length hN (w.alloc (.cells #[.int .u64 0,.int .u64 0,.slice none 0 0] 73));rw[World.size_alloc,hR0]at hmk;clear h h' hv hvo hr hS;go_enter func54,ntmps54;go_wp2;obtain⟨G,hG⟩:=zN (R0+1);obtain⟨B,hB⟩:=zN (G+1);rw[hG,hB];have bg:Hd (R0+1=G/\G+1=B):=⟨hG,hB⟩;have SK:Hd (PSt (((w.alloc (.cells #[.int .u64 0,.int .u64 0,.slice none 0 0] 73)).alloc (.cells (iG (List.replicate N.length 0)) 70)).alloc (.cells #[.int .u64 0,.int .u64 0,.slice (some ⟨G,0,none⟩) N.length N.length] 73)) B G N.length 0 0 (List.replicate N.length 0)):=by
  have s1:(w.alloc (.cells #[.int .u64 0,.int .u64 0,.slice none 0 0] 73)).heap.size=G:=by rw[World.size_alloc,HR0.o,hG]
  have s2:((w.alloc (.cells #[.int .u64 0,.int .u64 0,.slice none 0 0] 73)).alloc (.cells (iG (List.replicate N.length 0)) 70)).heap.size=B:=by rw[World.size_alloc,s1,hB]
  refine⟨?_,?_,by simp⟩
  ·have:=heap_alloc_new ((w.alloc (.cells #[.int .u64 0,.int .u64 0,.slice none 0 0] 73)).alloc (.cells (iG (List.replicate N.length 0)) 70)) (.cells #[.int .u64 0,.int .u64 0,.slice (some ⟨G,0,none⟩) N.length N.length] 73);rw[s2]at this;exact this
  ·have:=heap_alloc_new (w.alloc (.cells #[.int .u64 0,.int .u64 0,.slice none 0 0] 73)) (.cells (iG (List.replicate N.length 0)) 70);rw[s1]at this;exact((au (ak _ none) _).block G (by rw[s2];omega) (by simp)).trans this
 have lZ:Hd (w.grownBy (((w.alloc (.cells #[.int .u64 0,.int .u64 0,.slice none 0 0] 73)).alloc (.cells (iG (List.replicate N.length 0)) 70)).alloc (.cells #[.int .u64 0,.int .u64 0,.slice (some ⟨G,0,none⟩) N.length N.length] 73)) none):=au (au (au (ak w none) _) _) _;have iH:Hd ((((w.alloc (.cells #[.int .u64 0,.int .u64 0,.slice none 0 0] 73)).alloc (.cells (iG (List.replicate N.length 0)) 70)).alloc (.cells #[.int .u64 0,.int .u64 0,.slice (some ⟨G,0,none⟩) N.length N.length] 73)).heap[R0]?=some (.cells #[.int .u64 0,.int .u64 0,.slice none 0 0] 73 (0,0))/\B<(((w.alloc (.cells #[.int .u64 0,.int .u64 0,.slice none 0 0] 73)).alloc (.cells (iG (List.replicate N.length 0)) 70)).alloc (.cells #[.int .u64 0,.int .u64 0,.slice (some ⟨G,0,none⟩) N.length N.length] 73)).heap.size):=by
  have:=heap_alloc_new w (.cells #[.int .u64 0,.int .u64 0,.slice none 0 0] 73);rw[HR0.o]at this;refine⟨((au (au (ak _ none) _) _).block R0 (by rw[World.size_alloc,HR0.o];omega) (by simp)).trans this,?_⟩;rw[World.size_alloc,World.size_alloc,World.size_alloc,HR0.o];omega
 generalize (((w.alloc (.cells #[.int .u64 0,.int .u64 0,.slice none 0 0] 73)).alloc (.cells (iG (List.replicate N.length 0)) 70)).alloc (.cells #[.int .u64 0,.int .u64 0,.slice (some ⟨G,0,none⟩) N.length N.length] 73))=W0 at SK lZ iH ⊢;clear hmk hR0 hG hB;go_loopw [21] (fun vi wr=>∃(i nam bar:Nat) (M:List Nat),vi=.int .i64 i/\i<=N.length/\PSt wr B G N.length nam bar M/\kz N L i 0 nam bar M/\E2 B G W0 wr) (fun vi _=>N.length-(intOf vi).toNat)
 case atStart=>exact⟨0,0,0,_,rfl,Nat.zero_le _,SK.o,adt N L _,E2.refl _ _ _⟩
 case round =>
  obtain⟨i,nam,bar,M,rfl,hi,hst,hpb,he⟩:=hrel;have bM:Hd (w.grownBy wr none):=he.gb lZ.o (by have:=bg.o;have:=HR0.o;omega) (by have:=bg.o;have:=HR0.o;omega);have jP:Hd (E2 B G W0 wr):=he;obtain⟨wo,hwo⟩:∃wo,wo=wr:=⟨_,rfl⟩;subst hwo
  by_cases hlt:i<N.length
  ·obtain⟨a1,ho,hcp,hat⟩:=wQ.o wo bM.o i hlt;obtain⟨e0,e1⟩:=hat i hlt;have zL:=CP.o N[i] (List.getElem_mem hlt);have adM:Hd (∀k,gu N[i].r (gV L k)=iZ (fF N[i].r.data.toList).2.2 (cutV (aZ (gV L k)))):=fun k=>rfl
   obtain⟨y,hy⟩:=zN (N[i]);have HY:Hd (N[i]=y):=hy;rw[hy]at e0 e1 zL adM;have JV:Hd (∀w,Calls prog 81 #[.string y.r] w fun e w'=>∃(o:Option Addr) (n c:Nat) (E K:Int) (S:List Sp),e=.returned (.tuple #[.slice o n c,.int .i64 E,.int .i64 K])/\(OS w' w.heap.size (.slice o n c) S/\LOk S 70000/\Has S (iZ (fF y.r.data.toList).2.2))/\w.grownBy w' none):=zL;have hic:i<c:=by omega
   have HST:Hd (PSt wo B G N.length nam bar M):=hst;have HPB:Hd (kz N L i 0 nam bar M):=hpb;obtain⟨Y0,hY0⟩:=zN wo.heap.size;have SL:Hd (wo.heap.size=Y0):=hY0;have SN:Hd ((wo.alloc (.cells #[.string y.n,.string y.r] 59)).heap[Y0]?=some (.cells #[.string y.n,.string y.r] 59 (0,0))):=by rw[<-hY0];exact heap_alloc_new wo _
   have bI:Hd (wo.grownBy (wo.alloc (.cells #[.string y.n,.string y.r] 59)) none):=au (ak wo none) _;subst ho;clear hat hcp hst hpb he zL hy;go_wp2_with (go_at_call 81;refine(JV.o _).mono ?_);rintro e w2 ⟨oS,nS,cS,E,K,S,rfl,⟨hos,hlk,hhas⟩,hg2⟩;have cu:Hd (OS w2 (Y0+1) (.slice oS nS cS) S/\LOk S 70000/\Has S (iZ (fF y.r.data.toList).2.2)):=by
    refine⟨?_,hlk,hhas⟩;rw[World.size_alloc,SL.o]at hos;exact hos
   have SQ:Hd (w2.heap[Y0]?=some (.cells #[.string y.n,.string y.r] 59 (0,0))):=(hg2.block Y0 (aA SN.o) (by simp)).trans SN.o;have HG2:Hd (wo.grownBy w2 none):=ah bI.o hg2;have vM:Hd (PSt w2 B G N.length nam bar M):=HST.o.grow HG2.o;have HE2:Hd (E2 B G W0 w2):=jP.o.then HG2.o;have gK:Hd (B<Y0):=by
    have:=iH.o.2;have:=jP.o.size;have:=SL.o;show B<Y0;omega
   try rw[hY0]
   clear hos hlk hhas hg2 hY0 e0 e1;go_wp2;go_loopw [35] (fun vk wr=>∃(k nam bar:Nat) (M:List Nat),vk=.int .i64 k/\k<=L.length/\PSt wr B G N.length nam bar M/\kz N L i k nam bar M/\E2 B G w2 wr) (fun vk _=>L.length-(intOf vk).toNat)
   case atStart=>exact⟨0,nam,bar,M,rfl,Nat.zero_le _,vM.o,HPB.o,E2.refl _ _ _⟩
   case round =>
    obtain⟨k,nam,bar,M,rfl,hk,hst,hpb,he⟩:=hrel;have HW2:Hd (w.grownBy w2 none):=HE2.o.gb lZ.o (by have:=bg.o;have:=HR0.o;omega) (by have:=bg.o;have:=HR0.o;omega);have adN:Hd (w.grownBy wr none):=he.gb HW2.o (by have:=bg.o;have:=HR0.o;omega) (by have:=bg.o;have:=HR0.o;omega);have HEk:Hd (E2 B G w2 wr):=he;have SS:Hd (PSt wr B G N.length nam bar M):=hst;have zS:Hd (kz N L i k nam bar M):=hpb
    by_cases hkl:k<L.length
    ·obtain⟨a2,ho2,hcp2,ik⟩:=kD.o wr adN.o k hkl;obtain⟨f0,f1,⟨sv,f2,f2'⟩,f3⟩:=ik k hkl;have hvk:=HVO.o _ (List.getElem_mem hkl);have Ff:Hd (aQ L k=L[k].nm/\gV L k=L[k].ve):=⟨qF L k hkl,Rt L k hkl⟩;obtain⟨x,hx⟩:=zN (L[k]);have HX:Hd (L[k]=x):=hx;rw[hx]at f0 f1 f2' f3 hvk Ff;obtain⟨so,sn,sc,rfl⟩:∃o n c,sv=.slice o n c:=by
      rcases f2' with⟨rfl,-⟩|⟨_,_,rfl,-⟩<;>exact⟨_,_,_,rfl⟩
     have hyb:wr.heap[Y0]?=some (.cells #[.string y.n,.string y.r] 59 (0,0)):=(he.block Y0 (aA SQ.o) (by have:=gK.o;omega) (by have:=gK.o;have:=bg.o;omega)).trans SQ.o;have yc:=(au (ak wr none) (.cells #[.string x.nm,.string x.ve,.slice so sn sc,.string x.da] 61)).cell (show wr.cell? ⟨Y0,0,none⟩=some (.string y.n) by rw[ag hyb];rfl) (by simp);have hkc:k<c':=by omega
     obtain⟨W3,hW3⟩:=zN (wr.alloc (.cells #[.string x.nm,.string x.ve,.slice so sn sc,.string x.da] 61));have hx0:W3.cell? ⟨wr.heap.size,0,none⟩=some (.string x.nm):=by
      rw[<-hW3,ag (heap_alloc_new wr _)];rfl
     rw[hW3]at yc;have dJ:Hd (wr.grownBy W3 none):=by rw[<-hW3];exact au (ak wr none) _
     have JW:Hd (PSt W3 B G N.length nam bar M):=SS.o.grow dJ.o;have DY:Hd (E2 B G w2 W3):=HEk.o.then dJ.o;subst ho2;clear ik hcp2 hst hpb he hx f2' hyb
     by_cases hn:x.nm=y.n
     ·have hnn:(x.nm.toList == y.n.toList)=true:=by rw[hn];simp
      have lY:Hd (N[i].n=aQ L k):=by show _=_;rw[HY.o,Ff.o.1];exact hn.symm
      obtain⟨p0,p1,p2,pf⟩:=JW.o.cells;have pf0:=pf 0;have hnl:=zS.o.n1;have rq:=bits_or_u64_nat nam (2 ^ k) hnl (oV (by omega));have C1:Hd (∀w,Calls prog 63 #[.int .i64 (k:Nat)] w fun e w'=>e=.returned (.int .u64 ((2 ^ k:Nat):Int))/\w'=w):=fun w=>CO.o k w (by omega)
      obtain⟨X,hX⟩:=zN (nam ||| 2 ^ k)
      obtain⟨Z,hZ⟩:∃Z:Nat,2 ^ k=Z:=⟨_,rfl⟩;have SV:Hd (nam ||| 2 ^ k=X):=hX;rw[hX]at rq;rw[hZ]at C1 rq;have SX:Hd (2 ^ k=Z):=hZ;clear hn pf hX hZ hnl p1 p2;go_upto_region 10 with fail
      go_region_with (first|(go_at_call 63;refine(C1.o _).mono ?_;rintro e w' ⟨rfl,rfl⟩))
      all_goals (
       obtain⟨W4,iE⟩:=zN ((W3.setCell ⟨B,0,none⟩ (.int .u64 (X:Nat))).drew);have yI:Hd (¬G=B):=by have:=bg.o;show ¬G=B;omega
       have SY:Hd (PSt W4 B G N.length X bar M):=by rw[<-iE];exact(JW.o.nam yI.o X).grow (oH _)
       have Fg:Hd (E2 B G w2 W4):=by rw[<-iE];exact(DY.o.set (Or.inl rfl) 0 _).then (oH _)
       have adO:Hd (w.grownBy W4 none):=Fg.o.gb HW2.o (by have:=bg.o;have:=HR0.o;omega) (by have:=bg.o;have:=HR0.o;omega);obtain⟨g0,g1,g2,g3,g4⟩:=HEV.o W4 adO.o k hkl;rw[HX.o]at g0 g1 g2 g3 g4;have CH:Hd (Calls prog 83 #[.slice oS nS cS,jr (aZ x.ve)] W4 fun e w'=>e=.returned (.bool (iZ (fF y.r.data.toList).2.2 (cutV (aZ x.ve))))/\W4.grownBy w' none):=adL _ S _ x.ve W4 (Fg.o.own cu.o.1 (by have:=gK.o;omega) (by have:=gK.o;have:=bg.o;omega)).sps cu.o.2.1 cu.o.2.2 hvk;unfold jr at CH;obtain⟨v1,hv1⟩:=zN ((aZ x.ve).major);obtain⟨v2,hv2⟩:=zN ((aZ x.ve).minor);obtain⟨v3,hv3⟩:=zN ((aZ x.ve).patch);obtain⟨v4,hv4⟩:∃v:ByteArray,⟨(aZ x.ve).pre.toArray⟩=v:=⟨_,rfl⟩;obtain⟨v5,hv5⟩:∃v:ByteArray,⟨(aZ x.ve).build.toArray⟩=v:=⟨_,rfl⟩;rw[hv1]at CH g0;rw[hv2]at CH g1;rw[hv3]at CH g2;rw[hv4]at CH g3
       rw[hv5]at CH g4;have HQ:Hd (gu N[i].r (gV L k)=iZ (fF y.r.data.toList).2.2 (cutV (aZ x.ve))):=by show _=_;rw[HY.o,Ff.o.2];rfl
       obtain⟨q,hq⟩:=zN (iZ (fF y.r.data.toList).2.2 (cutV (aZ x.ve)));rw[hq]at CH HQ;rw[iE];clear iE hW3 hv1 hv2 hv3 hv4 hv5 hq hx0 yc p0 pf0 f0 f1 f2 f3 hnn rq
       cases q with
       | true =>
        go_wp2_with (go_at_call 83;refine CH.o.mono ?_);rintro e w5 ⟨rfl,hg5⟩;have xK:Hd (PSt w5 B G N.length X bar M):=SY.o.grow hg5;have JX:Hd (E2 B G w2 w5):=Fg.o.then hg5;have hiM:i<M.length:=by rw[xK.o.2.2];exact hlt
        obtain⟨r0,r1⟩:=xK.o.cell i hiM;obtain⟨-,-,p2,-⟩:=xK.o.cells;have rq:=bits_or_u64_nat M[i] (2 ^ k) (zS.o.n3 _ (List.getElem_mem _)) (oV (by omega));have vN:Hd (kz N L i (k+1) (nam ||| 2 ^ k) bar (M.set i (M[i] ||| 2 ^ k))):=adw zS.o hlt hkl (by omega) lY.o HQ.o hiM;obtain⟨m,hm⟩:=zN (M[i]);obtain⟨m',hm'⟩:=zN (m ||| 2 ^ k)
        rw[hm]at r0 rq vN;rw[hm']at rq vN;rw[SX.o]at rq;rw[SV.o]at vN;clear hm hm' hg5 g0 g1 g2 g3 g4;go_upto_region 12 with fail
        go_region_with (first|(go_at_call 63;refine(C1.o _).mono ?_;rintro e w' ⟨rfl,rfl⟩))
        all_goals (
         have JY:Hd (PSt ((w5.setCell ⟨G,i,none⟩ (.int .u64 (m':Nat))).drew) B G N.length X bar (M.set i m')):=(xK.o.met yI.o i m').grow (oH _);have JZ:Hd (E2 B G w2 ((w5.setCell ⟨G,i,none⟩ (.int .u64 (m':Nat))).drew)):=(JX.o.set (Or.inr rfl) i _).then (oH _);go_wp2;go_roundw
         case rel=>exact⟨k+1,X,bar,M.set i m',by go_num,by omega,JY.o,vN.o,JZ.o⟩
         case measure=>simp[intOf];omega)
       | false =>
        go_wp2_with (first|(go_at_call 83;refine CH.o.mono ?_));rintro e w5 ⟨rfl,hg5⟩;have xK:Hd (PSt w5 B G N.length X bar M):=SY.o.grow hg5;have JX:Hd (E2 B G w2 w5):=Fg.o.then hg5;obtain⟨-,p1,-,pf⟩:=xK.o.cells;have pf1:=pf 1;have rq:=bits_or_u64_nat bar (2 ^ k) zS.o.n2 (oV (by omega));have vN:Hd (kz N L i (k+1) (nam ||| 2 ^ k) (bar ||| 2 ^ k) M):=adx zS.o hlt hkl (by omega) lY.o HQ.o;obtain⟨m',hm'⟩:=zN (bar ||| 2 ^ k)
        rw[hm']at rq vN;rw[SX.o]at rq;rw[SV.o]at vN;clear hm' hg5 g0 g1 g2 g3 g4 pf;go_upto_region 13 with fail
        go_region_with (first|(go_at_call 63;refine(C1.o _).mono ?_;rintro e w' ⟨rfl,rfl⟩))
        all_goals (
         have JY:Hd (PSt ((w5.setCell ⟨B,1,none⟩ (.int .u64 (m':Nat))).drew) B G N.length X m' M):=(xK.o.bar yI.o m').grow (oH _);have JZ:Hd (E2 B G w2 ((w5.setCell ⟨B,1,none⟩ (.int .u64 (m':Nat))).drew)):=(JX.o.set (Or.inl rfl) 1 _).then (oH _);go_wp2;go_roundw
         case rel=>exact⟨k+1,X,m',M,by go_num,by omega,JY.o,vN.o,JZ.o⟩
         case measure=>simp[intOf];omega))
     ·have hnn:(x.nm.toList == y.n.toList)=false:=uY hn;have J3:Hd (kz N L i (k+1) nam bar M):=adv zS.o hlt hkl (by rw[HY.o,Ff.o.1];exact fun e=>hn e.symm);clear hn;go_wp2;go_roundw
      case rel=>exact⟨k+1,nam,bar,M,by go_num,by omega,JW.o,J3.o,DY.o⟩
      case measure=>simp[intOf];omega
    ·have hke:k=L.length:=by omega
     have J3:Hd (kz N L (i+1) 0 nam bar M):=by
      rw[hke]at hpb;exact adu hpb hlt
     have adP:Hd (E2 B G W0 wr):=by
      refine⟨he.os.trans HE2.o.os,he.tape.trans HE2.o.tape,he.output.trans HE2.o.output,Nat.le_trans HE2.o.size he.size,fun q hq h1 h2=>(he.block q (Nat.lt_of_lt_of_le hq HE2.o.size) h1 h2).trans (HE2.o.block q hq h1 h2)⟩
     clear hst hpb he hke hk;go_wp2;go_roundw
     case rel=>exact⟨i+1,nam,bar,M,by go_num,by omega,SS.o,J3.o,adP.o⟩
     case measure=>simp[intOf];omega
  ·have hil:i=N.length:=by omega
   have Fh:Hd (gz N L ⟨nam,bar,M⟩):=by
    rw[hil]at hpb;exact ady hpb hst.2.2 hN
   have HST:Hd (PSt wo B G N.length nam bar M):=hst;obtain⟨p0,p1,p2,-⟩:=hst.cells;have hrb:wo.heap[R0]?=some (.cells #[.int .u64 0,.int .u64 0,.slice none 0 0] 73 (0,0)):=(he.block R0 (by have:=iH.o.2;have:=bg.o;omega) (by have:=bg.o;omega) (by have:=bg.o;omega)).trans iH.o.1;have adQ:Hd (wo.heap[R0]?=some (.cells #[.int .u64 0,.int .u64 0,.slice none 0 0] 73 (0,0))):=hrb;have q0:wo.cell? ⟨R0,0,none⟩=some (.int .u64 0):=by rw[ag hrb];rfl
   have q1:wo.cell? ⟨R0,1,none⟩=some (.int .u64 0):=by rw[ag hrb];rfl
   have q2:wo.cell? ⟨R0,2,none⟩=some (.slice none 0 0):=by rw[ag hrb];rfl
   have qf0:=Lib.frozen_of_heap hrb 0;have qf1:=Lib.frozen_of_heap hrb 1;have qf2:=Lib.frozen_of_heap hrb 2;clear hst hpb he hil hi hrb;go_wp2;have hb1:=block_setCell (i:=0) adQ.o (.int .u64 (nam:Nat));have hb2:=block_setCell (i:=1) hb1 (.int .u64 (bar:Nat));have hb3:=block_setCell (i:=2) hb2 (.slice (some ⟨G,0,none⟩) N.length N.length);have hneq:¬R0=B/\¬R0=G:=by have:=bg.o;omega
   have adR:=((HST.o.other (q:=R0) hneq.1 hneq.2 0 (.int .u64 (nam:Nat))).other (q:=R0) hneq.1 hneq.2 1 (.int .u64 (bar:Nat))).other (q:=R0) hneq.1 hneq.2 2 (.slice (some ⟨G,0,none⟩) N.length N.length);have ru:w.grownBy (((wo.setCell ⟨R0,0,none⟩ (.int .u64 (nam:Nat))).setCell ⟨R0,1,none⟩ (.int .u64 (bar:Nat))).setCell ⟨R0,2,none⟩ (.slice (some ⟨G,0,none⟩) N.length N.length)) none:=kQ (kQ (kQ bM.o (Nat.le_of_eq HR0.o) _ _) (Nat.le_of_eq HR0.o) _ _) (Nat.le_of_eq HR0.o) _ _;refine bodyPost_ret (results_cell_row rfl _ _ R0 73 #[.int .u64 (nam:Nat),.int .u64 (bar:Nat),.slice (some ⟨G,0,none⟩) N.length N.length] (0,0) _ rfl ?_ underlying73 rfl (by kernel_rfl)) rfl ⟨⟨nam,bar,M⟩,G,rfl,adR.2.1,Fh.o,ru⟩;exact hb3
open Go.RowKit Go.Maps Go.Joins
structure PQ(w wr:World)(R0 V S0 P0 n g m:Nat)(x:Pl)(L:List Re):Prop where
 s0:wr.heap[S0]?=some (.cells #[.int .u64 (x.nam:Nat),.int .u64 (x.bar:Nat),.slice (some ⟨g,0,none⟩) m m,.slice (some ⟨P0,0,none⟩) n n] 76 (0,0))
 g0:wr.heap[g]?=some (.cells (iG x.mt) 70 (0,0))
 v0:RowV wr V n n L
 r0:wr.heap[R0]?=some (.cells #[.int .u64 0,.int .u64 0,.slice none 0 0,.slice none 0 0] 76 (0,0))
 gb:w.grownBy wr none
theorem PQ.grow{w wr w':World}{R0 V S0 P0 n g m:Nat}{x:Pl}{L:List Re}(h:PQ w wr R0 V S0 P0 n g m x L)(hg:wr.grownBy w' none):PQ w w' R0 V S0 P0 n g m x L :=
 ⟨(hg.block S0 (aA h.s0) (by simp)).trans h.s0,(hg.block g (aA h.g0) (by simp)).trans h.g0,h.v0.grow hg,(hg.block R0 (aA h.r0) (by simp)).trans h.r0,ah h.gb hg⟩
theorem PQ.set{w wr:World}{R0 V S0 P0 n g m:Nat}{x:Pl}{L:List Re}(h:PQ w wr R0 V S0 P0 n g m x L){cs:Array Value}{fz:Nat × Nat}(hp:wr.heap[P0]?=some (.cells cs 73 fz))(hw:w.heap.size<=P0)(o:Nat)(v:Value):PQ w (wr.setCell ⟨P0,o,none⟩ v) R0 V S0 P0 n g m x L:=by
 have hne:∀(k:Nat) (ds:Array Value) (t:TypeId),wr.heap[k]?=some (.cells ds t (0,0))->¬t=73->¬k=P0:=fun k ds t hk ht e=>by
  subst e;rw[hp]at hk;injection hk with hk
  injection hk with _ e2 _
  exact ht e2.symm
 refine⟨(heap_setCell_other _ _ S0 _ (hne _ _ _ h.s0 (by decide))).trans h.s0,(heap_setCell_other _ _ g _ (hne _ _ _ h.g0 (by decide))).trans h.g0,?_,(heap_setCell_other _ _ R0 _ (hne _ _ _ h.r0 (by decide))).trans h.r0,kQ h.gb hw _ _⟩;obtain⟨cur,h1,h2,h3⟩:=h.v0;exact⟨cur,(heap_setCell_other _ _ V _ (hne _ _ _ h1 (by decide))).trans h1,h2,h3⟩
theorem adS{w:World}{P n:Nat}{Q:List Pl}(h:RowP w P n Q):∃cs,w.heap[P]?=some (.cells cs 73 (0,0)):=by
 obtain⟨cur,h1,-⟩:=h;exact⟨cur,h1⟩
theorem RowP.other{w:World}{P n:Nat}{Q:List Pl}(h:RowP w P n Q){q:Nat}{cs:Array Value}{fz:Nat × Nat}(hq:w.heap[q]?=some (.cells cs 76 fz))(o:Nat)(v:Value):RowP (w.setCell ⟨q,o,none⟩ v) P n Q:=by
 have hne:∀(k:Nat) (ds:Array Value) (t:TypeId),w.heap[k]?=some (.cells ds t (0,0))->¬t=76->¬k=q:=fun k ds t hk ht e=>by
  subst e;rw[hq]at hk;injection hk with hk
  injection hk with _ e2 _
  exact ht e2.symm
 obtain⟨cur,h1,h2,h3⟩:=h;refine⟨cur,(heap_setCell_other _ _ P _ (hne _ _ _ h1 (by decide))).trans h1,h2,fun j hj=>?_⟩;obtain⟨g,c1,c2,c3,c4⟩:=h3 j hj;exact⟨g,c1,c2,c3,(heap_setCell_other _ _ g _ (hne _ _ _ c4 (by decide))).trans c4⟩
theorem zT{w:World}{P n:Nat}(h:w.heap[P]?=some (.cells (madeCells #[.int .u64 0,.int .u64 0,.slice none 0 0] (n*3)) 73 (0,0))):RowP w P n []:=⟨_,h,size_madeCells _ _,fun j hj=>by simp at hj⟩
theorem adT{w:World}{V n:Nat}{L:List Re}(h:w.heap[V]?=some (.cells (madeCells #[.int .i64 0,.int .i64 0,.int .i64 0,.string ⟨#[]⟩,.string ⟨#[]⟩] (n*5)) 109 (0,0))):RowV w V n 0 L:=⟨_,h,size_madeCells _ _,fun j hj h0=>by omega⟩
theorem J4{w W:World}{R0 V S0 P0 n g m:Nat}{x:Pl}{L:List Re}{a b c d:Value}(hs:W.heap[S0]?=some (.cells #[a,b,c,d] 76 (0,0)))(hg0:W.heap[g]?=some (.cells (iG x.mt) 70 (0,0)))(hv:RowV W V n n L)(hr:W.heap[R0]?=some (.cells #[.int .u64 0,.int .u64 0,.slice none 0 0,.slice none 0 0] 76 (0,0)))(hgb:w.grownBy W none)(hp:RowP W P0 n [])(hne:¬R0=S0)(hw:w.heap.size<=S0) :
  PQ w ((((W.setCell ⟨S0,0,none⟩ (.int .u64 (x.nam:Nat))).setCell ⟨S0,1,none⟩ (.int .u64 (x.bar:Nat))).setCell ⟨S0,2,none⟩ (.slice (some ⟨g,0,none⟩) m m)).setCell ⟨S0,3,none⟩ (.slice (some ⟨P0,0,none⟩) n n)) R0 V S0 P0 n g m x L/\RowP ((((W.setCell ⟨S0,0,none⟩ (.int .u64 (x.nam:Nat))).setCell ⟨S0,1,none⟩ (.int .u64 (x.bar:Nat))).setCell ⟨S0,2,none⟩ (.slice (some ⟨g,0,none⟩) m m)).setCell ⟨S0,3,none⟩ (.slice (some ⟨P0,0,none⟩) n n)) P0 n []:=by
 have hk:∀(k:Nat),¬k=S0->((((W.setCell ⟨S0,0,none⟩ (.int .u64 (x.nam:Nat))).setCell ⟨S0,1,none⟩ (.int .u64 (x.bar:Nat))).setCell ⟨S0,2,none⟩ (.slice (some ⟨g,0,none⟩) m m)).setCell ⟨S0,3,none⟩ (.slice (some ⟨P0,0,none⟩) n n)).heap[k]?=W.heap[k]?:=fun k hk=>by
  rw[heap_setCell_other _ _ k _ hk,heap_setCell_other _ _ k _ hk,heap_setCell_other _ _ k _ hk,heap_setCell_other _ _ k _ hk]
 have hne2:∀(k:Nat) (ds:Array Value) (t:TypeId),W.heap[k]?=some (.cells ds t (0,0))->¬t=76->¬k=S0:=fun k ds t hkk ht e=>by
  subst e;rw[hs]at hkk;injection hkk with hkk
  injection hkk with _ e2 _
  exact ht e2.symm
 refine⟨⟨?_,(hk g (hne2 _ _ _ hg0 (by decide))).trans hg0,?_,(hk R0 hne).trans hr,kQ (kQ (kQ (kQ hgb hw _ _) hw _ _) hw _ _) hw _ _⟩,?_⟩
 ·exact block_setCell (i:=3) (block_setCell (i:=2) (block_setCell (i:=1) (block_setCell (i:=0) hs _) _) _) _
 ·obtain⟨cur,h1,h2,h3⟩:=hv;exact⟨cur,(hk V (hne2 _ _ _ h1 (by decide))).trans h1,h2,h3⟩
 ·obtain⟨cur,h1,h2,h3⟩:=hp;exact⟨cur,(hk P0 (hne2 _ _ _ h1 (by decide))).trans h1,h2,fun j hj=>by simp at hj⟩
theorem ui{w:World}{b:Nat}{v0 v1 v2 v3:Value}{t:TypeId}(h:w.heap[b]?=some (.cells #[v0,v1,v2,v3] t (0,0))):w.cell? ⟨b,0,none⟩=some v0/\w.cell? ⟨b,1,none⟩=some v1/\w.cell? ⟨b,2,none⟩=some v2/\w.cell? ⟨b,3,none⟩=some v3/\∀i,w.frozen? ⟨b,i,none⟩=false :=
 ⟨by rw[ag h];rfl,by rw[ag h];rfl,by rw[ag h];rfl,by rw[ag h];rfl,fun i=>Lib.frozen_of_heap h i⟩
theorem adU(o o':Option Addr)(c c':Nat)(N:List Nd)(L:List Re)(w:World)(h:NdS w (.slice o N.length c) N)(h':ReS w (.slice o' L.length c') L)(hvo:∀x∈L,okV x.ve=true)(hr:∀y∈N,okR y.r=true)(hrr:∀x∈L,∀y∈x.nd,okR y.r=true)(hN:N.length<=1048576)(hL:L.length<=64)(hLN:∀x∈L,x.nd.length<=1048576)(hS:∀y∈N,y.n.size<2 ^ 60/\y.r.size<2 ^ 60)(hSS:∀x∈L,∀y∈x.nd,y.n.size<2 ^ 60/\y.r.size<2 ^ 60)(hV:∀x∈L,x.ve.size<2 ^ 60) :
  Calls prog 31 #[.slice o N.length c,.slice o' L.length c'] w fun e w'=>∃(x:Pl) (Q:List Pl) (mv pv:Value),e=.returned (.agg #[.int .u64 (x.nam:Nat),.int .u64 (x.bar:Nat),mv,pv])/\SnS w' mv x.mt/\PlS w' pv Q/\gz N L x/\Q.length=L.length/\(∀j (h1:j<L.length) (h2:j<Q.length),gz L[j].nd L Q[j])/\w.grownBy w' none:=by
 have kD:Hd (∀w',w.grownBy w' none->∀i,i<L.length->∃a,o'=some a/\L.length<=c'/\∀j (hj:j<L.length),ReAt w' (a.add (j*4)) L[j]):=fun w' hg i hi=>sG (h'.grow hg) hi
 have CP:Hd (∀x∈L,∀w,Calls prog 53 #[.string x.ve] w fun e w'=>∃E K:Int,e=.returned (.tuple #[jr (aZ x.ve),.int .i64 E,.int .i64 K])/\w.grownBy w' none):=fun x hx w=>(parse_any x.ve w (by have:=hV x hx;omega)).mono fun e w' ⟨h1,h2⟩=>⟨_,_,h1,h2⟩
 have CN:Hd (∀V w',w.grownBy w' none->RowV w' V L.length L.length L->Calls prog 54 #[.slice o N.length c,.slice o' L.length c',.slice (some ⟨V,0,none⟩) L.length L.length] w' fun e w''=>∃(x:Pl) (g:Nat),e=.returned (.agg #[.int .u64 (x.nam:Nat),.int .u64 (x.bar:Nat),.slice (some ⟨g,0,none⟩) N.length N.length])/\w''.heap[g]?=some (.cells (iG x.mt) 70 (0,0))/\gz N L x/\w'.grownBy w'' none):=fun V w' hg hv=>SH o o' c c' ⟨V,0,none⟩ N L w' (h.grow hg) (h'.grow hg) hv.vrs hvo hr hN hL hS
 have CR:Hd (∀V w' so sc (x:Re),x∈L->w.grownBy w' none->NdS w' (.slice so x.nd.length sc) x.nd->RowV w' V L.length L.length L->Calls prog 54 #[.slice so x.nd.length sc,.slice o' L.length c',.slice (some ⟨V,0,none⟩) L.length L.length] w' fun e w''=>∃(y:Pl) (g:Nat),e=.returned (.agg #[.int .u64 (y.nam:Nat),.int .u64 (y.bar:Nat),.slice (some ⟨g,0,none⟩) x.nd.length x.nd.length])/\w''.heap[g]?=some (.cells (iG y.mt) 70 (0,0))/\gz x.nd L y/\w'.grownBy w'' none):=fun V w' so sc x hx hg hn hv=>SH so o' sc c' ⟨V,0,none⟩ x.nd L w' hn (h'.grow hg) hv.vrs hvo (hrr x hx) (hLN x hx) hL (hSS x hx)
 obtain⟨R0,hR0⟩:=zN w.heap.size;have HR0:Hd (w.heap.size=R0):=hR0;have hmk:=adB L.length (by omega) (w.alloc (.cells #[.int .u64 0,.int .u64 0,.slice none 0 0,.slice none 0 0] 76));rw[World.size_alloc,hR0]at hmk;clear h h' hvo hr hrr hS hSS hV hLN;go_enter func31,ntmps31;go_wp2;obtain⟨V,Fj⟩:=zN (R0+1);rw[Fj];have zO:Hd (R0+1=V):=Fj;have HI0:Hd (RowV ((w.alloc (.cells #[.int .u64 0,.int .u64 0,.slice none 0 0,.slice none 0 0] 76)).alloc (.cells (madeCells #[.int .i64 0,.int .i64 0,.int .i64 0,.string ⟨#[]⟩,.string ⟨#[]⟩] (L.length*5)) 109)) V L.length 0 L/\((w.alloc (.cells #[.int .u64 0,.int .u64 0,.slice none 0 0,.slice none 0 0] 76)).alloc (.cells (madeCells #[.int .i64 0,.int .i64 0,.int .i64 0,.string ⟨#[]⟩,.string ⟨#[]⟩] (L.length*5)) 109)).heap[R0]?=some (.cells #[.int .u64 0,.int .u64 0,.slice none 0 0,.slice none 0 0] 76 (0,0))/\w.grownBy ((w.alloc (.cells #[.int .u64 0,.int .u64 0,.slice none 0 0,.slice none 0 0] 76)).alloc (.cells (madeCells #[.int .i64 0,.int .i64 0,.int .i64 0,.string ⟨#[]⟩,.string ⟨#[]⟩] (L.length*5)) 109)) none):=by
  have s1:(w.alloc (.cells #[.int .u64 0,.int .u64 0,.slice none 0 0,.slice none 0 0] 76)).heap.size=V:=by rw[World.size_alloc,HR0.o,Fj]
  refine⟨adT ?_,?_,au (au (ak w none) _) _⟩
  ·have:=heap_alloc_new (w.alloc (.cells #[.int .u64 0,.int .u64 0,.slice none 0 0,.slice none 0 0] 76)) (.cells (madeCells #[.int .i64 0,.int .i64 0,.int .i64 0,.string ⟨#[]⟩,.string ⟨#[]⟩] (L.length*5)) 109);rw[s1]at this;exact this
  ·have:=heap_alloc_new w (.cells #[.int .u64 0,.int .u64 0,.slice none 0 0,.slice none 0 0] 76);rw[HR0.o]at this;exact((au (ak _ none) _).block R0 (by rw[s1];omega) (by simp)).trans this
 clear hmk hR0 Fj;go_loopw [16] (fun vi wr=>∃i:Nat,vi=.int .i64 i/\i<=L.length/\(RowV wr V L.length i L/\wr.heap[R0]?=some (.cells #[.int .u64 0,.int .u64 0,.slice none 0 0,.slice none 0 0] 76 (0,0))/\w.grownBy wr none)) (fun vi _=>L.length-(intOf vi).toNat)
 case atStart=>exact⟨0,rfl,Nat.zero_le _,HI0.o⟩
 case round =>
  obtain⟨i,rfl,hi,hrow,hrb,hg⟩:=hrel;have adV:Hd (RowV wr V L.length i L):=hrow;have iH:Hd (wr.heap[R0]?=some (.cells #[.int .u64 0,.int .u64 0,.slice none 0 0,.slice none 0 0] 76 (0,0))):=hrb;have HG:Hd (w.grownBy wr none):=hg
  by_cases hlt:i<L.length
  ·have hil:i<L.length:=hlt;obtain⟨a2,ho2,hcp2,ik⟩:=kD.o wr hg i hlt;obtain⟨f0,f1,⟨sv,f2,f2'⟩,f3⟩:=ik i hil;have Cf:=CP.o _ (List.getElem_mem hil);obtain⟨x,hx⟩:=zN (L[i]);have HX:Hd (L[i]=x):=hx;rw[hx]at f0 f1 f2' f3 Cf;obtain⟨so,sn,sc,rfl⟩:∃o n c,sv=.slice o n c:=by
    rcases f2' with⟨rfl,-⟩|⟨_,_,rfl,-⟩<;>exact⟨_,_,_,rfl⟩
   unfold jr at Cf;obtain⟨v1,hv1⟩:=zN ((aZ x.ve).major);obtain⟨v2,hv2⟩:=zN ((aZ x.ve).minor);obtain⟨v3,hv3⟩:=zN ((aZ x.ve).patch);obtain⟨v4,hv4⟩:∃v:ByteArray,⟨(aZ x.ve).pre.toArray⟩=v:=⟨_,rfl⟩;obtain⟨v5,hv5⟩:∃v:ByteArray,⟨(aZ x.ve).build.toArray⟩=v:=⟨_,rfl⟩;have xM:Hd ((aZ x.ve).major=v1/\(aZ x.ve).minor=v2/\(aZ x.ve).patch=v3/\(⟨(aZ x.ve).pre.toArray⟩:ByteArray)=v4/\(⟨(aZ x.ve).build.toArray⟩:ByteArray)=v5):=⟨hv1,hv2,hv3,hv4,hv5⟩;rw[hv1,hv2,hv3,hv4,hv5]at Cf;have JV:Hd (∀w,Calls prog 53 #[.string x.ve] w fun e w'=>∃E K:Int,e=.returned (.tuple #[.agg #[.int .i64 v1,.int .i64 v2,.int .i64 v3,.string v4,.string v5],.int .i64 E,.int .i64 K])/\w.grownBy w' none):=Cf;have dJ:Hd (wr.grownBy (wr.alloc (.cells #[.string x.nm,.string x.ve,.slice so sn sc,.string x.da] 61)) none):=au (ak wr none) _;have hic:i<c':=by omega
   subst ho2;clear ik hcp2 hrow hrb hg hx f2' Cf hv1 hv2 hv3 hv4 hv5;go_wp2_with (go_at_call 53;refine(JV.o _).mono ?_);rintro e w4 ⟨E,K,rfl,hg4⟩;have gm:Hd (wr.grownBy w4 none):=ah dJ.o hg4;have xN:=adV.o.grow gm.o;obtain⟨⟨z0,k0⟩,l0⟩:=xN.room (i*5) (by omega);obtain⟨⟨z1,k1⟩,l1⟩:=xN.room (i*5+1) (by omega);obtain⟨⟨z2,k2⟩,l2⟩:=xN.room (i*5+2) (by omega);obtain⟨⟨z3,k3⟩,l3⟩:=xN.room (i*5+3) (by omega);obtain⟨⟨z4,k4⟩,l4⟩:=xN.room (i*5+4) (by omega);have J5:Hd (RowV (((((w4.setCell ⟨V,i*5,none⟩ (.int .i64 v1)).setCell ⟨V,i*5+1,none⟩ (.int .i64 v2)).setCell ⟨V,i*5+2,none⟩ (.int .i64 v3)).setCell ⟨V,i*5+3,none⟩ (.string v4)).setCell ⟨V,i*5+4,none⟩ (.string v5)) V L.length (i+1) L):=xN.set hil rfl v1 v2 v3 v4 v5 (by rw[HX.o];exact xM.o.1) (by rw[HX.o];exact xM.o.2.1) (by rw[HX.o];exact xM.o.2.2.1) (by rw[HX.o];exact xM.o.2.2.2.1) (by rw[HX.o];exact xM.o.2.2.2.2)
   have hwV:w.heap.size<=V:=by have:=HR0.o;have:=zO.o;omega
   have HGN:Hd (w.grownBy (((((w4.setCell ⟨V,i*5,none⟩ (.int .i64 v1)).setCell ⟨V,i*5+1,none⟩ (.int .i64 v2)).setCell ⟨V,i*5+2,none⟩ (.int .i64 v3)).setCell ⟨V,i*5+3,none⟩ (.string v4)).setCell ⟨V,i*5+4,none⟩ (.string v5)) none):=kQ (kQ (kQ (kQ (kQ (ah HG.o gm.o) hwV _ _) hwV _ _) hwV _ _) hwV _ _) hwV _ _;have xO:Hd ((((((w4.setCell ⟨V,i*5,none⟩ (.int .i64 v1)).setCell ⟨V,i*5+1,none⟩ (.int .i64 v2)).setCell ⟨V,i*5+2,none⟩ (.int .i64 v3)).setCell ⟨V,i*5+3,none⟩ (.string v4)).setCell ⟨V,i*5+4,none⟩ (.string v5)).heap[R0]?=some (.cells #[.int .u64 0,.int .u64 0,.slice none 0 0,.slice none 0 0] 76 (0,0))):=by
    have hne:¬R0=V:=by have:=zO.o;omega
    show _=_;rw[heap_setCell_other _ _ R0 _ hne,heap_setCell_other _ _ R0 _ hne,heap_setCell_other _ _ R0 _ hne,heap_setCell_other _ _ R0 _ hne,heap_setCell_other _ _ R0 _ hne];exact(gm.o.block R0 (aA iH.o) (by simp)).trans iH.o
   clear hg4 xN f0 f1 f2 f3 hwV;go_wp2;go_roundw
   case rel=>exact⟨i+1,by go_num,by omega,J5.o,xO.o,HGN.o⟩
   case measure=>simp[intOf];omega
  ·have hil:i=L.length:=by omega
   rw[hil]at hrow;have jF:Hd (RowV wr V L.length L.length L):=hrow;have uN:=adC L.length (by omega);obtain⟨wo,hwo⟩:∃wo,wo=wr:=⟨_,rfl⟩;subst hwo;clear hrow hrb hg hil hi;go_upto_region 7 with fail
   go_cut [8] from 32 (fun v8 wx=>∃(S0 P0 g:Nat) (x:Pl),v8=.pointer (some ⟨S0,0,none⟩)/\PQ w wx R0 V S0 P0 L.length g N.length x L/\gz N L x/\RowP wx P0 L.length []/\w.heap.size<=P0)
   case first =>
    have G1:wo.grownBy wo.drew none:=oH _;have G3:wo.grownBy (wo.alloc (.cells (madeCells #[.int .u64 0,.int .u64 0,.slice none 0 0] (L.length*3)) 73)).drew none:=ah (au (ak wo none) _) (oH _);have G4:wo.grownBy (wo.alloc (.cells #[.int .u64 0,.int .u64 0,.slice none 0 0,.slice none 0 0] 76)).drew none:=ah (au (ak wo none) _) (oH _);have G5:wo.grownBy ((wo.alloc (.cells (madeCells #[.int .u64 0,.int .u64 0,.slice none 0 0] (L.length*3)) 73)).alloc (.cells #[.int .u64 0,.int .u64 0,.slice none 0 0,.slice none 0 0] 76)).drew none:=ah (au (au (ak wo none) _) _) (oH _);have G6:wo.grownBy ((wo.alloc (.cells #[.int .u64 0,.int .u64 0,.slice none 0 0,.slice none 0 0] 76)).alloc (.cells (madeCells #[.int .u64 0,.int .u64 0,.slice none 0 0] (L.length*3)) 73)).drew none:=ah (au (au (ak wo none) _) _) (oH _)
    have ae9:=uN wo.drew;have afa:=uN (wo.alloc (.cells #[.int .u64 0,.int .u64 0,.slice none 0 0,.slice none 0 0] 76)).drew;have hS4:=heap_alloc_new wo (.cells #[.int .u64 0,.int .u64 0,.slice none 0 0,.slice none 0 0] 76);have hS5:=heap_alloc_new (wo.alloc (.cells (madeCells #[.int .u64 0,.int .u64 0,.slice none 0 0] (L.length*3)) 73)) (.cells #[.int .u64 0,.int .u64 0,.slice none 0 0,.slice none 0 0] 76);rw[World.size_alloc]at hS5;have hS6:=((au (ak (wo.alloc (.cells #[.int .u64 0,.int .u64 0,.slice none 0 0,.slice none 0 0] 76)) none) (.cells (madeCells #[.int .u64 0,.int .u64 0,.slice none 0 0] (L.length*3)) 73)).block wo.heap.size (by simp) (by simp)).trans hS4;go_region_with (first|(go_at_call 54;first|(refine(CN.o V (wo.drew) (ah HG.o G1) (jF.o.grow G1)).mono ?_;rintro e w5 ⟨x,g,rfl,hgb,hpi,hg5⟩;have adW:=uN w5;have afb:=uN (w5.alloc (.cells #[.int .u64 0,.int .u64 0,.slice none 0 0,.slice none 0 0] 76));have hs2:=((au (ak (w5.alloc (.cells #[.int .u64 0,.int .u64 0,.slice none 0 0,.slice none 0 0] 76)) none) (.cells (madeCells #[.int .u64 0,.int .u64 0,.slice none 0 0] (L.length*3)) 73)).block w5.heap.size (by simp) (by simp)).trans (heap_alloc_new w5 (.cells #[.int .u64 0,.int .u64 0,.slice none 0 0,.slice none 0 0] 76));obtain⟨b0,b1,b2,b3,bf⟩:=ui hs2;have bf0:=bf 0;have bf1:=bf 1;have bf2:=bf 2;have bf3:=bf 3)|(refine(CN.o V ((wo.alloc (.cells (madeCells #[.int .u64 0,.int .u64 0,.slice none 0 0] (L.length*3)) 73)).drew) (ah HG.o G3) (jF.o.grow G3)).mono ?_;rintro e w5 ⟨x,g,rfl,hgb,hpi,hg5⟩)|(refine(CN.o V ((wo.alloc (.cells #[.int .u64 0,.int .u64 0,.slice none 0 0,.slice none 0 0] 76)).drew) (ah HG.o G4) (jF.o.grow G4)).mono ?_;rintro e w5 ⟨x,g,rfl,hgb,hpi,hg5⟩;have adW:=uN w5;have hs5:=(hg5.block wo.heap.size (aA hS4) (by simp)).trans hS4;obtain⟨c0,c1,c2,c3,cf⟩:=ui hs5;have cf0:=cf 0;have cf1:=cf 1;have cf2:=cf 2;have cf3:=cf 3;have hs2:=((au (ak w5 none) (.cells (madeCells #[.int .u64 0,.int .u64 0,.slice none 0 0] (L.length*3)) 73)).block wo.heap.size (aA hs5) (by simp)).trans hs5;obtain⟨b0,b1,b2,b3,bf⟩:=ui hs2;have bf0:=bf 0;have bf1:=bf 1;have bf2:=bf 2;have bf3:=bf 3)|(refine(CN.o V (((wo.alloc (.cells (madeCells #[.int .u64 0,.int .u64 0,.slice none 0 0] (L.length*3)) 73)).alloc (.cells #[.int .u64 0,.int .u64 0,.slice none 0 0,.slice none 0 0] 76)).drew) (ah HG.o G5) (jF.o.grow G5)).mono ?_;rintro e w5 ⟨x,g,rfl,hgb,hpi,hg5⟩;have hs5:=(hg5.block (wo.heap.size+1) (aA hS5) (by simp)).trans hS5;obtain⟨c0,c1,c2,c3,cf⟩:=ui hs5;have cf0:=cf 0;have cf1:=cf 1;have cf2:=cf 2;have cf3:=cf 3)|(refine(CN.o V (((wo.alloc (.cells #[.int .u64 0,.int .u64 0,.slice none 0 0,.slice none 0 0] 76)).alloc (.cells (madeCells #[.int .u64 0,.int .u64 0,.slice none 0 0] (L.length*3)) 73)).drew) (ah HG.o G6) (jF.o.grow G6)).mono ?_;rintro e w5 ⟨x,g,rfl,hgb,hpi,hg5⟩;have hs5:=(hg5.block wo.heap.size (aA hS6) (by simp)).trans hS6;obtain⟨c0,c1,c2,c3,cf⟩:=ui hs5;have cf0:=cf 0;have cf1:=cf 1;have cf2:=cf 2;have cf3:=cf 3)))
    ·have g5:wo.grownBy w5 none:=ah G1 hg5;have hv5:=jF.o.grow g5;have iL:=(g5.block R0 (aA iH.o) (by simp)).trans iH.o;have hw5:=ah HG.o g5;have hwo:w.heap.size<=wo.heap.size:=HG.o.size;have pW:wo.heap.size<=w5.heap.size:=g5.size;have pX:R0<wo.heap.size:=(aA iH.o);have ga:=au (au (ak w5 none) (.cells (madeCells #[.int .u64 0,.int .u64 0,.slice none 0 0] (L.length*3)) 73)) (.cells #[.int .u64 (x.nam:Nat),.int .u64 (x.bar:Nat),.slice (some ⟨g,0,none⟩) N.length N.length,.slice (some ⟨w5.heap.size,0,none⟩) L.length L.length] 76);have hs0:=heap_alloc_new (w5.alloc (.cells (madeCells #[.int .u64 0,.int .u64 0,.slice none 0 0] (L.length*3)) 73)) (.cells #[.int .u64 (x.nam:Nat),.int .u64 (x.bar:Nat),.slice (some ⟨g,0,none⟩) N.length N.length,.slice (some ⟨w5.heap.size,0,none⟩) L.length L.length] 76)
     rw[World.size_alloc]at hs0;have hp0:=((au (ak (w5.alloc (.cells (madeCells #[.int .u64 0,.int .u64 0,.slice none 0 0] (L.length*3)) 73)) none) (.cells #[.int .u64 (x.nam:Nat),.int .u64 (x.bar:Nat),.slice (some ⟨g,0,none⟩) N.length N.length,.slice (some ⟨w5.heap.size,0,none⟩) L.length L.length] 76)).block w5.heap.size (by simp) (by simp)).trans (heap_alloc_new w5 (.cells (madeCells #[.int .u64 0,.int .u64 0,.slice none 0 0] (L.length*3)) 73));have hq:PQ w _ R0 V (w5.heap.size+1) w5.heap.size L.length g N.length x L:=⟨hs0,(ga.block g (aA hgb) (by simp)).trans hgb,hv5.grow ga,(ga.block R0 (aA iL) (by simp)).trans iL,ah hw5 ga⟩;have HF:Hd (PQ w _ R0 V (w5.heap.size+1) w5.heap.size L.length g N.length x L/\gz N L x/\RowP _ w5.heap.size L.length []/\w.heap.size<=w5.heap.size):=⟨hq,hpi,zT hp0,by omega⟩
     clear ga hs0 hp0 hq g5 hv5 iL hw5 hwo pW pX;go_wp2;go_meet
     case rel=>exact⟨_,_,_,_,rfl,HF.o⟩
    ·have g5:wo.grownBy w5 none:=ah G1 hg5;have hv5:=jF.o.grow g5;have iL:=(g5.block R0 (aA iH.o) (by simp)).trans iH.o;have hw5:=ah HG.o g5;have hwo:w.heap.size<=wo.heap.size:=HG.o.size;have pW:wo.heap.size<=w5.heap.size:=g5.size;have pX:R0<wo.heap.size:=(aA iH.o);have ga:=au (au (ak w5 none) (.cells #[.int .u64 (x.nam:Nat),.int .u64 (x.bar:Nat),.slice (some ⟨g,0,none⟩) N.length N.length,.slice (some ⟨w5.heap.size+1,0,none⟩) L.length L.length] 76)) (.cells (madeCells #[.int .u64 0,.int .u64 0,.slice none 0 0] (L.length*3)) 73);have hs0:=((au (ak (w5.alloc (.cells #[.int .u64 (x.nam:Nat),.int .u64 (x.bar:Nat),.slice (some ⟨g,0,none⟩) N.length N.length,.slice (some ⟨w5.heap.size+1,0,none⟩) L.length L.length] 76)) none) (.cells (madeCells #[.int .u64 0,.int .u64 0,.slice none 0 0] (L.length*3)) 73)).block w5.heap.size (by simp) (by simp)).trans (heap_alloc_new w5 (.cells #[.int .u64 (x.nam:Nat),.int .u64 (x.bar:Nat),.slice (some ⟨g,0,none⟩) N.length N.length,.slice (some ⟨w5.heap.size+1,0,none⟩) L.length L.length] 76))
     have hp0:=heap_alloc_new (w5.alloc (.cells #[.int .u64 (x.nam:Nat),.int .u64 (x.bar:Nat),.slice (some ⟨g,0,none⟩) N.length N.length,.slice (some ⟨w5.heap.size+1,0,none⟩) L.length L.length] 76)) (.cells (madeCells #[.int .u64 0,.int .u64 0,.slice none 0 0] (L.length*3)) 73);rw[World.size_alloc]at hp0;have hq:PQ w _ R0 V w5.heap.size (w5.heap.size+1) L.length g N.length x L:=⟨hs0,(ga.block g (aA hgb) (by simp)).trans hgb,hv5.grow ga,(ga.block R0 (aA iL) (by simp)).trans iL,ah hw5 ga⟩;have HF:Hd (PQ w _ R0 V w5.heap.size (w5.heap.size+1) L.length g N.length x L/\gz N L x/\RowP _ (w5.heap.size+1) L.length []/\w.heap.size<=w5.heap.size+1):=⟨hq,hpi,zT hp0,by omega⟩;clear ga hs0 hp0 hq g5 hv5 iL hw5 hwo pW pX;go_wp2;go_meet
     case rel=>exact⟨_,_,_,_,rfl,HF.o⟩
    ·have g5:wo.grownBy w5 none:=ah G3 hg5;have hv5:=jF.o.grow g5;have iL:=(g5.block R0 (aA iH.o) (by simp)).trans iH.o;have hw5:=ah HG.o g5;have hwo:w.heap.size<=wo.heap.size:=HG.o.size;have pW:wo.heap.size<=w5.heap.size:=g5.size;have pX:R0<wo.heap.size:=(aA iH.o);have ga:=au (ak w5 none) (.cells #[.int .u64 (x.nam:Nat),.int .u64 (x.bar:Nat),.slice (some ⟨g,0,none⟩) N.length N.length,.slice (some ⟨wo.heap.size,0,none⟩) L.length L.length] 76);have hs0:=heap_alloc_new w5 (.cells #[.int .u64 (x.nam:Nat),.int .u64 (x.bar:Nat),.slice (some ⟨g,0,none⟩) N.length N.length,.slice (some ⟨wo.heap.size,0,none⟩) L.length L.length] 76);have uj:w5.heap[wo.heap.size]?=_:=(hg5.block wo.heap.size (Array.getElem?_eq_some_iff.1 (heap_alloc_new wo (.cells (madeCells #[.int .u64 0,.int .u64 0,.slice none 0 0] (L.length*3)) 73))).1 (by simp)).trans (heap_alloc_new wo (.cells (madeCells #[.int .u64 0,.int .u64 0,.slice none 0 0] (L.length*3)) 73))
     have hp0:=(ga.block wo.heap.size (aA uj) (by simp)).trans uj;have hq:PQ w _ R0 V w5.heap.size wo.heap.size L.length g N.length x L:=⟨hs0,(ga.block g (aA hgb) (by simp)).trans hgb,hv5.grow ga,(ga.block R0 (aA iL) (by simp)).trans iL,ah hw5 ga⟩;have HF:Hd (PQ w _ R0 V w5.heap.size wo.heap.size L.length g N.length x L/\gz N L x/\RowP _ wo.heap.size L.length []/\w.heap.size<=wo.heap.size):=⟨hq,hpi,zT hp0,hwo⟩;clear ga hs0 hp0 uj hq g5 hv5 iL hw5 hwo pW pX;go_wp2;go_meet
     case rel=>exact⟨_,_,_,_,rfl,HF.o⟩
    ·have g5:wo.grownBy w5 none:=ah G5 hg5;have hv5:=jF.o.grow g5;have iL:=(g5.block R0 (aA iH.o) (by simp)).trans iH.o;have hw5:=ah HG.o g5;have hwo:w.heap.size<=wo.heap.size:=HG.o.size;have pW:wo.heap.size<=w5.heap.size:=g5.size;have pX:R0<wo.heap.size:=(aA iH.o);have hpa:=((au (ak (wo.alloc (.cells (madeCells #[.int .u64 0,.int .u64 0,.slice none 0 0] (L.length*3)) 73)) none) (.cells #[.int .u64 0,.int .u64 0,.slice none 0 0,.slice none 0 0] 76)).block wo.heap.size (by simp) (by simp)).trans (heap_alloc_new wo (.cells (madeCells #[.int .u64 0,.int .u64 0,.slice none 0 0] (L.length*3)) 73));have uj:w5.heap[wo.heap.size]?=_:=(hg5.block wo.heap.size (aA hpa) (by simp)).trans hpa;obtain⟨hq,lT⟩:=J4 (m:=N.length) hs5 hgb hv5 iL hw5 (zT uj) (by omega) (by omega)
     have HF:Hd (PQ w _ R0 V (wo.heap.size+1) wo.heap.size L.length g N.length x L/\gz N L x/\RowP _ wo.heap.size L.length []/\w.heap.size<=wo.heap.size):=⟨hq,hpi,lT,hwo⟩;clear hpa uj hq lT g5 hv5 iL hw5 hwo pW pX;go_wp2;go_meet
     case rel=>exact⟨_,_,_,_,rfl,HF.o⟩
    ·have g5:wo.grownBy w5 none:=ah G4 hg5;have hv5:=jF.o.grow g5;have iL:=(g5.block R0 (aA iH.o) (by simp)).trans iH.o;have hw5:=ah HG.o g5;have hwo:w.heap.size<=wo.heap.size:=HG.o.size;have pW:wo.heap.size<=w5.heap.size:=g5.size;have pX:R0<wo.heap.size:=(aA iH.o);have ga:=au (ak w5 none) (.cells (madeCells #[.int .u64 0,.int .u64 0,.slice none 0 0] (L.length*3)) 73);obtain⟨hq,lT⟩:=J4 (m:=N.length) hs2 ((ga.block g (aA hgb) (by simp)).trans hgb) (hv5.grow ga) ((ga.block R0 (aA iL) (by simp)).trans iL) (ah hw5 ga) (zT (heap_alloc_new w5 (.cells (madeCells #[.int .u64 0,.int .u64 0,.slice none 0 0] (L.length*3)) 73))) (by omega) (by omega);have HF:Hd (PQ w _ R0 V wo.heap.size w5.heap.size L.length g N.length x L/\gz N L x/\RowP _ w5.heap.size L.length []/\w.heap.size<=w5.heap.size):=⟨hq,hpi,lT,by omega⟩
     clear ga hq lT g5 hv5 iL hw5 hwo pW pX;go_wp2;go_meet
     case rel=>exact⟨_,_,_,_,rfl,HF.o⟩
    ·have g5:wo.grownBy w5 none:=ah G6 hg5;have hv5:=jF.o.grow g5;have iL:=(g5.block R0 (aA iH.o) (by simp)).trans iH.o;have hw5:=ah HG.o g5;have hwo:w.heap.size<=wo.heap.size:=HG.o.size;have pW:wo.heap.size<=w5.heap.size:=g5.size;have pX:R0<wo.heap.size:=(aA iH.o);have hpa:=heap_alloc_new (wo.alloc (.cells #[.int .u64 0,.int .u64 0,.slice none 0 0,.slice none 0 0] 76)) (.cells (madeCells #[.int .u64 0,.int .u64 0,.slice none 0 0] (L.length*3)) 73);rw[World.size_alloc]at hpa;have uj:w5.heap[wo.heap.size+1]?=_:=(hg5.block (wo.heap.size+1) (aA hpa) (by simp)).trans hpa;obtain⟨hq,lT⟩:=J4 (m:=N.length) hs5 hgb hv5 iL hw5 (zT uj) (by omega) (by omega);have HF:Hd (PQ w _ R0 V wo.heap.size (wo.heap.size+1) L.length g N.length x L/\gz N L x/\RowP _ (wo.heap.size+1) L.length []/\w.heap.size<=wo.heap.size+1):=⟨hq,hpi,lT,by omega⟩
     clear hpa uj hq lT g5 hv5 iL hw5 hwo pW pX;go_wp2;go_meet
     case rel=>exact⟨_,_,_,_,rfl,HF.o⟩
   case rest =>
    obtain⟨S0,P0,g,x0,rfl,hpq,hpi,lT,hwp⟩:=hcut;have Fh:Hd (gz N L x0):=hpi;have J6:Hd (w.heap.size<=P0):=hwp;have HPQ:Hd (PQ w wc R0 V S0 P0 L.length g N.length x0 L):=hpq;have HRP:Hd (RowP wc P0 L.length []):=lT;clear hpq hpi lT hwp uN;go_wp2;go_loopw [42] (fun vi wr=>∃(i:Nat) (Q:List Pl),vi=.int .i64 i/\i<=L.length/\Q.length=i/\PQ w wr R0 V S0 P0 L.length g N.length x0 L/\RowP wr P0 L.length Q/\∀j (h1:j<L.length) (h2:j<Q.length),gz L[j].nd L Q[j]) (fun vi _=>L.length-(intOf vi).toNat)
    case atStart=>exact⟨0,[],rfl,Nat.zero_le _,rfl,HPQ.o,HRP.o,fun j h1 h2=>by simp at h2⟩
    case round =>
     obtain⟨i,Q,rfl,hi,J7,hpq,lT,jZ⟩:=hrel;have zU:Hd (Q.length=i):=J7;have S9:Hd (∀j (h1:j<L.length) (h2:j<Q.length),gz L[j].nd L Q[j]):=jZ;have uk:Hd (PQ w wr R0 V S0 P0 L.length g N.length x0 L):=hpq;have Tc:Hd (RowP wr P0 L.length Q):=lT
     by_cases hlt:i<L.length
     ·obtain⟨a2,ho2,hcp2,ik⟩:=kD.o wr hpq.gb i hlt;obtain⟨f0,f1,⟨sv,f2,f2'⟩,f3⟩:=ik i hlt;have Td:=CR.o V;have hmem:=List.getElem_mem hlt;obtain⟨x,hx⟩:=zN (L[i]);have HX:Hd (L[i]=x):=hx;rw[hx]at f0 f1 f2' f3 hmem;obtain⟨so,sc,rfl⟩:∃o c,sv=.slice o x.nd.length c:=by
       rcases f2' with⟨rfl,h0⟩|⟨_,_,rfl,-⟩
       ·exact⟨none,0,by rw[h0];rfl⟩
       ·exact⟨_,_,rfl⟩
      have dJ:Hd (wr.grownBy (wr.alloc (.cells #[.string x.nm,.string x.ve,.slice so x.nd.length sc,.string x.da] 61)).drew none):=ah (au (ak wr none) _) (oH _);have uO:Hd (NdS wr (.slice so x.nd.length sc) x.nd):=f2';have C11:Hd (Calls prog 54 #[.slice so x.nd.length sc,.slice o' L.length c',.slice (some ⟨V,0,none⟩) L.length L.length] (wr.alloc (.cells #[.string x.nm,.string x.ve,.slice so x.nd.length sc,.string x.da] 61)).drew fun e w''=>∃(y:Pl) (g:Nat),e=.returned (.agg #[.int .u64 (y.nam:Nat),.int .u64 (y.bar:Nat),.slice (some ⟨g,0,none⟩) x.nd.length x.nd.length])/\w''.heap[g]?=some (.cells (iG y.mt) 70 (0,0))/\gz x.nd L y/\(wr.alloc (.cells #[.string x.nm,.string x.ve,.slice so x.nd.length sc,.string x.da] 61)).drew.grownBy w'' none):=Td _ so sc x hmem (ah uk.o.gb dJ.o) (uO.o.grow dJ.o) (uk.o.v0.grow dJ.o);have hs3:=(au (ak wr none) (.cells #[.string x.nm,.string x.ve,.slice so x.nd.length sc,.string x.da] 61)).cell (ui hpq.s0).2.2.2.1 (by simp)
      have Tf:=dJ.o.cell (ui hpq.s0).2.2.2.1 (by simp);have hic:i<c':=by omega
      subst ho2;clear ik hcp2 J7 hpq lT jZ hx f2' Td hmem;go_upto_region 11 with fail
      go_region_with (first|(go_at_call 54;refine C11.o.mono ?_;rintro e w5 ⟨y,g5,rfl,hgb,J8,hg5⟩;have q3:=hg5.cell Tf (by simp);have zV:=(Tc.o.grow dJ.o).grow hg5;obtain⟨⟨z0,k0⟩,l0⟩:=zV.room (i*3) (by omega);obtain⟨⟨z1,k1⟩,l1⟩:=zV.room (i*3+1) (by omega);obtain⟨⟨z2,k2⟩,l2⟩:=zV.room (i*3+2) (by omega)))
      all_goals (
       have Ti:=(uk.o.grow dJ.o).grow hg5;obtain⟨cs,hcs⟩:=adS zV;have adX:Hd (PQ w (((w5.setCell ⟨P0,i*3,none⟩ (.int .u64 (y.nam:Nat))).setCell ⟨P0,i*3+1,none⟩ (.int .u64 (y.bar:Nat))).setCell ⟨P0,i*3+2,none⟩ (.slice (some ⟨g5,0,none⟩) x.nd.length x.nd.length)) R0 V S0 P0 L.length g N.length x0 L):=((Ti.set hcs J6.o _ _).set (block_setCell hcs _) J6.o _ _).set (block_setCell (block_setCell hcs _) _) J6.o _ _;have adY:Hd (RowP (((w5.setCell ⟨P0,i*3,none⟩ (.int .u64 (y.nam:Nat))).setCell ⟨P0,i*3+1,none⟩ (.int .u64 (y.bar:Nat))).setCell ⟨P0,i*3+2,none⟩ (.slice (some ⟨g5,0,none⟩) x.nd.length x.nd.length)) P0 L.length (Q++[y])):=zV.push zU.o hlt y g5 hgb x.nd.length J8.ln;have adZ:Hd (∀j (h1:j<L.length) (h2:j<(Q++[y]).length),gz L[j].nd L (Q++[y])[j]):=fun j h1 h2=>by
        by_cases hj:j<Q.length
        ·rw[List.getElem_append_left hj];exact S9.o j h1 hj
        ·have he:j=i:=by rw[List.length_append,List.length_singleton,zU.o]at h2;have:=zU.o;omega
         subst he;rw[List.getElem_append_right (by have:=zU.o;omega)];have e0:∀(q:Nat) (hq:q < [y].length),[y][q]=y:=fun q hq=>by
          have:q=0:=by simpa using hq
          subst this;rfl
         rw[e0,HX.o];exact J8
       clear Ti hcs zV hgb J8 hg5 q3 k0 k1 k2 l0 l1 l2 hs3 Tf f0 f1 f2 f3;go_wp2;go_roundw
       case rel=>exact⟨i+1,Q++[y],by go_num,by omega,by rw[List.length_append,zU.o];rfl,adX.o,adY.o,adZ.o⟩
       case measure=>simp[intOf];omega)
     ·have hil:i=L.length:=by omega
      have Tj:Hd (Q.length=L.length):=zU.o.trans hil;obtain⟨d0,d1,d2,d3,-⟩:=ui hpq.s0;obtain⟨q0,q1,q2,q3,qf⟩:=ui hpq.r0;have qf0:=qf 0;have qf1:=qf 1;have qf2:=qf 2;have qf3:=qf 3;clear J7 hpq lT jZ hil hi qf;go_wp2;have hb1:=block_setCell (i:=0) uk.o.r0 (.int .u64 (x0.nam:Nat));have hb2:=block_setCell (i:=1) hb1 (.int .u64 (x0.bar:Nat));have hb3:=block_setCell (i:=2) hb2 (.slice (some ⟨g,0,none⟩) N.length N.length);have hb4:=block_setCell (i:=3) hb3 (.slice (some ⟨P0,0,none⟩) L.length L.length);have ad1:=(((Tc.o.other uk.o.r0 0 (.int .u64 (x0.nam:Nat))).other hb1 1 (.int .u64 (x0.bar:Nat))).other hb2 2 (.slice (some ⟨g,0,none⟩) N.length N.length)).other hb3 3 (.slice (some ⟨P0,0,none⟩) L.length L.length);have hw0:=Nat.le_of_eq HR0.o;have ru:=kQ (kQ (kQ (kQ uk.o.gb hw0 0 (.int .u64 (x0.nam:Nat))) hw0 1 (.int .u64 (x0.bar:Nat))) hw0 2 (.slice (some ⟨g,0,none⟩) N.length N.length)) hw0 3 (.slice (some ⟨P0,0,none⟩) L.length L.length)
      have hne:¬g=R0:=fun e=>by
       have h1:=uk.o.g0;rw[e,uk.o.r0]at h1;injection h1 with h1
       injection h1 with _ e2 _
       exact absurd e2 (by decide)
      have hgg:((((wr.setCell ⟨R0,0,none⟩ (.int .u64 (x0.nam:Nat))).setCell ⟨R0,1,none⟩ (.int .u64 (x0.bar:Nat))).setCell ⟨R0,2,none⟩ (.slice (some ⟨g,0,none⟩) N.length N.length)).setCell ⟨R0,3,none⟩ (.slice (some ⟨P0,0,none⟩) L.length L.length)).heap[g]?=some (.cells (iG x0.mt) 70 (0,0)):=by
       rw[heap_setCell_other _ _ g _ hne,heap_setCell_other _ _ g _ hne,heap_setCell_other _ _ g _ hne,heap_setCell_other _ _ g _ hne];exact uk.o.g0
      refine bodyPost_ret (results_cell_row rfl _ _ R0 76 #[.int .u64 (x0.nam:Nat),.int .u64 (x0.bar:Nat),.slice (some ⟨g,0,none⟩) N.length N.length,.slice (some ⟨P0,0,none⟩) L.length L.length] (0,0) _ rfl ?_ underlying76 rfl (by kernel_rfl)) rfl ⟨x0,Q,_,_,rfl,SE hgg Fh.o.ln,ad1.pls Tj.o,Fh.o,Tj.o,S9.o,ru⟩;exact hb4
open Go.RowKit Go.Maps Go.Joins
theorem ad2:(prog.info? 49).map (fun i=>(i.zero,i.size,i.bytes))=some (some (.slice none 0 0),1,24):=by kernel_rfl
theorem ad3(n:Nat)(hn:n<=1048576)(W:World):(Instr.makeSlice 78 (.int .i64 (n:Int)) (.int .i64 (n:Int))).run prog W=.ok (.slice (some ⟨W.heap.size,0,none⟩) n n) (W.alloc (.cells (List.replicate n (Value.slice none 0 0)).toArray 49)):=by
 obtain⟨i0,hi0,hii⟩:=Option.map_eq_some_iff.1 ad2;simp only[Prod.mk.injEq]at hii;obtain⟨hz0,hz1,hzb⟩:=hii;have:=run_make W 78 49 i0 (.slice none 0 0) underlying78 hi0 hz0 .i64 .i64 (n:Int) (n:Int) (by omega) (Int.le_refl _) (by rw[hzb];omega) (by omega);rw[this,hz1];have e:((n:Int)).toNat=n:=by omega
 rw[e,Nat.mul_one];have e2:(Value.slice none 0 0).cells=#[.slice none 0 0]:=rfl;rw[e2,OH]
theorem ad4(w:World):(Instr.makeMap 79 none).run prog w=.ok (.map (some w.heap.size)) (w.alloc (.map #[] 0)):=by kernel_rfl
theorem ad5(w:World):(Instr.makeMap 80 none).run prog w=.ok (.map (some w.heap.size)) (w.alloc (.map #[] 0)):=by kernel_rfl
open Go.RowKit Go.Maps
theorem ad6(v v':Value)(N:List Nd)(L:List Re)(w:World)(h:NdS w v N)(h':ReS w v' L)(hN:N.length<=1048576)(hL:L.length<=1048576)(hS:∀y∈N,y.n.size<2 ^ 60/\y.r.size<2 ^ 60)(hV:∀x∈L,x.nm.size<2 ^ 60/\x.ve.size<2 ^ 60)(hLN:∀x∈L,x.nd.length<=1048576)(hSS:∀x∈L,∀y∈x.nd,y.n.size<2 ^ 60/\y.r.size<2 ^ 60) :
  Calls prog 18 #[v,v'] w fun e w'=>e=.returned (.int .i64 (jK N L))/\w.grownBy w' none:=by
 have CC:Hd (Calls prog 29 #[v'] w fun e w''=>e=.returned (.tuple #[.int .i64 (dV L L.length).1,.int .i64 ((dV L L.length).2:Int)])/\w.grownBy w'' none):=check_any v' L w h' hL hV hLN hSS;have CF:Hd (∀w',w.grownBy w' none->Calls prog 30 #[v] w' fun e w''=>e=.returned (.int .i64 (dm N))/\w'.grownBy w'' none):=fun w' hg=>Sz v N w' (h.grow hg) hN hS
 have HF:Hd (jK N L=if(dV L L.length).1=0 then dm N else 7):=rfl;obtain⟨o,n,c,rfl⟩:∃o n c,v=.slice o n c:=by
  rcases h with⟨rfl,-⟩|⟨_,_,rfl,-⟩<;>exact⟨_,_,_,rfl⟩
 obtain⟨o',c',rfl⟩:=Eg h';obtain⟨R,hR⟩:=zN (jK N L);obtain⟨E,hE⟩:=zN ((dV L L.length).1);obtain⟨K,hK⟩:∃K:Int,((dV L L.length).2:Int)=K:=⟨_,rfl⟩;obtain⟨F,zW⟩:=zN (dm N);rw[hR,hE,zW]at HF;rw[hE,hK]at CC;rw[zW]at CF;rw[hR];clear h h' hS hV hLN hSS hR hE hK zW;go_enter func18,ntmps18;go_wp2_with (go_at_call 29;refine CC.o.mono ?_);rintro e w1 ⟨rfl,hg1⟩
 by_cases hz:E=0
 ·subst hz;have HR:Hd (R=F):=by show R=F;rw[HF.o,if_pos (by trivial)]
  have bI:Hd (w.grownBy w1 none):=hg1;clear hg1;go_wp2_with (go_at_call 30;refine(CF.o _ bI.o).mono ?_;rintro e w2 ⟨rfl,hg2⟩);refine bodyPost_ret (results_tmp (t:=4) rfl _ _ _) rfl ⟨?_,ah bI.o hg2⟩;rw[HR.o];rfl
 ·have hb:(E != 0)=true:=by simp[hz]
  have HR:Hd (R=7):=by show R=7;rw[HF.o,if_neg hz]
  clear hz;go_wp2;refine bodyPost_ret (results_tmp (t:=4) rfl _ _ _) rfl ⟨?_,hg1⟩;rw[HR.o];rfl
open Go.RowKit Go.Maps Go.Joins
def J9(N:List Nd)(L:List Re)(O:List En)(fu:Int)(w:World)(e:Ending)(w':World):Prop:=∃(B S M nb Mc:Nat) (po:Option Addr) (pc:Nat) (P:List Pl) (x0:Pl) (rv:Value),e=.returned (.pointer (some ⟨S,0,none⟩))/\(w.heap.size<=S/\w.heap.size<=M/\w.heap.size<=B/\B<=w'.heap.size/\¬S=M/\¬Xb B S M nb)/\(P.length=L.length/\gz N L x0/\∀j (h1:j<L.length) (h2:j<P.length),gz L[j].nd L P[j])/\Dy B S M (.slice po P.length pc) (.slice (some ⟨nb,0,none⟩) L.length L.length) (.map (some Mc)) (di [] (N.map (·.n))) [] 0 x0.bar rv (.slice none 0 0) (max fu 0) w'/\(∀w'',Fx (Xb B S M) w' w''->IZ L.length P (eG L) (pR L O) B S M nb Mc (.slice po P.length pc) w'')/\w.grownBy w' none
theorem ad7(no lo oo:Option Addr)(nc lc oc:Nat)(N:List Nd)(L:List Re)(O:List En)(fu:Int)(w:World)(h:NdS w (.slice no N.length nc) N)(h':ReS w (.slice lo L.length lc) L)(ho:EnS w (.slice oo O.length oc) O)(hvo:∀x∈L,okV x.ve=true)(hr:∀y∈N,okR y.r=true)(hrr:∀x∈L,∀y∈x.nd,okR y.r=true)(hN:N.length<=1048576)(hL:L.length<=64)(hLN:∀x∈L,x.nd.length<=64)(hS:∀y∈N,y.n.size<2 ^ 60/\y.r.size<2 ^ 60)(hSS:∀x∈L,∀y∈x.nd,y.n.size<2 ^ 60/\y.r.size<2 ^ 60)(hV:∀x∈L,x.ve.size<2 ^ 60/\x.nm.size<2 ^ 60)(hO:O.length<=1048576)(hOV:∀x∈O,x.ve.size<2 ^ 60)(hfu:fu<9223372036854775808) :
  Calls prog 20 #[.slice no N.length nc,.slice lo L.length lc,.slice oo O.length oc,.int .i64 fu] w (J9 N L O fu w):=by
 have CP:Hd (Calls prog 31 #[.slice no N.length nc,.slice lo L.length lc] w fun e w'=>∃(nam bar:Nat) (mo po:Option Addr) (mn mc pc:Nat),e=.returned (.agg #[.int .u64 (nam:Nat),.int .u64 (bar:Nat),.slice mo mn mc,.slice po L.length pc])/\Hd (∃(x:Pl) (Q:List Pl),x.bar=bar/\PlS w' (.slice po L.length pc) Q/\gz N L x/\Q.length=L.length/\(∀j (h1:j<L.length) (h2:j<Q.length),gz L[j].nd L Q[j])/\w.grownBy w' none)):=(adU no lo nc lc N L w h h' hvo hr hrr hN hL (fun x hx=>by have:=hLN x hx;omega) hS hSS (fun x hx=>(hV x hx).1)).mono fun e w' ⟨x,Q,mv,pv,h1,h2,h3,h4,h5,h6,h7⟩=>by
  obtain⟨po,pc,rfl⟩:=YT h3;obtain⟨mo,mn,mc,rfl⟩:∃o n c,mv=.slice o n c:=by
   rcases h2 with⟨rfl,-⟩|⟨a,cap,rfl,-⟩
   ·exact⟨_,_,_,rfl⟩
   ·exact⟨_,_,_,rfl⟩
  rw[h5]at h1 h3;exact⟨x.nam,x.bar,mo,po,mn,mc,pc,h1,x,Q,rfl,h3,h4,h5,h6,h7⟩
 have HN:=ae h;have HL:=ae h';have HO:=ae ho;have HH:=ae (And.intro hN (And.intro hLN (And.intro hS (And.intro hSS (And.intro hV (And.intro hO hOV))))));clear h h' ho hvo hr hrr hN hLN hS hSS hV hO hOV;go_enter func20,ntmps20;go_wp2_with (first|(go_at_call 31;refine CP.o.mono ?_));rintro e w1 ⟨nam,bar,mo,po,mn,mc,pc,rfl,hp⟩;obtain⟨x0,P,hbar,hpl,hx0,hPl,Tm,hg1⟩:=hp.o;have HP:=ae (And.intro hbar (And.intro hpl (And.intro hx0 (And.intro hPl Tm))));have bI:=ae hg1;clear hp hbar hpl hx0 Tm hg1;go_wp2;obtain⟨g1,hg⟩:=zN w1.heap.size;obtain⟨W2,hW2⟩:=zN (w1.alloc (.cells #[.int .u64 (nam:Int),.int .u64 (bar:Int),.slice mo mn mc,.slice po L.length pc] 76));have hb2:W2.heap[g1]?=some (.cells #[.int .u64 (nam:Int),.int .u64 (bar:Int),.slice mo mn mc,.slice po L.length pc] 76 (0,0)):=by rw[<-hW2,<-hg];exact heap_alloc_new w1 _
 have d1:W2.cell? ⟨g1,1,none⟩=some (.int .u64 (bar:Int)):=by rw[ag hb2];rfl
 have d3:W2.cell? ⟨g1,3,none⟩=some (.slice po L.length pc):=by rw[ag hb2];rfl
 have HG2:Hd (w1.grownBy W2 none):=by rw[<-hW2];exact au (ak w1 none) _
 obtain⟨G,hG⟩:=zN (W2.heap.size);have Ci:=ae hG;have hmk:=ad3 L.length (by omega);have hmc:=ad4;have hmu:=ad5;have HK:Hd (∀U,W2.grownBy U none->U.cell? ⟨g1,1,none⟩=some (.int .u64 (bar:Int))/\U.cell? ⟨g1,3,none⟩=some (.slice po L.length pc)):=fun U hU=>⟨hU.cell d1 (by simp),hU.cell d3 (by simp)⟩
 rw[hW2,hg];clear hW2 hb2
 go_cut [10] from 15 (Q7 L O fu (.slice po L.length pc) bar G W2)
 case first =>
  go_region_held3 (fun u=>u.cell? ⟨g1,1,none⟩=some (.int .u64 (bar:Int))/\u.cell? ⟨g1,3,none⟩=some (.slice po L.length pc)) ((first|exact HK.o _ (by repeat (first|exact ak _ _|refine mG ?_|refine au ?_ _))|go_keep)) (fail)
  all_goals (go_wp2_with fail;go_meet;exact ab6 Ci.o (by first|exact Or.inl ⟨rfl,rfl⟩|exact Or.inr (Or.inl ⟨rfl,rfl⟩)|exact Or.inr (Or.inr ⟨rfl,rfl⟩)) (by first|exact Or.inl ⟨rfl,rfl⟩|exact Or.inr (Or.inl ⟨rfl,rfl⟩)|exact Or.inr (Or.inr ⟨rfl,rfl⟩)) (by first|exact Or.inl ⟨rfl,rfl⟩|exact Or.inr (Or.inl ⟨rfl,rfl⟩)|exact Or.inr (Or.inr ⟨rfl,rfl⟩)) (by omega) ⟨by omega,by omega,rfl⟩)
 case rest =>
  obtain⟨S,M,nb,Mc,f,rfl,hge,hdi,hf,hnw,hgw⟩:=hcut;have wO:=ae hnw;have hbase:w.heap.size<=w1.heap.size/\w1.heap.size<=G:=⟨bI.o.size,by rw[<-Ci.o];exact HG2.o.size⟩;have bg:=ae (ah HG2.o hgw);have CN:Hd (∀so sc (K:List Nd) w',K.length<=1048576->NdS w' (.slice so K.length sc) K->Calls prog 32 #[.slice so K.length sc] w' fun e w''=>∃g,e=.returned (.slice (some ⟨g,0,none⟩) K.length K.length)/\Hd (w'.heap.size<=g/\Nms w'' g K.length K.length (K.map (·.n))/\w'.grownBy w'' none)):=fun so sc K w' hK hN=>YY so sc K w' hN hK
  have CC:=ae (fun name w' (hg:w.grownBy w' none)=>ab1 lo oo lc oc L O name w' (HL.o.grow hg) (HO.o.grow hg) hL (fun x hx=>by have:=(HH.o.2.2.2.2.1 x hx).1;omega) HH.o.2.2.2.2.2.1 (fun x hx=>by have:=HH.o.2.2.2.2.2.2 x hx;omega));have ad8:=ae (fun w' (hg:w.grownBy w' none) i (hi:i<L.length)=>sG (HL.o.grow hg) hi);have fQ:=ae hbase;clear hnw hgw hmk hmc hmu d1 d3 hg hG;go_wp2;go_loopw [34] (fun vi wr=>∃i km:Nat,vi=.int .i64 i/\i<=L.length/\km<=i/\NwX L O S M nb Mc (.slice po L.length pc) f bar i i km wr/\w1.grownBy wr none) (fun vi _=>L.length-(intOf vi).toNat)
  case atStart=>exact⟨0,0,rfl,Nat.zero_le _,Nat.le_refl _,wO.o,bg.o⟩
  case round =>
   obtain⟨i,km,rfl,hi,hkm,hnw,hgr⟩:=hrel;obtain⟨wo,hwo⟩:∃wo,wo=wr:=⟨_,rfl⟩;subst hwo;have zX:=ae hgr;have bM:=ae (ah bI.o hgr)
   by_cases hlt:i<L.length
   ·obtain⟨a,rfl,hlc,hat⟩:=ad8.o wo bM.o i hlt;obtain⟨e0,e1,⟨v,e2,hnd⟩,e3⟩:=hat i hlt;obtain⟨so,sc,rfl⟩:∃o c,v=.slice o L[i].nd.length c:=by
     rcases hnd with⟨rfl,h⟩|⟨a,cap,rfl,-⟩
     ·exact⟨none,0,by rw[h];rfl⟩
     ·exact⟨_,_,rfl⟩
    have yU:=ae (BO L i hlt);have Tn:=HH.o.2.1 L[i] (List.getElem_mem _);have Tt:=(HH.o.2.2.2.2.1 L[i] (List.getElem_mem _)).2;have Tu:=ae (qF L i hlt);obtain⟨⟨nm,ve,nd,da⟩,hx⟩:∃x,L[i]=x:=⟨_,rfl⟩;have dA:Hd (L[i].nm=nm):=by rw[hx];exact rfl
    rw[hx]at e0 e1 e2 e3 hnd yU Tn Tt Tu;simp only[]at e0 e1 e2 e3 hnd yU Tn Tt Tu;have hic:i<lc:=by omega
    obtain⟨R,hR⟩:=zN (wo.heap.size);obtain⟨WR,Ko⟩:=zN (wo.alloc (.cells #[.string nm,.string ve,.slice so nd.length sc,.string da] 61));have hgA:wo.grownBy WR none:=by rw[<-Ko];exact au (ak wo none) _
    have Kq:WR.heap[R]?=some (.cells #[.string nm,.string ve,.slice so nd.length sc,.string da] 61 (0,0)):=by rw[<-Ko,<-hR];exact heap_alloc_new wo _
    have r0:WR.cell? ⟨R,0,none⟩=some (.string nm):=by rw[ag Kq];rfl
    have r2:WR.cell? ⟨R,2,none⟩=some (.slice so nd.length sc):=by rw[ag Kq];rfl
    have ul:=hnw.grow hgA;have ad9:=ae ul;obtain⟨⟨-,s1,s2,-⟩,-⟩:=ul.sb.cells;have kZ:=ae hgA;have Cj:Hd (nb<R/\S<R/\M<R/\Mc<R):=by
     obtain⟨cur,q1,-⟩:=hnw.row;obtain⟨D,q2,-⟩:=hnw.cd;have q3:=q2.lt;rw[<-hR];exact⟨(aA q1),(aA hnw.sb),(aA hnw.mm),q3⟩
    have C1:=ae (CN.o so sc nd WR.drew (by omega) (hnd.grow (mG hgA)));have aea:Hd (∀w3,WR.drew.grownBy w3 none->(∃v,w3.cell? ⟨nb,i,none⟩=some v)/\w3.frozen? ⟨nb,i,none⟩=false):=fun w3 hg3=>by
     obtain⟨cur,q1,q2⟩:=((ul.grow (mG (ak WR none))).grow hg3).row;exact⟨⟨cur[i]'(by omega),by rw[ag q1];exact Array.getElem?_eq_getElem (by omega)⟩,Lib.frozen_of_heap q1 i⟩
    have Kr:Hd (∀w3,WR.drew.grownBy w3 none->w3.cell? ⟨S,1,none⟩=some (.slice (some ⟨nb,0,none⟩) L.length L.length)/\w3.cell? ⟨R,2,none⟩=some (.slice so nd.length sc)):=fun w3 hg3=>⟨hg3.cell s1 (by simp),hg3.cell r2 (by simp)⟩
    have aeb:Hd (∀w3 v,WR.drew.grownBy w3 none->(w3.setCell ⟨nb,i,none⟩ v).cell? ⟨S,1,none⟩=some (.slice (some ⟨nb,0,none⟩) L.length L.length)/\(w3.setCell ⟨nb,i,none⟩ v).cell? ⟨R,2,none⟩=some (.slice so nd.length sc)):=fun w3 v hg3=>by
     have hf3:Fx (fun b=>b=nb) w3 (w3.setCell ⟨nb,i,none⟩ v):=(Fx.refl (fun b=>b=nb) w3).set (Or.inl rfl) _ _;exact⟨hf3.cell (Kr.o w3 hg3).1 hdi.2.1,hf3.cell (Kr.o w3 hg3).2 (by have:=Cj.o;omega)⟩
    have HR:=ae hR;have HWR:=ae Ko;clear hat hnd hx hnw ul hgA Kq hgr s2;go_upto_region 6 with fail
    go_region_held3 (fun u=>u.cell? ⟨S,1,none⟩=some (.slice (some ⟨nb,0,none⟩) L.length L.length)/\u.cell? ⟨R,2,none⟩=some (.slice so nd.length sc)) ((first|exact Kr.o _ (by assumption)|exact aeb.o _ _ (by assumption)|go_keep)) (first|(go_at_call 32;refine C1.o.mono ?_;rintro e w3 ⟨ng,rfl,hnm⟩;have hg3:=hnm.o.2.2;obtain⟨⟨vx,zg⟩,hfx⟩:=aea.o w3 hg3))
    have qO:=hnm.o.1;have hlen:(eG L i).length=nd.length:=by rw[yU.o];simp
    have Tv:NwX L O S M nb Mc (.slice po L.length pc) f bar (i+1) i km (w3.setCell ⟨nb,i,none⟩ (.slice (some ⟨ng,0,none⟩) nd.length nd.length)):=by
     have hq:=(ad9.o.grow (mG (ak WR none))).grow hg3;obtain⟨cur,q1,q2,q3⟩:=hnm.o.2.1;have:=hq.name (ng:=ng) (nc:=nd.length) ⟨hdi.2.1,hdi.2.2.2.1,fun e=>hdi.2.2.2.2.2 e.symm⟩ hlt (by omega) (aA q1) ?_ (fun t ht=>?_)
     ·rw[hlen]at this;exact this
     ·have h1:=kZ.o.size;have h2:=HR.o;have h3:=Cj.o;have h4:WR.drew.heap.size=WR.heap.size:=rfl;refine⟨?_,?_,?_,?_⟩<;>omega
     ·rw[ag q1];have hE:∀(K:List ByteArray) (hK:K=nd.map (·.n)) (ht:t<K.length),cur[t]?=some (.string K[t]):=fun K hK ht=>by
       subst hK;exact q3 t ht (by simpa using ht)
      exact hE _ yU.o ht
    have Cm:=ae Tv;have sJ:w1.grownBy (w3.setCell ⟨nb,i,none⟩ (.slice (some ⟨ng,0,none⟩) nd.length nd.length)) none:=ED (ah (ah zX.o (mG kZ.o)) hg3) (bF (ak w3 (some nb)) _ _) (fun q hq=>by injection hq with hq;have:=hbase.2;omega);have wC:=ae sJ;have r0':(w3.setCell ⟨nb,i,none⟩ (.slice (some ⟨ng,0,none⟩) nd.length nd.length)).cell? ⟨R,0,none⟩=some (.string nm):=by
     have hf3:Fx (fun b=>b=nb) w3 (w3.setCell ⟨nb,i,none⟩ (.slice (some ⟨ng,0,none⟩) nd.length nd.length)):=(Fx.refl (fun b=>b=nb) w3).set (Or.inl rfl) _ _;exact hf3.cell (hg3.cell r0 (by simp)) (by have:=Cj.o;omega)
    obtain⟨W6,lw⟩:=zN (w3.setCell ⟨nb,i,none⟩ (.slice (some ⟨ng,0,none⟩) nd.length nd.length));rw[lw]at Cm wC r0' ⊢;have qo:=ae (ah bI.o wC.o);have Tz:WR.heap.size<=W6.heap.size:=by
     rw[<-lw];have h1:=hg3.size;have h2:(w3.setCell ⟨nb,i,none⟩ (.slice (some ⟨ng,0,none⟩) nd.length nd.length)).heap.size=w3.heap.size:=by simp[World.setCell]
     have h4:WR.drew.heap.size=WR.heap.size:=rfl;omega
    have jf:=ae Tz;obtain⟨D,hown,hall,TA⟩:=Cm.o.cd;have TD:=ae TA;have HOWN:=ae hown;have EZ:=ae hown.isMap;have kY:=ae hall;have hkey:=Ej (x:=nm) (by unfold maxLen;omega);obtain⟨v0,cs0,hv0,-⟩:=hall nm;obtain⟨hs,Kt⟩:=zN (Maps.has D (kT nm));have xg:=ae Kt;have I7:Hd (∀W:World,W.heap=W6.heap->(Instr.lookup 79 (.map (some Mc)) (.string nm) true).run prog W=.ok (.tuple #[v0,.bool hs]) W):=fun W hW=>by
     obtain⟨es,cl,q1,q⟩:=hown;obtain⟨v',ps,hrun,hv'⟩:=World.ownsMap.look_ok (w:=W) ⟨es,cl,by rw[hW];exact q1,q⟩ keyS underlying79 (IY _) (show ja (.slice none 0 0)=some (sV,[]) from rfl) hkey;rw[PZ hv' hv0,Kt]at hrun;exact hrun
    have HUP:Hd (∀w5 (g n c:Nat),W6.grownBy w5 none->∃w9,(Instr.mapUpdate 79 (.map (some Mc)) (.string nm) (.slice (some ⟨g,0,none⟩) n c)).run prog w5=.ok () w9/\w9.ownsMap prog 9 ja Mc (km+1) (D.put (kT nm) (.agg [lQ n,lQ c,lQ g,lQ 0]))/\w5.grownBy w9 (some Mc)):=fun w5 g n c hg=>(hown.kept hg (by simp)).update keyS underlying79 (by unfold maxLen;omega) hkey rfl
    have hrun:=fun q=>I7.o (W6.drewN q) rfl
    obtain⟨⟨-,-,s2,-⟩,-⟩:=Cm.o.sb.cells;clear lw hown hall TA hv0 Kt hkey Tz Tv sJ hg3 zg hfx qO hlen hnm s1 r2 r0
    cases hs with
    | true =>
     go_wp2;go_quiet (fail);go_wp2;exact⟨⟨i+1,km,by go_num,by omega,by omega,(Cm.o.seen HOWN.o kY.o TD.o hlt (by rw[dA.o];exact xg.o)).grow (aF (ak W6 none) _),aF wC.o _⟩,by simp[intOf];omega⟩
    | false =>
     go_wp2;go_quiet (fail);go_upto_region 9 with fail
     obtain⟨W7,Ku⟩:=zN (W6.drewN nq);have lg:W6.grownBy W7 none:=by rw[<-Ku];exact aF (ak W6 none) _
     have xP:=ae lg;have t2:=lg.cell s2 (by simp);have t0:=lg.cell r0' (by simp);have C3:=ae (CC.o nm W7.drew (ah qo.o (mG lg)));have tJ:Hd (∀w5,W7.drew.grownBy w5 none->w5.cell? ⟨S,2,none⟩=some (.map (some Mc))/\w5.cell? ⟨R,0,none⟩=some (.string nm)):=fun w5 hg5=>⟨hg5.cell t2 (by simp),hg5.cell t0 (by simp)⟩
     have Gs:Hd (∀w5 w9,W7.drew.grownBy w5 none->w5.grownBy w9 (some Mc)->w9.cell? ⟨S,2,none⟩=some (.map (some Mc))/\w9.cell? ⟨R,0,none⟩=some (.string nm)):=fun w5 w9 hg5 ru=>⟨ru.cell (tJ.o w5 hg5).1 (fun e=>hdi.2.2.1 (Option.some.inj e)),ru.cell (tJ.o w5 hg5).2 (fun e=>by have h1:R=Mc:=Option.some.inj e;have:=Cj.o;omega)⟩
     rw[Ku];clear hrun Ku lg s2 r0'
     go_region_held3 (fun u=>u.cell? ⟨S,2,none⟩=some (.map (some Mc))/\u.cell? ⟨R,0,none⟩=some (.string nm)) ((first|exact tJ.o _ (by assumption)|exact Gs.o _ _ (by assumption) (by assumption)|go_keep)) (first|(go_at_call 33;refine C3.o.mono ?_;rintro e w5 ⟨g,c,cs,rfl,q1,q2,q3,q4,-,q5,hg5⟩;obtain⟨w9,aec,TE,ru⟩:=HUP.o w5 g cs.length c (ah xP.o (ah (mG (ak W7 none)) hg5))))
     have TF:=Cm.o.grow (ah xP.o (ah (mG (ak W7 none)) hg5));have TG:NwX L O S M nb Mc (.slice po L.length pc) f bar (i+1) (i+1) (km+1) w9:=by
      refine TF.cand ⟨hdi.2.2.1,hdi.2.2.2.2.1,hdi.2.2.2.2.2⟩ EZ.o (fun x=>?_) TD.o hlt dA.o (v:=.slice (some ⟨g,0,none⟩) cs.length c) (cs:=cs) rfl ?_ q4 TE ru
      ·obtain⟨v,cs',k1,k2,k3⟩:=kY.o x;exact⟨v,cs',k1,k2.fx ((Fx.refl (fun _=>False) W6).gb (ah xP.o (ah (mG (ak W7 none)) hg5)) (fun b e=>by cases e)) (fun _ _ _ h=>h),k3⟩
      ·rcases q3 with⟨e,-⟩|⟨a',cap,e,h1,h2⟩
       ·cases e
       ·injection e with e1 e2 e3
        cases e1
        subst e3;have hcl:(cs.map fun(k:Nat)=>(k:Int)).length=cs.length:=by simp
        refine Or.inr ⟨g,c,by rw[hcl],h1,q2,?_,fun j hj=>by have:=h2 j hj;rw[uZ]at this;exact this⟩;have h3:=Cj.o;have h4:=jf.o;have h5:=xP.o.size;have h6:=kZ.o.size;have h7:=HR.o;have h8:W7.drew.heap.size=W7.heap.size:=rfl;refine⟨?_,?_,?_,?_⟩<;>omega
     have hgE:=ED (ah wC.o (ah xP.o (ah (mG (ak W7 none)) hg5))) ru (fun q hq=>by injection hq with hq;have:=hbase.2;omega);have HE:=ae (And.intro TG hgE);clear TF TG hgE TE ru hg5 q1 q2 q3 q4 q5 aec;go_wp2;exact⟨⟨i+1,km+1,by go_num,by omega,by omega,HE.o.1,HE.o.2⟩,by simp[intOf];omega⟩
   ·obtain rfl:i=L.length:=by omega
    have C4:=ae (CN.o no nc N wo HH.o.1 (HN.o.grow bM.o));have CJ:=ae hnw;clear hnw hgr;go_wp2_with (go_at_call 32;refine C4.o.mono ?_);rintro e w2 ⟨ng,rfl,hnm⟩;have hg2:=hnm.o.2.2;obtain⟨cur,q1,q2,q3⟩:=hnm.o.2.1;have qO:=hnm.o.1;have ul:=CJ.o.grow hg2;have hlen:(N.map (·.n)).length=N.length:=by simp
    have hlt4:S<wo.heap.size/\M<wo.heap.size/\nb<wo.heap.size/\Mc<wo.heap.size:=by
     obtain⟨cur,q1,-⟩:=CJ.o.row;obtain⟨D,q2,-⟩:=CJ.o.cd;exact⟨(aA CJ.o.sb),(aA CJ.o.mm),(aA q1),q2.lt⟩
    have CL:Hd (Calls prog 34 #[.pointer (some ⟨S,0,none⟩),.slice (some ⟨ng,0,none⟩) N.length N.length] w2 fun e w'=>(∃v,e=.returned v)/\Hd (J9 N L O fu w (.returned (.pointer (some ⟨S,0,none⟩))) w')):=by
     have:=OU w2.heap.size S M ng N.length (.slice po L.length pc) (.slice (some ⟨nb,0,none⟩) L.length L.length) (.map (some Mc)) (.slice none 0 0) (.slice none 0 0) f 0 bar [] (N.map (·.n)) w2 ul.sb (World.ownsRow_nil _ _ _ _) (abX ul.mm) hdi.1 (Nat.le_refl _) (fun t ht=>by rw[ag q1];exact q3 t ht (by rw[hlen]at ht;exact ht)) (by
      rintro(h|h|h)
      ·omega
      ·omega
      ·cases h) (by rw[hlen];exact Nat.le_refl _) (fun x hx=>by
       obtain⟨y,hy,rfl⟩:=List.mem_map.1 hx;have:=(HH.o.2.2.1 y hy).1;unfold maxLen;omega) (by rw[hlen];have:=HH.o.1;simpa using this)
     rw[hlen]at this;refine this.mono ?_;rintro e w3 ⟨bs,bl,rv',rfl,-,k1,k2,k3,k4,k5⟩;refine⟨⟨_,rfl⟩,?_⟩;obtain⟨p1,p2,p3,p4,p5⟩:=HP.o;have k4':Fx (Xb w2.heap.size S M) w2 w3:=k4.mono fun b hb=>by
      rcases hb with h|h|h
      ·exact Or.inl h
      ·exact Or.inr (Or.inl h)
      ·cases h
     have hsz2:=hg2.size;have hs3:=k4.size;have hb1:=hbase.1;have hb2:=hbase.2;have CU:=ah zX.o hg2;have aed:=CU.size;have keep:∀w'',Fx (Xb w2.heap.size S M) w2 w''->w1.grownBy w'' none:=fun w'' hf=>⟨hf.os.trans CU.os,hf.tape.trans CU.tape,hf.output.trans CU.output,Nat.le_trans aed hf.size,fun b hb _=>(hf.block b (by omega) (fun h=>by
      rcases h with h|h|h<;>omega)).trans (CU.block b hb (by simp))⟩
     subst p1;rw[<-p4]at p2;refine⟨w2.heap.size,S,M,nb,Mc,po,pc,P,x0,rv',rfl,⟨by omega,by omega,by omega,hs3,hdi.1,?_⟩,⟨p4,p3,p5⟩,?_,fun w'' hf=>?_,ah bI.o (keep w3 k4')⟩
     ·rintro(h|h|h)<;>omega
     ·rw[<-hf.2.2];exact⟨by rw[p4];exact k1,hf.1,hf.2.1,k2,World.ownsRow_nil _ _ _ _,k3⟩
     ·have TI:=k4'.trans hf;refine NwX.ro (km:=km) (f:=f) (bar:=x0.bar) ?_ rfl ⟨fun e=>hdi.2.1 e.symm,fun e=>hdi.2.2.2.1 e.symm,fun e=>hdi.2.2.1 e.symm,fun e=>hdi.2.2.2.2.1 e.symm⟩ hL (p2.grow (keep w'' TI)) TI;rw[p4];exact ul
    clear hg2 q1 q2 q3 qO ul hlen hlt4 hnm;go_wp2_with (go_at_call 34;refine CL.o.mono ?_);rintro e w3 ⟨⟨v,rfl⟩,hpost⟩;go_wp2;go_ret;exact hpost.o
end Go.Proofs.YtapodndfpecglaaGreatDoor
