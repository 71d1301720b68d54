import Derived.Test.YticgahdffjnabaaGreatDoorM36
import Derived.Lib.SmallJoins
set_option linter.unusedVariables false
set_option maxHeartbeats 6400000
namespace Go.Proofs.YticgahdffjnabaaGreatDoor
open Go.RowKit Go.Maps Go.Joins
theorem gb_dr (w:World):w.grownBy w.drew none:=⟨rfl,rfl,rfl,Nat.le_refl _,fun _ _ _=>rfl⟩
theorem gb_setAt {w W:World} {q:Nat} (h:w.grownBy W none) (hq:w.heap.size<=q) (o:Nat) (v:Value):w.grownBy (W.setCell ⟨q,o,none⟩ v) none :=
 ⟨h.os,h.tape,h.output,by simpa [World.setCell] using h.size,fun k hk hn=>(heap_setCell_other W _ k _ (by show ¬ k=q;omega)).trans (h.block k hk hn)⟩
theorem PSt.other {w:World} {b g n nam bar:Nat} {M:List Nat} (h:PSt w b g n nam bar M) {q:Nat} (h1:¬ q=b) (h2:¬ q=g) (o:Nat) (v:Value):PSt (w.setCell ⟨q,o,none⟩ v) b g n nam bar M :=
 ⟨(heap_setCell_other w _ b _ (by show ¬ b=q;exact fun e=>h1 e.symm)).trans h.1,(heap_setCell_other w _ g _ (by show ¬ g=q;exact fun e=>h2 e.symm)).trans h.2.1,h.2.2⟩
theorem cParseR (s:ByteArray) (w:World) (hs:s.size < 2 ^ 60) (ho:okR s=true):Calls Tryz.prog 37 #[.string s] w fun e w'=>∃(o:Option Addr) (n c:Nat) (E K:Int) (S:List Sp),e=.returned (.tuple #[.slice o n c,.int .i64 E,.int .i64 K])/\(OS w' w.heap.size (.slice o n c) S/\LOk S 70000/\Has S (admS (rdRange s.data.toList).2.2))/\w.grownBy w' none:=by
 have h0:(rdRange s.data.toList).1=0:=of_decide_eq_true ho;refine (rparse_any s w (by omega)).mono ?_;rintro e w' ⟨o,n,c,rfl,hg,-,hok⟩;obtain ⟨T,h1,h2,h3,h4⟩:=hok h0;exact ⟨o,n,c,_,_,_,rfl,⟨h1,h2,h4⟩,hg⟩
theorem cHoldsV (sl:Value) (S:List Sp) (f:V->Bool) (s:ByteArray) (w:World) (h:SpS w sl S) (hk:LOk S 70000) (hh:Has S f) (hv:okV s=true):Calls Tryz.prog 38 #[sl,valV (verO s)] w fun e w'=>e=.returned (.bool (f (cutV (verO s))))/\w.grownBy w' none:=by
 have:=pre_100 s;refine (cHoldsQ sl S _ _ _ _ _ w h (by have:=hk.ln;omega) hk.sm (by show (verO s).pre.toArray.size<=_;simp;omega)).mono ?_;rintro e w' ⟨rfl,hg⟩;refine ⟨ret_bool ?_,hg⟩;rw [<-hh _ (okV_vok hv)];simp [cutV]
set_option maxRecDepth 100000 in
theorem pullOf_any (o o':Option Addr) (c c':Nat) (a:Addr) (N:List Nd) (L:List Re) (w:World) (h:NdS w (.slice o N.length c) N) (h':ReS w (.slice o' L.length c') L) (hv:VrS w a L) (hvo:∀x ∈ L,okV x.ve=true) (hr:∀y ∈ N,okR y.r=true) (hN:N.length<=1048576) (hL:L.length<=64) (hS:∀y ∈ N,y.n.size < 2 ^ 60/\y.r.size < 2 ^ 60) :
  Calls Tryz.prog 23 #[.slice o N.length c,.slice o' L.length c',.slice (some a) L.length L.length] w fun e w'=>∃(x:Pl) (g:Nat),e=.returned (.agg #[.int .u64 (x.nam:Nat),.int .u64 (x.bar:Nat),.slice (some ⟨g,0,none⟩) N.length N.length])/\w'.heap[g]?=some (.cells (msV x.mt) 35 (0,0))/\PlIs N L x/\w.grownBy w' none:=by
 have HEN:Hd (∀w',w.grownBy w' none->∀i,i < N.length->∃a,o=some a/\N.length<=c/\∀j (hj:j < N.length),NdAt w' (a.add (j * 2)) N[j]):=fun w' hg i hi=>nds_at (h.grow hg) hi
 have HEL:Hd (∀w',w.grownBy w' none->∀i,i < L.length->∃a,o'=some a/\L.length<=c'/\∀j (hj:j < L.length),ReAt w' (a.add (j * 4)) L[j]):=fun w' hg i hi=>reS_at (h'.grow hg) hi
 have HEV:Hd (∀w',w.grownBy w' none->VrS w' a L):=fun w' hg=>hv.grow hg
 have CP:Hd (∀y ∈ N,∀w,Calls Tryz.prog 37 #[.string y.r] w fun e w'=>∃(o:Option Addr) (n c:Nat) (E K:Int) (S:List Sp),e=.returned (.tuple #[.slice o n c,.int .i64 E,.int .i64 K])/\(OS w' w.heap.size (.slice o n c) S/\LOk S 70000/\Has S (admS (rdRange y.r.data.toList).2.2))/\w.grownBy w' none):=fun y hy w=>cParseR y.r w (hS y hy).2 (hr y hy)
 have HVO:Hd (∀x ∈ L,okV x.ve=true):=hvo;have CO:Hd (∀k w,k < 64->Calls Tryz.prog 21 #[.int .i64 (k:Nat)] w fun e w'=>e=.returned (.int .u64 ((2 ^ k:Nat):Int))/\w'=w):=fun k w hk=>only_any k hk w
 obtain ⟨R0,hR0⟩:∃R,w.heap.size=R:=⟨_,rfl⟩;have HR0:Hd (w.heap.size=R0):=hR0;have hmk:=make_set N.length hN (w.alloc (.cells #[.int .u64 0,.int .u64 0,.slice none 0 0] 40));rw [World.size_alloc,hR0] at hmk;clear h h' hv hvo hr hS;go_enter Tryz.func23,Tryz.ntmps23;go_wp2;obtain ⟨G,hG⟩:=nm (R0+1);obtain ⟨B,hB⟩:=nm (G+1);rw [hG,hB];have HGB:Hd (R0+1=G/\G+1=B):=⟨hG,hB⟩;have HST0:Hd (PSt (((w.alloc (.cells #[.int .u64 0,.int .u64 0,.slice none 0 0] 40)).alloc (.cells (msV (List.replicate N.length 0)) 35)).alloc (.cells #[.int .u64 0,.int .u64 0,.slice (some ⟨G,0,none⟩) N.length N.length] 40)) B G N.length 0 0 (List.replicate N.length 0)):=by
  have s1:(w.alloc (.cells #[.int .u64 0,.int .u64 0,.slice none 0 0] 40)).heap.size=G:=by rw [World.size_alloc,HR0.o,hG]
  have s2:((w.alloc (.cells #[.int .u64 0,.int .u64 0,.slice none 0 0] 40)).alloc (.cells (msV (List.replicate N.length 0)) 35)).heap.size=B:=by rw [World.size_alloc,s1,hB]
  refine ⟨?_,?_,by simp⟩
  ·have:=heap_alloc_new ((w.alloc (.cells #[.int .u64 0,.int .u64 0,.slice none 0 0] 40)).alloc (.cells (msV (List.replicate N.length 0)) 35)) (.cells #[.int .u64 0,.int .u64 0,.slice (some ⟨G,0,none⟩) N.length N.length] 40);rw [s2] at this;exact this
  ·have:=heap_alloc_new (w.alloc (.cells #[.int .u64 0,.int .u64 0,.slice none 0 0] 40)) (.cells (msV (List.replicate N.length 0)) 35);rw [s1] at this;exact ((gb_alloc (gb_refl _ none) _).block G (by rw [s2];omega) (by simp)).trans this
 have HG0:Hd (w.grownBy (((w.alloc (.cells #[.int .u64 0,.int .u64 0,.slice none 0 0] 40)).alloc (.cells (msV (List.replicate N.length 0)) 35)).alloc (.cells #[.int .u64 0,.int .u64 0,.slice (some ⟨G,0,none⟩) N.length N.length] 40)) none):=gb_alloc (gb_alloc (gb_alloc (gb_refl w none) _) _) _;have HRB:Hd ((((w.alloc (.cells #[.int .u64 0,.int .u64 0,.slice none 0 0] 40)).alloc (.cells (msV (List.replicate N.length 0)) 35)).alloc (.cells #[.int .u64 0,.int .u64 0,.slice (some ⟨G,0,none⟩) N.length N.length] 40)).heap[R0]?=some (.cells #[.int .u64 0,.int .u64 0,.slice none 0 0] 40 (0,0))/\B < (((w.alloc (.cells #[.int .u64 0,.int .u64 0,.slice none 0 0] 40)).alloc (.cells (msV (List.replicate N.length 0)) 35)).alloc (.cells #[.int .u64 0,.int .u64 0,.slice (some ⟨G,0,none⟩) N.length N.length] 40)).heap.size):=by
  have:=heap_alloc_new w (.cells #[.int .u64 0,.int .u64 0,.slice none 0 0] 40);rw [HR0.o] at this;refine ⟨((gb_alloc (gb_alloc (gb_refl _ none) _) _).block R0 (by rw [World.size_alloc,HR0.o];omega) (by simp)).trans this,?_⟩;rw [World.size_alloc,World.size_alloc,World.size_alloc,HR0.o];omega
 generalize (((w.alloc (.cells #[.int .u64 0,.int .u64 0,.slice none 0 0] 40)).alloc (.cells (msV (List.replicate N.length 0)) 35)).alloc (.cells #[.int .u64 0,.int .u64 0,.slice (some ⟨G,0,none⟩) N.length N.length] 40))=W0 at HST0 HG0 HRB ⊢;clear hmk hR0 hG hB;go_loopw [21] (fun vi wr=>∃(i nam bar:Nat) (M:List Nat),vi=.int .i64 i/\i<=N.length/\PSt wr B G N.length nam bar M/\PBt N L i 0 nam bar M/\E2 B G W0 wr) (fun vi _=>N.length - (intOf vi).toNat)
 case atStart=>exact ⟨0,0,0,_,rfl,Nat.zero_le _,HST0.o,pb_zero N L _,E2.refl _ _ _⟩
 case round =>
  obtain ⟨i,nam,bar,M,rfl,hi,hst,hpb,he⟩:=hrel;have HGW:Hd (w.grownBy wr none):=he.gb HG0.o (by have:=HGB.o;have:=HR0.o;omega) (by have:=HGB.o;have:=HR0.o;omega);have HE0:Hd (E2 B G W0 wr):=he;obtain ⟨wo,hwo⟩:∃wo,wo=wr:=⟨_,rfl⟩;subst hwo
  by_cases hlt:i < N.length
  ·obtain ⟨a1,ho,hcp,hat⟩:=HEN.o wo HGW.o i hlt;obtain ⟨e0,e1⟩:=hat i hlt;have CP1:=CP.o N[i] (List.getElem_mem hlt);have HADM:Hd (∀k,admT N[i].r (veK L k)=admS (rdRange N[i].r.data.toList).2.2 (cutV (verO (veK L k)))):=fun k=>rfl
   obtain ⟨y,hy⟩:=nm (N[i]);have HY:Hd (N[i]=y):=hy;rw [hy] at e0 e1 CP1 HADM;have CPP:Hd (∀w,Calls Tryz.prog 37 #[.string y.r] w fun e w'=>∃(o:Option Addr) (n c:Nat) (E K:Int) (S:List Sp),e=.returned (.tuple #[.slice o n c,.int .i64 E,.int .i64 K])/\(OS w' w.heap.size (.slice o n c) S/\LOk S 70000/\Has S (admS (rdRange y.r.data.toList).2.2))/\w.grownBy w' none):=CP1;have hic:i < c:=by omega
   have HST:Hd (PSt wo B G N.length nam bar M):=hst;have HPB:Hd (PBt N L i 0 nam bar M):=hpb;obtain ⟨Y0,hY0⟩:∃Y,wo.heap.size=Y:=⟨_,rfl⟩;have HY0:Hd (wo.heap.size=Y0):=hY0;have HYB:Hd ((wo.alloc (.cells #[.string y.n,.string y.r] 49)).heap[Y0]?=some (.cells #[.string y.n,.string y.r] 49 (0,0))):=by rw [<-hY0];exact heap_alloc_new wo _
   have HG1:Hd (wo.grownBy (wo.alloc (.cells #[.string y.n,.string y.r] 49)) none):=gb_alloc (gb_refl wo none) _;subst ho;clear hat hcp hst hpb he CP1 hy;go_wp2_with (first | (go_at_call 37;refine (CPP.o _).mono ?_));rintro e w2 ⟨oS,nS,cS,E,K,S,rfl,⟨hos,hlk,hhas⟩,hg2⟩;have HOS:Hd (OS w2 (Y0+1) (.slice oS nS cS) S/\LOk S 70000/\Has S (admS (rdRange y.r.data.toList).2.2)):=by
    refine ⟨?_,hlk,hhas⟩;rw [World.size_alloc,HY0.o] at hos;exact hos
   have HYB2:Hd (w2.heap[Y0]?=some (.cells #[.string y.n,.string y.r] 49 (0,0))):=(hg2.block Y0 (hqL HYB.o) (by simp)).trans HYB.o;have HG2:Hd (wo.grownBy w2 none):=gb_trans HG1.o hg2;have HST2:Hd (PSt w2 B G N.length nam bar M):=HST.o.grow HG2.o;have HE2:Hd (E2 B G W0 w2):=HE0.o.then HG2.o;have HLT:Hd (B < Y0):=by
    have:=HRB.o.2;have:=HE0.o.size;have:=HY0.o;show B < Y0;omega
   try rw [hY0]
   clear hos hlk hhas hg2 hY0 e0 e1;go_wp2;go_loopw [35] (fun vk wr=>∃(k nam bar:Nat) (M:List Nat),vk=.int .i64 k/\k<=L.length/\PSt wr B G N.length nam bar M/\PBt N L i k nam bar M/\E2 B G w2 wr) (fun vk _=>L.length - (intOf vk).toNat)
   case atStart=>exact ⟨0,nam,bar,M,rfl,Nat.zero_le _,HST2.o,HPB.o,E2.refl _ _ _⟩
   case round =>
    obtain ⟨k,nam,bar,M,rfl,hk,hst,hpb,he⟩:=hrel;have HW2:Hd (w.grownBy w2 none):=HE2.o.gb HG0.o (by have:=HGB.o;have:=HR0.o;omega) (by have:=HGB.o;have:=HR0.o;omega);have HGW2:Hd (w.grownBy wr none):=he.gb HW2.o (by have:=HGB.o;have:=HR0.o;omega) (by have:=HGB.o;have:=HR0.o;omega);have HEk:Hd (E2 B G w2 wr):=he;have HSTk:Hd (PSt wr B G N.length nam bar M):=hst;have HPBk:Hd (PBt N L i k nam bar M):=hpb
    by_cases hkl:k < L.length
    ·obtain ⟨a2,ho2,hcp2,hat2⟩:=HEL.o wr HGW2.o k hkl;obtain ⟨f0,f1,⟨sv,f2,f2'⟩,f3⟩:=hat2 k hkl;have hvk:=HVO.o _ (List.getElem_mem hkl);have HNK:Hd (nmK L k=L[k].nm/\veK L k=L[k].ve):=⟨nmK_at L k hkl,veK_at L k hkl⟩;obtain ⟨x,hx⟩:=nm (L[k]);have HX:Hd (L[k]=x):=hx;rw [hx] at f0 f1 f2' f3 hvk HNK;obtain ⟨so,sn,sc,rfl⟩:∃o n c,sv=.slice o n c:=by
      rcases f2' with ⟨rfl,-⟩ | ⟨_,_,rfl,-⟩ <;> exact ⟨_,_,_,rfl⟩
     have hyb:wr.heap[Y0]?=some (.cells #[.string y.n,.string y.r] 49 (0,0)):=(he.block Y0 (hqL HYB2.o) (by have:=HLT.o;omega) (by have:=HLT.o;have:=HGB.o;omega)).trans HYB2.o;have yc:=(gb_alloc (gb_refl wr none) (.cells #[.string x.nm,.string x.ve,.slice so sn sc,.string x.da] 53)).cell (show wr.cell? ⟨Y0,0,none⟩=some (.string y.n) by rw [cOH hyb];rfl) (by simp);have hkc:k < c':=by omega
     obtain ⟨W3,hW3⟩:∃W,wr.alloc (.cells #[.string x.nm,.string x.ve,.slice so sn sc,.string x.da] 53)=W:=⟨_,rfl⟩;have hx0:W3.cell? ⟨wr.heap.size,0,none⟩=some (.string x.nm):=by
      rw [<-hW3,cOH (heap_alloc_new wr _)];rfl
     rw [hW3] at yc;have HG3:Hd (wr.grownBy W3 none):=by rw [<-hW3];exact gb_alloc (gb_refl wr none) _
     have HST3:Hd (PSt W3 B G N.length nam bar M):=HSTk.o.grow HG3.o;have HE3:Hd (E2 B G w2 W3):=HEk.o.then HG3.o;subst ho2;clear hat2 hcp2 hst hpb he hx f2' hyb
     by_cases hn:x.nm=y.n
     ·have hnn:(x.nm.toList == y.n.toList)=true:=by rw [hn];simp
      have HNE:Hd (N[i].n=nmK L k):=by show _=_;rw [HY.o,HNK.o.1];exact hn.symm
      obtain ⟨p0,p1,p2,pf⟩:=HST3.o.cells;have pf0:=pf 0;have hnl:=HPBk.o.n1;have hbo:=bits_or_u64_nat nam (2 ^ k) hnl (bit_small (by omega));have C1:Hd (∀w,Calls Tryz.prog 21 #[.int .i64 (k:Nat)] w fun e w'=>e=.returned (.int .u64 ((2 ^ k:Nat):Int))/\w'=w):=fun w=>CO.o k w (by omega)
      obtain ⟨X,hX⟩:=nm (nam ||| 2 ^ k)
      obtain ⟨Z,hZ⟩:∃Z:Nat,2 ^ k=Z:=⟨_,rfl⟩;have HXE:Hd (nam ||| 2 ^ k=X):=hX;rw [hX] at hbo;rw [hZ] at C1 hbo;have HZE:Hd (2 ^ k=Z):=hZ;clear hn pf hX hZ hnl p1 p2;go_upto_region 10 with fail
      go_region_with (first | (go_at_call 21;refine (C1.o _).mono ?_;rintro e w' ⟨rfl,rfl⟩))
      all_goals (
       obtain ⟨W4,hW4⟩:∃W,(W3.setCell ⟨B,0,none⟩ (.int .u64 (X:Nat))).drew=W:=⟨_,rfl⟩;have HBG:Hd (¬ G=B):=by have:=HGB.o;show ¬ G=B;omega
       have HST4:Hd (PSt W4 B G N.length X bar M):=by rw [<-hW4];exact (HST3.o.nam HBG.o X).grow (gb_dr _)
       have HE4:Hd (E2 B G w2 W4):=by rw [<-hW4];exact (HE3.o.set (Or.inl rfl) 0 _).then (gb_dr _)
       have HGW4:Hd (w.grownBy W4 none):=HE4.o.gb HW2.o (by have:=HGB.o;have:=HR0.o;omega) (by have:=HGB.o;have:=HR0.o;omega);obtain ⟨g0,g1,g2,g3,g4⟩:=HEV.o W4 HGW4.o k hkl;rw [HX.o] at g0 g1 g2 g3 g4;have CH:Hd (Calls Tryz.prog 38 #[.slice oS nS cS,valV (verO x.ve)] W4 fun e w'=>e=.returned (.bool (admS (rdRange y.r.data.toList).2.2 (cutV (verO x.ve))))/\W4.grownBy w' none):=cHoldsV _ S _ x.ve W4 (HE4.o.own HOS.o.1 (by have:=HLT.o;omega) (by have:=HLT.o;have:=HGB.o;omega)).sps HOS.o.2.1 HOS.o.2.2 hvk;unfold valV at CH;obtain ⟨v1,hv1⟩:∃v,(verO x.ve).major=v:=⟨_,rfl⟩;obtain ⟨v2,hv2⟩:∃v,(verO x.ve).minor=v:=⟨_,rfl⟩;obtain ⟨v3,hv3⟩:∃v,(verO x.ve).patch=v:=⟨_,rfl⟩;obtain ⟨v4,hv4⟩:∃v:ByteArray,⟨(verO x.ve).pre.toArray⟩=v:=⟨_,rfl⟩;obtain ⟨v5,hv5⟩:∃v:ByteArray,⟨(verO x.ve).build.toArray⟩=v:=⟨_,rfl⟩;rw [hv1] at CH g0;rw [hv2] at CH g1;rw [hv3] at CH g2;rw [hv4] at CH g3
       rw [hv5] at CH g4;have HQ:Hd (admT N[i].r (veK L k)=admS (rdRange y.r.data.toList).2.2 (cutV (verO x.ve))):=by show _=_;rw [HY.o,HNK.o.2];rfl
       obtain ⟨q,hq⟩:=nm (admS (rdRange y.r.data.toList).2.2 (cutV (verO x.ve)));rw [hq] at CH HQ;rw [hW4];clear hW4 hW3 hv1 hv2 hv3 hv4 hv5 hq hx0 yc p0 pf0 f0 f1 f2 f3 hnn hbo
       cases q with
       | true =>
        go_wp2_with (first | (go_at_call 38;refine CH.o.mono ?_));rintro e w5 ⟨rfl,hg5⟩;have HST5:Hd (PSt w5 B G N.length X bar M):=HST4.o.grow hg5;have HE5:Hd (E2 B G w2 w5):=HE4.o.then hg5;have hiM:i < M.length:=by rw [HST5.o.2.2];exact hlt
        obtain ⟨r0,r1⟩:=HST5.o.cell i hiM;obtain ⟨-,-,p2,-⟩:=HST5.o.cells;have hbo:=bits_or_u64_nat M[i] (2 ^ k) (HPBk.o.n3 _ (List.getElem_mem _)) (bit_small (by omega));have HPY:Hd (PBt N L i (k+1) (nam ||| 2 ^ k) bar (M.set i (M[i] ||| 2 ^ k))):=pb_yes HPBk.o hlt hkl (by omega) HNE.o HQ.o hiM;obtain ⟨m,hm⟩:=nm (M[i]);obtain ⟨m',hm'⟩:∃x,m ||| 2 ^ k=x:=⟨_,rfl⟩
        rw [hm] at r0 hbo HPY;rw [hm'] at hbo HPY;rw [HZE.o] at hbo;rw [HXE.o] at HPY;clear hm hm' hg5 g0 g1 g2 g3 g4;go_upto_region 12 with fail
        go_region_with (first | (go_at_call 21;refine (C1.o _).mono ?_;rintro e w' ⟨rfl,rfl⟩))
        all_goals (
         have HSTn:Hd (PSt ((w5.setCell ⟨G,i,none⟩ (.int .u64 (m':Nat))).drew) B G N.length X bar (M.set i m')):=(HST5.o.met HBG.o i m').grow (gb_dr _);have HEn:Hd (E2 B G w2 ((w5.setCell ⟨G,i,none⟩ (.int .u64 (m':Nat))).drew)):=(HE5.o.set (Or.inr rfl) i _).then (gb_dr _);go_wp2;go_roundw
         case rel=>exact ⟨k+1,X,bar,M.set i m',by go_num,by omega,HSTn.o,HPY.o,HEn.o⟩
         case measure=>simp [intOf];omega)
       | false =>
        go_wp2_with (first | (go_at_call 38;refine CH.o.mono ?_));rintro e w5 ⟨rfl,hg5⟩;have HST5:Hd (PSt w5 B G N.length X bar M):=HST4.o.grow hg5;have HE5:Hd (E2 B G w2 w5):=HE4.o.then hg5;obtain ⟨-,p1,-,pf⟩:=HST5.o.cells;have pf1:=pf 1;have hbo:=bits_or_u64_nat bar (2 ^ k) HPBk.o.n2 (bit_small (by omega));have HPY:Hd (PBt N L i (k+1) (nam ||| 2 ^ k) (bar ||| 2 ^ k) M):=pb_bar HPBk.o hlt hkl (by omega) HNE.o HQ.o;obtain ⟨m',hm'⟩:∃x,bar ||| 2 ^ k=x:=⟨_,rfl⟩
        rw [hm'] at hbo HPY;rw [HZE.o] at hbo;rw [HXE.o] at HPY;clear hm' hg5 g0 g1 g2 g3 g4 pf;go_upto_region 13 with fail
        go_region_with (first | (go_at_call 21;refine (C1.o _).mono ?_;rintro e w' ⟨rfl,rfl⟩))
        all_goals (
         have HSTn:Hd (PSt ((w5.setCell ⟨B,1,none⟩ (.int .u64 (m':Nat))).drew) B G N.length X m' M):=(HST5.o.bar HBG.o m').grow (gb_dr _);have HEn:Hd (E2 B G w2 ((w5.setCell ⟨B,1,none⟩ (.int .u64 (m':Nat))).drew)):=(HE5.o.set (Or.inl rfl) 1 _).then (gb_dr _);go_wp2;go_roundw
         case rel=>exact ⟨k+1,X,m',M,by go_num,by omega,HSTn.o,HPY.o,HEn.o⟩
         case measure=>simp [intOf];omega))
     ·have hnn:(x.nm.toList == y.n.toList)=false:=txt_ne hn;have HPN:Hd (PBt N L i (k+1) nam bar M):=pb_skip HPBk.o hlt hkl (by rw [HY.o,HNK.o.1];exact fun e=>hn e.symm);clear hn;go_wp2;go_roundw
      case rel=>exact ⟨k+1,nam,bar,M,by go_num,by omega,HST3.o,HPN.o,HE3.o⟩
      case measure=>simp [intOf];omega
    ·have hke:k=L.length:=by omega
     have HPN:Hd (PBt N L (i+1) 0 nam bar M):=by
      rw [hke] at hpb;exact pb_end hpb hlt
     have HEN2:Hd (E2 B G W0 wr):=by
      refine ⟨he.os.trans HE2.o.os,he.tape.trans HE2.o.tape,he.output.trans HE2.o.output,Nat.le_trans HE2.o.size he.size,fun q hq h1 h2=>(he.block q (Nat.lt_of_lt_of_le hq HE2.o.size) h1 h2).trans (HE2.o.block q hq h1 h2)⟩
     clear hst hpb he hke hk;go_wp2;go_roundw
     case rel=>exact ⟨i+1,nam,bar,M,by go_num,by omega,HSTk.o,HPN.o,HEN2.o⟩
     case measure=>simp [intOf];omega
  ·have hil:i=N.length:=by omega
   have HPI:Hd (PlIs N L ⟨nam,bar,M⟩):=by
    rw [hil] at hpb;exact pb_all hpb hst.2.2 hN
   have HST:Hd (PSt wo B G N.length nam bar M):=hst;obtain ⟨p0,p1,p2,-⟩:=hst.cells;have hrb:wo.heap[R0]?=some (.cells #[.int .u64 0,.int .u64 0,.slice none 0 0] 40 (0,0)):=(he.block R0 (by have:=HRB.o.2;have:=HGB.o;omega) (by have:=HGB.o;omega) (by have:=HGB.o;omega)).trans HRB.o.1;have HRB2:Hd (wo.heap[R0]?=some (.cells #[.int .u64 0,.int .u64 0,.slice none 0 0] 40 (0,0))):=hrb;have q0:wo.cell? ⟨R0,0,none⟩=some (.int .u64 0):=by rw [cOH hrb];rfl
   have q1:wo.cell? ⟨R0,1,none⟩=some (.int .u64 0):=by rw [cOH hrb];rfl
   have q2:wo.cell? ⟨R0,2,none⟩=some (.slice none 0 0):=by rw [cOH hrb];rfl
   have qf0:=Lib.frozen_of_heap hrb 0;have qf1:=Lib.frozen_of_heap hrb 1;have qf2:=Lib.frozen_of_heap hrb 2;clear hst hpb he hil hi hrb;go_wp2;have hb1:=block_setCell (i:=0) HRB2.o (.int .u64 (nam:Nat));have hb2:=block_setCell (i:=1) hb1 (.int .u64 (bar:Nat));have hb3:=block_setCell (i:=2) hb2 (.slice (some ⟨G,0,none⟩) N.length N.length);have hneq:¬ R0=B/\¬ R0=G:=by have:=HGB.o;omega
   have hst9:=((HST.o.other (q:=R0) hneq.1 hneq.2 0 (.int .u64 (nam:Nat))).other (q:=R0) hneq.1 hneq.2 1 (.int .u64 (bar:Nat))).other (q:=R0) hneq.1 hneq.2 2 (.slice (some ⟨G,0,none⟩) N.length N.length);have hg9:w.grownBy (((wo.setCell ⟨R0,0,none⟩ (.int .u64 (nam:Nat))).setCell ⟨R0,1,none⟩ (.int .u64 (bar:Nat))).setCell ⟨R0,2,none⟩ (.slice (some ⟨G,0,none⟩) N.length N.length)) none:=gb_setAt (gb_setAt (gb_setAt HGW.o (Nat.le_of_eq HR0.o) _ _) (Nat.le_of_eq HR0.o) _ _) (Nat.le_of_eq HR0.o) _ _;refine bodyPost_ret (results_cell_row rfl _ _ R0 40 #[.int .u64 (nam:Nat),.int .u64 (bar:Nat),.slice (some ⟨G,0,none⟩) N.length N.length] (0,0) _ rfl ?_ Tryz.underlying40 rfl (by kernel_rfl)) rfl ⟨⟨nam,bar,M⟩,G,rfl,hst9.2.1,HPI.o,hg9⟩;exact hb3
open Go.RowKit Go.Maps Go.Joins
theorem plain_add (b n:Nat):(⟨b,0,none⟩:Addr).add n=⟨b,n,none⟩:=by
 unfold Addr.add;split
 ·rename_i h0;rw [h0]
 ·simp
theorem ms_sns {w:World} {g n:Nat} {M:List Nat} (h:w.heap[g]?=some (.cells (msV M) 35 (0,0))) (hn:M.length=n):SnS w (.slice (some ⟨g,0,none⟩) n n) M:=by
 subst hn;refine Or.inr ⟨⟨g,0,none⟩,_,rfl,Nat.le_refl _,fun j hj=>?_⟩;rw [plain_add,cOH h];unfold msV;simp [hj]
theorem infoVer:(Tryz.prog.info? 69).map (fun i=>(i.zero,i.size,i.bytes))=some (some (.agg #[.int .i64 0,.int .i64 0,.int .i64 0,.string ⟨#[]⟩,.string ⟨#[]⟩]),5,56):=by kernel_rfl
theorem infoPull:(Tryz.prog.info? 40).map (fun i=>(i.zero,i.size,i.bytes))=some (some (.agg #[.int .u64 0,.int .u64 0,.slice none 0 0]),3,40):=by kernel_rfl
theorem make_ver (n:Nat) (hn:n<=1048576) (W:World):(Instr.makeSlice 67 (.int .i64 (n:Int)) (.int .i64 (n:Int))).run Tryz.prog W=.ok (.slice (some ⟨W.heap.size,0,none⟩) n n) (W.alloc (.cells (madeCells #[.int .i64 0,.int .i64 0,.int .i64 0,.string ⟨#[]⟩,.string ⟨#[]⟩] (n * 5)) 69)):=by
 obtain ⟨i0,hi0,hii⟩:=Option.map_eq_some_iff.1 infoVer;simp only [Prod.mk.injEq] at hii;obtain ⟨hz0,hz1,hzb⟩:=hii;have:=run_make W 67 69 i0 _ Tryz.underlying67 hi0 hz0 .i64 .i64 (n:Int) (n:Int) (by omega) (Int.le_refl _) (by rw [hzb];omega) (by omega);rw [this,hz1];have e:((n:Int)).toNat=n:=by omega
 rw [e];rfl
theorem make_pull (n:Nat) (hn:n<=1048576) (W:World):(Instr.makeSlice 41 (.int .i64 (n:Int)) (.int .i64 (n:Int))).run Tryz.prog W=.ok (.slice (some ⟨W.heap.size,0,none⟩) n n) (W.alloc (.cells (madeCells #[.int .u64 0,.int .u64 0,.slice none 0 0] (n * 3)) 40)):=by
 obtain ⟨i0,hi0,hii⟩:=Option.map_eq_some_iff.1 infoPull;simp only [Prod.mk.injEq] at hii;obtain ⟨hz0,hz1,hzb⟩:=hii;have:=run_make W 41 40 i0 _ Tryz.underlying41 hi0 hz0 .i64 .i64 (n:Int) (n:Int) (by omega) (Int.le_refl _) (by rw [hzb];omega) (by omega);rw [this,hz1];have e:((n:Int)).toNat=n:=by omega
 rw [e];rfl
theorem setAt (cur:Array Value) (p k:Nat) (v:Value):(cur.setIfInBounds p v)[k]?=if p=k then (if p < cur.size then some v else none) else cur[k]?:=by
 rw [Array.getElem?_setIfInBounds]
def RowV (w:World) (V n i:Nat) (L:List Re):Prop:=∃cur:Array Value,w.heap[V]?=some (.cells cur 69 (0,0))/\cur.size=n * 5/\∀j (hj:j < L.length),j < i->cur[j * 5]?=some (.int .i64 (verO L[j].ve).major)/\cur[j * 5+1]?=some (.int .i64 (verO L[j].ve).minor)/\cur[j * 5+2]?=some (.int .i64 (verO L[j].ve).patch)/\cur[j * 5+3]?=some (.string ⟨(verO L[j].ve).pre.toArray⟩)/\cur[j * 5+4]?=some (.string ⟨(verO L[j].ve).build.toArray⟩)
theorem RowV.grow {w w':World} {V n i:Nat} {L:List Re} (h:RowV w V n i L) (hg:w.grownBy w' none):RowV w' V n i L:=by
 obtain ⟨cur,h1,h2,h3⟩:=h;exact ⟨cur,(hg.block V (hqL h1) (by simp)).trans h1,h2,h3⟩
theorem RowV.lt {w:World} {V n i:Nat} {L:List Re} (h:RowV w V n i L):V < w.heap.size:=by
 obtain ⟨cur,h1,-⟩:=h;exact (hqL h1)
theorem RowV.room {w:World} {V n i:Nat} {L:List Re} (h:RowV w V n i L) (q:Nat) (hq:q < n * 5):(∃v,w.cell? ⟨V,q,none⟩=some v)/\w.frozen? ⟨V,q,none⟩=false:=by
 obtain ⟨cur,h1,h2,-⟩:=h;refine ⟨?_,Lib.frozen_of_heap h1 q⟩;rw [cOH h1];exact ⟨cur[q]'(by omega),Array.getElem?_eq_getElem (by omega)⟩
theorem RowV.set {w:World} {V n i:Nat} {L:List Re} (h:RowV w V n i L) (hi:i < L.length) (hn:L.length=n) (v1 v2 v3:Int) (v4 v5:ByteArray) (e1:(verO L[i].ve).major=v1) (e2:(verO L[i].ve).minor=v2) (e3:(verO L[i].ve).patch=v3) (e4:(⟨(verO L[i].ve).pre.toArray⟩:ByteArray)=v4) (e5:(⟨(verO L[i].ve).build.toArray⟩:ByteArray)=v5) :
  RowV (((((w.setCell ⟨V,i * 5,none⟩ (.int .i64 v1)).setCell ⟨V,i * 5+1,none⟩ (.int .i64 v2)).setCell ⟨V,i * 5+2,none⟩ (.int .i64 v3)).setCell ⟨V,i * 5+3,none⟩ (.string v4)).setCell ⟨V,i * 5+4,none⟩ (.string v5)) V n (i+1) L:=by
 obtain ⟨cur,h1,h2,h3⟩:=h;refine ⟨_,block_setCell (block_setCell (block_setCell (block_setCell (block_setCell h1 _) _) _) _) _,by simpa using h2,fun j hj hji=>?_⟩;have hs:i * 5+4 < cur.size:=by omega
 by_cases he:j=i
 ·subst he;rw [e1,e2,e3,e4,e5];simp only [setAt,Array.size_setIfInBounds];refine ⟨?_,?_,?_,?_,?_⟩
  ·rw [if_neg (by omega),if_neg (by omega),if_neg (by omega),if_neg (by omega),if_pos trivial,if_pos (by omega)]
  ·rw [if_neg (by omega),if_neg (by omega),if_neg (by omega),if_pos trivial,if_pos (by omega)]
  ·rw [if_neg (by omega),if_neg (by omega),if_pos trivial,if_pos (by omega)]
  ·rw [if_neg (by omega),if_pos trivial,if_pos (by omega)]
  ·rw [if_pos trivial,if_pos (by omega)]
 ·have hlt:j < i:=by omega
  obtain ⟨c1,c2,c3,c4,c5⟩:=h3 j hj hlt;simp only [setAt,Array.size_setIfInBounds];refine ⟨?_,?_,?_,?_,?_⟩
  ·rw [if_neg (by omega),if_neg (by omega),if_neg (by omega),if_neg (by omega),if_neg (by omega)];exact c1
  ·rw [if_neg (by omega),if_neg (by omega),if_neg (by omega),if_neg (by omega),if_neg (by omega)];exact c2
  ·rw [if_neg (by omega),if_neg (by omega),if_neg (by omega),if_neg (by omega),if_neg (by omega)];exact c3
  ·rw [if_neg (by omega),if_neg (by omega),if_neg (by omega),if_neg (by omega),if_neg (by omega)];exact c4
  ·rw [if_neg (by omega),if_neg (by omega),if_neg (by omega),if_neg (by omega),if_neg (by omega)];exact c5
theorem RowV.vrs {w:World} {V n:Nat} {L:List Re} (h:RowV w V n L.length L):VrS w ⟨V,0,none⟩ L:=fun j hj=>by
 obtain ⟨cur,h1,h2,h3⟩:=h;obtain ⟨c1,c2,c3,c4,c5⟩:=h3 j hj hj;rw [plain_add];simp only [cOH h1];exact ⟨c1,c2,c3,c4,c5⟩
def RowP (w:World) (P n:Nat) (Q:List Pl):Prop:=∃cur:Array Value,w.heap[P]?=some (.cells cur 40 (0,0))/\cur.size=n * 3/\∀j (hj:j < Q.length),∃g,cur[j * 3]?=some (.int .u64 (Q[j].nam:Nat))/\cur[j * 3+1]?=some (.int .u64 (Q[j].bar:Nat))/\cur[j * 3+2]?=some (.slice (some ⟨g,0,none⟩) Q[j].mt.length Q[j].mt.length)/\w.heap[g]?=some (.cells (msV Q[j].mt) 35 (0,0))
theorem RowP.grow {w w':World} {P n:Nat} {Q:List Pl} (h:RowP w P n Q) (hg:w.grownBy w' none):RowP w' P n Q:=by
 obtain ⟨cur,h1,h2,h3⟩:=h;refine ⟨cur,(hg.block P (hqL h1) (by simp)).trans h1,h2,fun j hj=>?_⟩;obtain ⟨g,c1,c2,c3,c4⟩:=h3 j hj;exact ⟨g,c1,c2,c3,(hg.block g (hqL c4) (by simp)).trans c4⟩
theorem RowP.room {w:World} {P n:Nat} {Q:List Pl} (h:RowP w P n Q) (q:Nat) (hq:q < n * 3):(∃v,w.cell? ⟨P,q,none⟩=some v)/\w.frozen? ⟨P,q,none⟩=false:=by
 obtain ⟨cur,h1,h2,-⟩:=h;refine ⟨?_,Lib.frozen_of_heap h1 q⟩;rw [cOH h1];exact ⟨cur[q]'(by omega),Array.getElem?_eq_getElem (by omega)⟩
theorem RowP.push {w:World} {P n i:Nat} {Q:List Pl} (h:RowP w P n Q) (hi:Q.length=i) (hin:i < n) (x:Pl) (g:Nat) (hg:w.heap[g]?=some (.cells (msV x.mt) 35 (0,0))) (m:Nat) (hm:x.mt.length=m) :
  RowP (((w.setCell ⟨P,i * 3,none⟩ (.int .u64 (x.nam:Nat))).setCell ⟨P,i * 3+1,none⟩ (.int .u64 (x.bar:Nat))).setCell ⟨P,i * 3+2,none⟩ (.slice (some ⟨g,0,none⟩) m m)) P n (Q++[x]):=by
 subst hm hi;obtain ⟨cur,h1,h2,h3⟩:=h;have hne:∀(k:Nat) (cs:Array Value),w.heap[k]?=some (.cells cs 35 (0,0))->¬ k=P:=fun k cs hk e=>by
  subst e;rw [h1] at hk;injection hk with hk
  injection hk with _ e2 _
  exact absurd e2 (by decide)
 have hkeep:∀(k:Nat) (cs:Array Value),w.heap[k]?=some (.cells cs 35 (0,0))->(((w.setCell ⟨P,Q.length * 3,none⟩ (.int .u64 (x.nam:Nat))).setCell ⟨P,Q.length * 3+1,none⟩ (.int .u64 (x.bar:Nat))).setCell ⟨P,Q.length * 3+2,none⟩ (.slice (some ⟨g,0,none⟩) x.mt.length x.mt.length)).heap[k]?=some (.cells cs 35 (0,0)):=fun k cs hk=>by
  rw [heap_setCell_other _ _ k _ (hne k cs hk),heap_setCell_other _ _ k _ (hne k cs hk),heap_setCell_other _ _ k _ (hne k cs hk)];exact hk
 refine ⟨_,block_setCell (block_setCell (block_setCell h1 _) _) _,by simpa using h2,fun j hj=>?_⟩;rw [List.length_append,List.length_singleton] at hj
 by_cases he:j=Q.length
 ·subst he;rw [List.getElem_append_right (Nat.le_refl _)];simp only [Nat.sub_self,List.getElem_cons_zero];refine ⟨g,?_,?_,?_,hkeep g _ hg⟩
  ·simp only [setAt,Array.size_setIfInBounds];rw [if_neg (by omega),if_neg (by omega),if_pos trivial,if_pos (by omega)]
  ·simp only [setAt,Array.size_setIfInBounds];rw [if_neg (by omega),if_pos trivial,if_pos (by omega)]
  ·simp only [setAt,Array.size_setIfInBounds];rw [if_pos trivial,if_pos (by omega)]
 ·have hlt:j < Q.length:=by omega
  rw [List.getElem_append_left hlt];obtain ⟨g',c1,c2,c3,c4⟩:=h3 j hlt;refine ⟨g',?_,?_,?_,hkeep g' _ c4⟩
  ·simp only [setAt,Array.size_setIfInBounds];rw [if_neg (by omega),if_neg (by omega),if_neg (by omega)];exact c1
  ·simp only [setAt,Array.size_setIfInBounds];rw [if_neg (by omega),if_neg (by omega),if_neg (by omega)];exact c2
  ·simp only [setAt,Array.size_setIfInBounds];rw [if_neg (by omega),if_neg (by omega),if_neg (by omega)];exact c3
theorem RowP.pls {w:World} {P n:Nat} {Q:List Pl} (h:RowP w P n Q) (hn:Q.length=n):PlS w (.slice (some ⟨P,0,none⟩) n n) Q:=by
 subst hn;obtain ⟨cur,h1,h2,h3⟩:=h;refine Or.inr ⟨⟨P,0,none⟩,_,rfl,Nat.le_refl _,fun j hj=>?_⟩;obtain ⟨g,c1,c2,c3,c4⟩:=h3 j hj;rw [plain_add];unfold PlAt;simp only [cOH h1];exact ⟨c1,c2,_,c3,ms_sns c4 rfl⟩
end Go.Proofs.YticgahdffjnabaaGreatDoor
