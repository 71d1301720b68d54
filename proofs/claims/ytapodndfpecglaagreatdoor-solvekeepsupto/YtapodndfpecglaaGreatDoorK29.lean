import Derived.Test.YtapodndfpecglaaGreatDoorK27
set_option linter.all false
set_option maxRecDepth 100000
set_option maxHeartbeats 0
open Go.Proofs.Tryz
namespace Go.Proofs.YtapodndfpecglaaGreatDoor
open Go.RowKit
def ET(w:World)(A:Nat)(m y1 y2 y3:Int)(x4 x5:ByteArray):World:=(((((w.setCell ⟨A,0,none⟩ (.int .i64 m)).setCell ⟨A,1,none⟩ (.int .i64 y1)).setCell ⟨A,2,none⟩ (.int .i64 y2)).setCell ⟨A,3,none⟩ (.int .i64 y3)).setCell ⟨A,4,none⟩ (.string x4)).setCell ⟨A,5,none⟩ (.string x5)
theorem qV{w:World}{A:Nat}{n z1 z2 z3:Int}{z4 z5:ByteArray}(h:VP A n z1 z2 z3 z4 z5 w)(m y1 y2 y3:Int)(x4 x5:ByteArray):VP A m y1 y2 y3 x4 x5 (ET w A m y1 y2 y3 x4 x5):=by
 unfold VP at h ⊢;simp[ET,World.setCell,Array.getElem?_modify,h]
theorem qW{b A:Nat}{s:ByteArray}{j:Nat}{E:Int}{a:Nat}{w:World}(h:VS b s j E a w)(hn:b≠A)(m y1 y2 y3:Int)(x4 x5:ByteArray):VS b s j E a (ET w A m y1 y2 y3 x4 x5):=(((((h.other hn _ _).other hn _ _).other hn _ _).other hn _ _).other hn _ _).other hn _ _
theorem qX{b A:Nat}{w W:World}(h:w.grownBy W (some b))(hA:w.heap.size<=A)(m y1 y2 y3:Int)(x4 x5:ByteArray):w.grownBy (ET W A m y1 y2 y3 x4 x5) (some b):=bi (bi (bi (bi (bi (bi h hA _ _) hA _ _) hA _ _) hA _ _) hA _ _) hA _ _
theorem G2.gb{b v:Nat}{w u u':World}(h:w.grownBy u (some b))(hv:w.heap.size<=v)(hg:G2 b v u u'):w.grownBy u' (some b) :=
 ⟨hg.os.trans h.os,hg.tape.trans h.tape,hg.output.trans h.output,Nat.le_trans h.size hg.size,fun k hk hn=>(hg.block k (Nat.lt_of_lt_of_le hk h.size) (by simpa using hn) (by omega)).trans (h.block k hk hn)⟩
theorem G2.vp{b v A:Nat}{u u':World}{n z1 z2 z3:Int}{z4 z5:ByteArray}(h:VP A n z1 z2 z3 z4 z5 u)(hg:G2 b v u u')(h1:A≠b)(h2:A≠v):VP A n z1 z2 z3 z4 z5 u':=by
 unfold VP at h ⊢;rw[hg.block A ((aA h)) h1 h2];exact h
theorem G2.gr{b v g:Nat}{u u':World}(h:GR g b u)(hg:G2 b v u u')(h1:g≠b)(h2:g≠v)(hl:g<u.heap.size):GR g b u':=by
 unfold GR at h ⊢;unfold World.cell? at h ⊢;rw[hg.block g hl h1 h2];exact h
theorem GR.lt{g b:Nat}{w:World}(h:GR g b w):g<w.heap.size:=cell_lt h
def Rx(b:Nat)(s:ByteArray)(R:Int × Nat × Pa)(w:World)(e:Ending)(w':World):Prop :=
 ∃(m y1 y2 y3:Int) (P Q:ByteArray) (j:Nat) (c:Nat),e=.returned (.agg #[.int .i64 m,.int .i64 y1,.int .i64 y2,.int .i64 y3,.string P,.string Q])/\VS b s j R.1 c w'/\w.grownBy w' (some b)/\(R.1=0->j=R.2.1/\m=(R.2.2.n:Int)/\y1=R.2.2.a/\y2=R.2.2.b/\y3=R.2.2.c/\P=⟨R.2.2.pre.toArray⟩)/\(¬R.1=0->c=R.2.1)
def Ry(b:Nat)(s:ByteArray)(E:Int)(a:Nat)(w:World)(e:Ending)(w':World):Prop :=
 ∃(m y1 y2 y3:Int) (P Q:ByteArray) (j:Nat),e=.returned (.agg #[.int .i64 m,.int .i64 y1,.int .i64 y2,.int .i64 y3,.string P,.string Q])/\VS b s j E a w'/\w.grownBy w' (some b)/\j<=s.size
theorem acL(g b:Nat)(s:ByteArray)(i:Nat)(E:Int)(a:Nat)(w:World)(hE:¬E=0)(hi:i<=s.size)(hgb:g≠b)(hg:GR g b w)(h:VS b s i E a w)(hs:s.size<2 ^ 61) :
  Calls prog 99 #[.pointer (some ⟨g,0,none⟩)] w (Ry b s E a w):=by
 have HG:=ae hg;have HV:=ae h;have HB0:Hd (b<w.heap.size/\g<w.heap.size/\g≠b):=⟨(aA h),GR.lt hg,hgb⟩;have CW:=ae (fun w (h1:GR g b w) (h2:VS b s i E a w)=>acd g b s i E a w hE h1 h2);have CN:=ae (fun w (h1:VS b s i E a w)=>ab7 b s i E hE a w hi h1 (by omega));have CI:=ae (fun j t w (h1:GR g b w) (h2:VS b s j E a w)=>BM g b s t j E a w hE h1 h2);clear h hg hgb hE hs hi;go_enter func99,ntmps99;go_wp2_with (fail);obtain⟨A,hA⟩:=zN (w.heap.size);obtain⟨W,hW⟩:=zN ((w.alloc (.cells #[.int .i64 0,.int .i64 0,.int .i64 0,.int .i64 0,.string ⟨#[]⟩,.string ⟨#[]⟩] 139)).alloc (.cells #[.int .i64 0,.int .i64 0,.int .i64 0,.int .i64 0,.string ⟨#[]⟩,.string ⟨#[]⟩] 139));have hgW:w.grownBy W none:=by rw[<-hW];exact au (au (ak w none) _) _
 have aC:Hd (VP A 0 0 0 0 ⟨#[]⟩ ⟨#[]⟩ W):=by
  show VP A 0 0 0 0 _ _ W;unfold VP;rw[<-hW,<-hA,Lib.alloc_old _ _ _ (by simp)];exact heap_alloc_new w _
 have aG:Hd (VP (A+1) 0 0 0 0 ⟨#[]⟩ ⟨#[]⟩ W):=by
  show VP (A+1) 0 0 0 0 _ _ W;unfold VP;rw[<-hW,<-hA];exact lL w _ _
 have ai:Hd (b≠A/\b≠A+1/\g≠A/\g≠A+1/\g≠b/\A≠A+1/\A≠b/\A+1≠b/\w.heap.size<=A/\w.heap.size<=A+1):=by have:=HB0.o;refine⟨?_,?_,?_,?_,?_,?_,?_,?_,?_,?_⟩<;>omega
 replace HG:=ae (HG.o.grow hgW);replace HV:Hd (VS b s i E a W):=by show W.heap[b]?=_;rw[hgW.block b HB0.o.1 (by simp)];exact HV.o
 have HW:Hd (w.grownBy W (some b)):=bH hgW _
 try rw[hW]
 try rw[hA]
 clear hgW hW hA;go_wp2_with (go_at_call 126;refine(CW.o _ HG.o HV.o).mono ?_);rintro e u1 ⟨rfl,n,hn⟩;replace HV:Hd (VS b s (i) E a u1):=by show VS _ _ _ _ _ u1;rw[hn];exact HV.o.drew _
 replace HG:Hd (GR g b u1):=by show GR g b u1;rw[hn];exact HG.o
 replace aC:Hd (VP A 0 0 0 0 ⟨#[]⟩ ⟨#[]⟩ u1):=by show VP A _ _ _ _ _ _ u1;rw[hn];exact aC.o
 replace aG:Hd (VP (A+1) 0 0 0 0 ⟨#[]⟩ ⟨#[]⟩ u1):=by show VP _ _ _ _ _ _ _ u1;rw[hn];exact aG.o
 replace HW:Hd (w.grownBy u1 (some b)):=by show w.grownBy u1 (some b);rw[hn];exact aF HW.o _
 clear hn;have g0:u1.cell? ⟨g,0,none⟩=some (.pointer (some ⟨b,0,none⟩)):=HG.o;go_wp2_with (go_at_call 69;refine(CN.o _ HV.o).mono ?_);rintro e u2 ⟨v,j,rfl,hv,hg,hj⟩;have HJ:=ae hj;replace HV:=ae hv;replace HG:=ae (HG.o.growb hg ai.o.2.2.2.2.1);replace aC:=ae (aC.o.grow hg ai.o.2.2.2.2.2.2.1);replace aG:=ae (aG.o.grow hg ai.o.2.2.2.2.2.2.2.1);replace HW:=ae (ah HW.o hg);clear hv hg;clear hj g0;obtain⟨c0,c1,c2,c3,c4,c5⟩:=aG.o.cells;have cf:=aG.o.f;go_wp2_with (go_at_call 77;refine(CI.o j _ _ ((HG.o.other ai.o.2.2.2.1 _ _).other ai.o.2.2.2.1 _ _) ((HV.o.other ai.o.2.1 _ _).other ai.o.2.1 _ _)).mono ?_);rintro e u3 ⟨rfl,n,hn⟩;replace HV:Hd (VS b s j E a u3):=by show VS _ _ _ _ _ u3;rw[hn];exact(((HV.o.other ai.o.2.1 _ _).other ai.o.2.1 _ _)).drew _
 replace aC:Hd (VP A 0 0 0 0 ⟨#[]⟩ ⟨#[]⟩ u3):=by show VP A _ _ _ _ _ _ u3;rw[hn];exact(aC.o.other ai.o.2.2.2.2.2.1 _ _).other ai.o.2.2.2.2.2.1 _ _
 replace aG:Hd (VP (A+1) 1 v 0 0 ⟨#[]⟩ ⟨#[]⟩ u3):=by show VP _ _ _ _ _ _ _ u3;rw[hn];exact(aG.o.set0 _).setN _
 replace HW:Hd (w.grownBy u3 (some b)):=by show w.grownBy u3 (some b);rw[hn];exact aF (bi (bi HW.o ai.o.2.2.2.2.2.2.2.2.2 _ _) ai.o.2.2.2.2.2.2.2.2.2 _ _) _
 clear hn c0 c1 c2 c3 c4 c5 cf;obtain⟨a0,a1,a2,a3,a4,a5⟩:=aC.o.cells;have af:=aC.o.f;obtain⟨c0,c1,c2,c3,c4,c5⟩:=aG.o.cells;have cf:=aG.o.f;obtain⟨n1,n2,n3,n4,n5,n6,n7,n8,n9,n10⟩:=ai.o;clear n9 n10;go_wp2;have hrow:=qV (w:=u3) aC.o 1 v 0 0 ⟨#[]⟩ ⟨#[]⟩;exact bodyPost_ret (results_cell_row rfl _ _ A _ _ (0,0) _ rfl hrow underlying139 rfl (by kernel_rfl)) rfl ⟨1,v,0,0,⟨#[]⟩,⟨#[]⟩,j,rfl,qW HV.o ai.o.1 _ _ _ _ _ _,qX HW.o ai.o.2.2.2.2.2.2.2.2.1 _ _ _ _ _ _,HJ.o⟩
theorem acM(g b:Nat)(s:ByteArray)(i:Nat)(a:Nat)(w:World)(hi:i<=s.size)(hgb:g≠b)(hg:GR g b w)(h:VS b s i 0 a w)(hs:s.size<2 ^ 61) :
  Calls prog 99 #[.pointer (some ⟨g,0,none⟩)] w (Rx b s (ay s.data.toList i) w):=by
 have HG:=ae hg;have HV:=ae h;have HB0:Hd (b<w.heap.size/\g<w.heap.size/\g≠b):=⟨(aA h),GR.lt hg,hgb⟩;have CW:=ae (fun i a w (hi:i<=s.size) (h1:GR g b w) (h2:VS b s i 0 a w)=>ace g b s i a w hi hgb h1 h2 hs);have CN:=ae (fun i a w (hi:i<=s.size) (h1:VS b s i 0 a w)=>Om b s i a w hi h1 (by omega));have CI:=ae (fun i c w (hi:i<=s.size) (h1:GR g b w) (h2:VS b s i 0 c w)=>EP g b s i 46 c w hi h1 h2 hs);have EU:Hd (∀(i:Nat) (E:Int) (c:Nat) w,¬E=0->GR g b w->VS b s i E c w->Calls prog 77 #[.pointer (some ⟨g,0,none⟩),.string ⟨#[46]⟩] w fun e w'=>e=.returned (.bool (false))/\∃n,w'=w.drewN n):=fun i E c w hE h1 h2=>BM g b s _ i E c w hE h1 h2
 have CT:=ae (fun(v:Nat) (i:Nat) (c:Nat) (m:Int) (y1:Int) (y2:Int) (y3:Int) w (hi:i<=s.size) (h1:VS b s i 0 c w) (h2:VP v m y1 y2 y3 ⟨#[]⟩ ⟨#[]⟩ w) (h3:b≠v)=>acg b v s i c m y1 y2 y3 w hi h1 h2 h3 (by omega));have CTL:Hd (∀(v:Nat) (i:Nat) (E:Int) (c:Nat) w,¬E=0->VS b s i E c w->Calls prog 71 #[.pointer (some ⟨b,0,none⟩),.pointer (some ⟨v,1,none⟩)] w fun e w'=>e=.returned (.tuple #[])/\∃n,w'=w.drewN n):=fun v i E c w hE h1=>acf b v s i E hE c w h1
 obtain⟨l,hl⟩:=zN (s.data.toList);have hll:l.length=s.size:=by rw[<-hl];simp
 have bP:=ae hll;rw[hl]at CW CI ⊢;have JE:Hd (∀i w e w',Ht b s i w e w'->∃(v:Int) (j:Nat) (E:Int) (c:Nat),e=.returned (.int .i64 v)/\VS b s j E c w'/\w.grownBy w' (some b)/\E=(rdNum l i).1/\(E=0->v=(rdNum l i).2.1/\j=(rdNum l i).2.2/\j<=s.size)/\(E≠0->c=(rdNum l i).2.2)):=fun i w e w' h=>by rw[<-hl];exact h
 have jq:Hd (∀(v i:Nat) (m y1 y2 y3:Int) (w w':World),Rh b v s i m y1 y2 y3 w w'->∃(j:Nat) (E:Int) (c:Nat) (P B:ByteArray),VS b s j E c w'/\VP v m y1 y2 y3 P B w'/\G2 b v w w'/\E=(aJ l i).1/\(E=0->P=⟨(aJ l i).2.2.1.toArray⟩/\B=⟨(aJ l i).2.2.2.toArray⟩/\j=(aJ l i).2.1/\j<=s.size)/\(E≠0->c=(aJ l i).2.1)):=fun v i m y1 y2 y3 w w' h=>by rw[<-hl];exact h
 obtain⟨R,hR⟩:=zN (ay l i);rw[hR];have HRk:Hd (R=if dQ l i=true then(0,i+1,pa0) else if(rdNum l i).1=0 then jB l (rdNum l i).2.2 (rdNum l i).2.1 else((rdNum l i).1,(rdNum l i).2.2,pa0)):=hR.symm;have BC:Hd (∀i,l[i]?=some 46->i+1<=s.size):=fun i hc=>by have:=jS hc;rw[hll]at this;exact this
 have lm:=ae hi;have jf:=ae hs;clear hl hll hR h hg hgb hs hi;go_enter func99,ntmps99;go_wp2_with (fail);obtain⟨A,hA⟩:=zN (w.heap.size);obtain⟨W,hW⟩:=zN ((w.alloc (.cells #[.int .i64 0,.int .i64 0,.int .i64 0,.int .i64 0,.string ⟨#[]⟩,.string ⟨#[]⟩] 139)).alloc (.cells #[.int .i64 0,.int .i64 0,.int .i64 0,.int .i64 0,.string ⟨#[]⟩,.string ⟨#[]⟩] 139));have hgW:w.grownBy W none:=by rw[<-hW];exact au (au (ak w none) _) _
 have aC:Hd (VP A 0 0 0 0 ⟨#[]⟩ ⟨#[]⟩ W):=by
  show VP A 0 0 0 0 _ _ W;unfold VP;rw[<-hW,<-hA,Lib.alloc_old _ _ _ (by simp)];exact heap_alloc_new w _
 have aG:Hd (VP (A+1) 0 0 0 0 ⟨#[]⟩ ⟨#[]⟩ W):=by
  show VP (A+1) 0 0 0 0 _ _ W;unfold VP;rw[<-hW,<-hA];exact lL w _ _
 have ai:Hd (b≠A/\b≠A+1/\g≠A/\g≠A+1/\g≠b/\A≠A+1/\A≠b/\A+1≠b/\w.heap.size<=A/\w.heap.size<=A+1):=by have:=HB0.o;refine⟨?_,?_,?_,?_,?_,?_,?_,?_,?_,?_⟩<;>omega
 replace HG:=ae (HG.o.grow hgW);replace HV:Hd (VS b s i 0 a W):=by show W.heap[b]?=_;rw[hgW.block b HB0.o.1 (by simp)];exact HV.o
 have HW:Hd (w.grownBy W (some b)):=bH hgW _
 try rw[hW]
 try rw[hA]
 clear hgW hW hA;have gZ:=ae lm.o
 cases hw0:dQ l (i) with
 | true =>
  have HZ:Hd (R=(0,i+1,⟨0,0,0,0,[]⟩)):=by show R=_;rw[HRk.o,if_pos hw0];rfl
  have iP:Hd (∀w,GR g b w->VS b s (i) 0 a w->Calls prog 126 #[.pointer (some ⟨g,0,none⟩)] w fun e w'=>e=.returned (.bool true)/\VS b s (i+1) 0 a w'/\w.grownBy w' (some b)):=fun w h1 h2=>by have:=CW.o (i) a w gZ.o h1 h2;rw[hw0]at this;exact this
  clear hw0;go_wp2_with (go_at_call 126;refine(iP.o _ HG.o HV.o).mono ?_);rintro e v0 ⟨rfl,hv,hg⟩;replace HV:=ae hv;replace HG:=ae (HG.o.growb hg ai.o.2.2.2.2.1);replace aC:=ae (aC.o.grow hg ai.o.2.2.2.2.2.2.1);replace aG:=ae (aG.o.grow hg ai.o.2.2.2.2.2.2.2.1);replace HW:=ae (ah HW.o hg);clear hv hg;obtain⟨a0,a1,a2,a3,a4,a5⟩:=aC.o.cells;have af:=aC.o.f;obtain⟨c0,c1,c2,c3,c4,c5⟩:=aG.o.cells;have cf:=aG.o.f;obtain⟨n1,n2,n3,n4,n5,n6,n7,n8,n9,n10⟩:=ai.o;clear n9 n10;go_wp2;have hrow:=qV (w:=v0) aC.o 0 0 0 0 ⟨#[]⟩ ⟨#[]⟩;exact bodyPost_ret (results_cell_row rfl _ _ A _ _ (0,0) _ rfl hrow underlying139 rfl (by kernel_rfl)) rfl (by rw[HZ.o];exact⟨0,0,0,0,⟨#[]⟩,⟨#[]⟩,i+1,a,rfl,qW HV.o ai.o.1 _ _ _ _ _ _,qX HW.o ai.o.2.2.2.2.2.2.2.2.1 _ _ _ _ _ _,fun _=>⟨rfl,rfl,rfl,rfl,rfl,rfl⟩,fun h=>absurd rfl h⟩)
 | false =>
  have Rz:Hd (R=if(rdNum l (i)).1=0 then jB l (rdNum l (i)).2.2 (rdNum l (i)).2.1 else((rdNum l (i)).1,(rdNum l (i)).2.2,pa0)):=by show R=_;rw[HRk.o,if_neg (by rw[hw0];decide)]
  have iP:Hd (∀w,GR g b w->VS b s (i) 0 a w->Calls prog 126 #[.pointer (some ⟨g,0,none⟩)] w fun e w'=>e=.returned (.bool false)/\VS b s (i) 0 a w'/\w.grownBy w' (some b)):=fun w h1 h2=>by have:=CW.o (i) a w gZ.o h1 h2;rw[hw0]at this;exact this
  have vI:=ae (fun w (h:VS b s (i) 0 a w)=>CN.o (i) a w gZ.o h);clear hw0 HRk;go_wp2_with (go_at_call 126;refine(iP.o _ HG.o HV.o).mono ?_);rintro e v0 ⟨rfl,hv,hg⟩;replace HV:=ae hv;replace HG:=ae (HG.o.growb hg ai.o.2.2.2.2.1);replace aC:=ae (aC.o.grow hg ai.o.2.2.2.2.2.2.1);replace aG:=ae (aG.o.grow hg ai.o.2.2.2.2.2.2.2.1);replace HW:=ae (ah HW.o hg);clear hv hg;have g0:v0.cell? ⟨g,0,none⟩=some (.pointer (some ⟨b,0,none⟩)):=HG.o;go_wp2_with (go_at_call 69;refine(vI.o _ HV.o).mono ?_);intro e z0 pF;obtain⟨x1,j0,E0,d0,rfl,hv,hg,hE,hok,herr⟩:=JE.o _ _ _ _ pF;replace HV:=ae hv;replace HG:=ae (HG.o.growb hg ai.o.2.2.2.2.1);replace aC:=ae (aC.o.grow hg ai.o.2.2.2.2.2.2.1);replace aG:=ae (aG.o.grow hg ai.o.2.2.2.2.2.2.2.1);replace HW:=ae (ah HW.o hg);clear hv hg;have BX:Hd (E0=(rdNum l (i)).1/\(E0=0->x1=(rdNum l (i)).2.1/\j0=(rdNum l (i)).2.2/\j0<=s.size)/\(E0≠0->d0=(rdNum l (i)).2.2)):=⟨hE,hok,herr⟩
  clear pF hE hok herr g0;obtain⟨c0,c1,c2,c3,c4,c5⟩:=aG.o.cells;have cf:=aG.o.f;have g0:z0.cell? ⟨g,0,none⟩=some (.pointer (some ⟨b,0,none⟩)):=HG.o;have n4:=ai.o.2.2.2.1
  by_cases hz0:E0=0
  ·subst hz0;have RD:=ae ((BX.o.2.1 rfl).2.2);have RF:Hd (R=jB l j0 x1):=by
    show R=_;have h1:=BX.o.1;obtain⟨e1,e2,_⟩:=BX.o.2.1 rfl;rw[Rz.o,if_pos h1.symm,<-e1,<-e2]
   cases hc0:decide (l[j0]?=some 46) with
   | false =>
    have hc':=of_decide_eq_false hc0;have HZ:Hd (R=(0,j0,⟨1,x1,0,0,[]⟩)):=by show R=_;rw[RF.o];unfold jB;rw[if_neg hc']
    have nM:Hd (∀w,GR g b w->VS b s j0 0 d0 w->Calls prog 77 #[.pointer (some ⟨g,0,none⟩),.string ⟨#[46]⟩] w fun e w'=>e=.returned (.bool (false))/\∃n,w'=w.drewN n):=fun w h1 h2=>by have:=CI.o j0 d0 w RD.o h1 h2;rw[hc0]at this;exact this
    clear hc0 hc';go_wp2_with (go_at_call 77;refine(nM.o _ ((HG.o.other ai.o.2.2.2.1 _ _).other ai.o.2.2.2.1 _ _) ((HV.o.other ai.o.2.1 _ _).other ai.o.2.1 _ _)).mono ?_);rintro e y0 ⟨rfl,n,hn⟩;replace HV:Hd (VS b s j0 0 d0 y0):=by show VS _ _ _ _ _ y0;rw[hn];exact((HV.o.other ai.o.2.1 _ _).other ai.o.2.1 _ _).drew _
    replace HG:Hd (GR g b y0):=by show GR g b y0;rw[hn];exact(HG.o.other ai.o.2.2.2.1 _ _).other ai.o.2.2.2.1 _ _
    replace aC:Hd (VP A 0 0 0 0 ⟨#[]⟩ ⟨#[]⟩ y0):=by show VP A _ _ _ _ _ _ y0;rw[hn];exact(aC.o.other ai.o.2.2.2.2.2.1 _ _).other ai.o.2.2.2.2.2.1 _ _
    replace aG:Hd (VP (A+1) 1 x1 0 0 ⟨#[]⟩ ⟨#[]⟩ y0):=by show VP _ _ _ _ _ _ _ y0;rw[hn];exact(aG.o.set0 _).setN _
    replace HW:Hd (w.grownBy y0 (some b)):=by show w.grownBy y0 (some b);rw[hn];exact aF (bi (bi HW.o ai.o.2.2.2.2.2.2.2.2.2 _ _) ai.o.2.2.2.2.2.2.2.2.2 _ _) _
    clear hn c0 c1 c2 c3 c4 c5 cf g0 n4;obtain⟨a0,a1,a2,a3,a4,a5⟩:=aC.o.cells;have af:=aC.o.f;obtain⟨c0,c1,c2,c3,c4,c5⟩:=aG.o.cells;have cf:=aG.o.f;obtain⟨n1,n2,n3,n4,n5,n6,n7,n8,n9,n10⟩:=ai.o;clear n9 n10;go_wp2;have hrow:=qV (w:=y0) aC.o 1 x1 0 0 ⟨#[]⟩ ⟨#[]⟩;exact bodyPost_ret (results_cell_row rfl _ _ A _ _ (0,0) _ rfl hrow underlying139 rfl (by kernel_rfl)) rfl (by rw[HZ.o];exact⟨1,x1,0,0,⟨#[]⟩,⟨#[]⟩,j0,d0,rfl,qW HV.o ai.o.1 _ _ _ _ _ _,qX HW.o ai.o.2.2.2.2.2.2.2.2.1 _ _ _ _ _ _,fun _=>⟨rfl,rfl,rfl,rfl,rfl,rfl⟩,fun h=>absurd rfl h⟩)
   | true =>
    have hc':=of_decide_eq_true hc0;have HRk:Hd (R=if dQ l (j0+1)=true then(0,j0+1+1,⟨1,x1,0,0,[]⟩) else if(rdNum l (j0+1)).1=0 then jA l (rdNum l (j0+1)).2.2 x1 (rdNum l (j0+1)).2.1 else((rdNum l (j0+1)).1,(rdNum l (j0+1)).2.2,pa0)):=by show R=_;rw[RF.o];unfold jB;rw[if_pos hc']
    have oP:=ae (BC.o _ hc');have hwr:IntKind.i64.wrap ((j0:Int)+1)=((j0+1:Nat):Int):=by rw[IntKind.wrap_i64];have:=oP.o;have:=jf.o;omega
    have nM:Hd (∀w,GR g b w->VS b s j0 0 d0 w->Calls prog 77 #[.pointer (some ⟨g,0,none⟩),.string ⟨#[46]⟩] w fun e w'=>e=.returned (.bool (true))/\∃n,w'=w.drewN n):=fun w h1 h2=>by have:=CI.o j0 d0 w RD.o h1 h2;rw[hc0]at this;exact this
    clear hc0 hc';go_wp2_with (go_at_call 77;refine(nM.o _ ((HG.o.other ai.o.2.2.2.1 _ _).other ai.o.2.2.2.1 _ _) ((HV.o.other ai.o.2.1 _ _).other ai.o.2.1 _ _)).mono ?_);rintro e y0 ⟨rfl,n,hn⟩;replace HV:Hd (VS b s j0 0 d0 y0):=by show VS _ _ _ _ _ y0;rw[hn];exact((HV.o.other ai.o.2.1 _ _).other ai.o.2.1 _ _).drew _
    replace HG:Hd (GR g b y0):=by show GR g b y0;rw[hn];exact(HG.o.other ai.o.2.2.2.1 _ _).other ai.o.2.2.2.1 _ _
    replace aC:Hd (VP A 0 0 0 0 ⟨#[]⟩ ⟨#[]⟩ y0):=by show VP A _ _ _ _ _ _ y0;rw[hn];exact(aC.o.other ai.o.2.2.2.2.2.1 _ _).other ai.o.2.2.2.2.2.1 _ _
    replace aG:Hd (VP (A+1) 1 x1 0 0 ⟨#[]⟩ ⟨#[]⟩ y0):=by show VP _ _ _ _ _ _ _ y0;rw[hn];exact(aG.o.set0 _).setN _
    replace HW:Hd (w.grownBy y0 (some b)):=by show w.grownBy y0 (some b);rw[hn];exact aF (bi (bi HW.o ai.o.2.2.2.2.2.2.2.2.2 _ _) ai.o.2.2.2.2.2.2.2.2.2 _ _) _
    clear hn c0 c1 c2 c3 c4 c5 cf g0 n4;have b1:=HV.o.c1;have bf:=HV.o.f1;have g0:y0.cell? ⟨g,0,none⟩=some (.pointer (some ⟨b,0,none⟩)):=HG.o;go_wp2_with (fail);obtain⟨q0,hq⟩:=zN (y0.setCell ⟨b,1,none⟩ (.int .i64 ((j0:Int)+1)));replace HV:Hd (VS b s (j0+1) 0 d0 q0):=by show VS _ _ _ _ _ q0;rw[<-hq,show((j0:Int)+1)=((j0+1:Nat):Int) by omega];exact HV.o.set1 _
    replace HG:Hd (GR g b q0):=by show GR g b q0;rw[<-hq];exact HG.o.other ai.o.2.2.2.2.1 _ _
    replace aC:Hd (VP A 0 0 0 0 ⟨#[]⟩ ⟨#[]⟩ q0):=by show VP A _ _ _ _ _ _ q0;rw[<-hq];exact aC.o.other ai.o.2.2.2.2.2.2.1 _ _
    replace aG:Hd (VP (A+1) 1 x1 0 0 ⟨#[]⟩ ⟨#[]⟩ q0):=by show VP _ _ _ _ _ _ _ q0;rw[<-hq];exact aG.o.other ai.o.2.2.2.2.2.2.2.1 _ _
    replace HW:Hd (w.grownBy q0 (some b)):=by show w.grownBy q0 (some b);rw[<-hq];exact bF HW.o _ _
    try rw[hq]
    clear hq b1 bf g0 hwr
    cases hw1:dQ l (j0+1) with
    | true =>
     have HZ:Hd (R=(0,j0+1+1,⟨1,x1,0,0,[]⟩)):=by show R=_;rw[HRk.o,if_pos hw1]
     have iP:Hd (∀w,GR g b w->VS b s (j0+1) 0 d0 w->Calls prog 126 #[.pointer (some ⟨g,0,none⟩)] w fun e w'=>e=.returned (.bool true)/\VS b s (j0+1+1) 0 d0 w'/\w.grownBy w' (some b)):=fun w h1 h2=>by have:=CW.o (j0+1) d0 w oP.o h1 h2;rw[hw1]at this;exact this
     clear hw1;refine(iP.o _ HG.o HV.o).mono ?_;rintro e v1 ⟨rfl,hv,hg⟩;replace HV:=ae hv;replace HG:=ae (HG.o.growb hg ai.o.2.2.2.2.1);replace aC:=ae (aC.o.grow hg ai.o.2.2.2.2.2.2.1);replace aG:=ae (aG.o.grow hg ai.o.2.2.2.2.2.2.2.1);replace HW:=ae (ah HW.o hg);clear hv hg;obtain⟨a0,a1,a2,a3,a4,a5⟩:=aC.o.cells;have af:=aC.o.f;obtain⟨c0,c1,c2,c3,c4,c5⟩:=aG.o.cells;have cf:=aG.o.f;obtain⟨n1,n2,n3,n4,n5,n6,n7,n8,n9,n10⟩:=ai.o;clear n9 n10;go_wp2;have hrow:=qV (w:=v1) aC.o 1 x1 0 0 ⟨#[]⟩ ⟨#[]⟩;exact bodyPost_ret (results_cell_row rfl _ _ A _ _ (0,0) _ rfl hrow underlying139 rfl (by kernel_rfl)) rfl (by rw[HZ.o];exact⟨1,x1,0,0,⟨#[]⟩,⟨#[]⟩,j0+1+1,d0,rfl,qW HV.o ai.o.1 _ _ _ _ _ _,qX HW.o ai.o.2.2.2.2.2.2.2.2.1 _ _ _ _ _ _,fun _=>⟨rfl,rfl,rfl,rfl,rfl,rfl⟩,fun h=>absurd rfl h⟩)
    | false =>
     have RG:Hd (R=if(rdNum l (j0+1)).1=0 then jA l (rdNum l (j0+1)).2.2 x1 (rdNum l (j0+1)).2.1 else((rdNum l (j0+1)).1,(rdNum l (j0+1)).2.2,pa0)):=by show R=_;rw[HRk.o,if_neg (by rw[hw1];decide)]
     have iP:Hd (∀w,GR g b w->VS b s (j0+1) 0 d0 w->Calls prog 126 #[.pointer (some ⟨g,0,none⟩)] w fun e w'=>e=.returned (.bool false)/\VS b s (j0+1) 0 d0 w'/\w.grownBy w' (some b)):=fun w h1 h2=>by have:=CW.o (j0+1) d0 w oP.o h1 h2;rw[hw1]at this;exact this
     have vI:=ae (fun w (h:VS b s (j0+1) 0 d0 w)=>CN.o (j0+1) d0 w oP.o h);clear hw1 HRk;refine(iP.o _ HG.o HV.o).mono ?_;rintro e v1 ⟨rfl,hv,hg⟩;replace HV:=ae hv;replace HG:=ae (HG.o.growb hg ai.o.2.2.2.2.1);replace aC:=ae (aC.o.grow hg ai.o.2.2.2.2.2.2.1);replace aG:=ae (aG.o.grow hg ai.o.2.2.2.2.2.2.2.1);replace HW:=ae (ah HW.o hg);clear hv hg;have g0:v1.cell? ⟨g,0,none⟩=some (.pointer (some ⟨b,0,none⟩)):=HG.o;go_wp2_with (go_at_call 69;refine(vI.o _ HV.o).mono ?_);intro e z1 pF;obtain⟨x2,j1,E1,d1,rfl,hv,hg,hE,hok,herr⟩:=JE.o _ _ _ _ pF;replace HV:=ae hv;replace HG:=ae (HG.o.growb hg ai.o.2.2.2.2.1);replace aC:=ae (aC.o.grow hg ai.o.2.2.2.2.2.2.1);replace aG:=ae (aG.o.grow hg ai.o.2.2.2.2.2.2.2.1);replace HW:=ae (ah HW.o hg);clear hv hg;have BZ:Hd (E1=(rdNum l (j0+1)).1/\(E1=0->x2=(rdNum l (j0+1)).2.1/\j1=(rdNum l (j0+1)).2.2/\j1<=s.size)/\(E1≠0->d1=(rdNum l (j0+1)).2.2)):=⟨hE,hok,herr⟩
     clear pF hE hok herr g0;obtain⟨c0,c1,c2,c3,c4,c5⟩:=aG.o.cells;have cf:=aG.o.f;have g0:z1.cell? ⟨g,0,none⟩=some (.pointer (some ⟨b,0,none⟩)):=HG.o;have n4:=ai.o.2.2.2.1
     by_cases hz1:E1=0
     ·subst hz1;have RH:=ae ((BZ.o.2.1 rfl).2.2);have RI:Hd (R=jA l j1 x1 x2):=by
       show R=_;have h1:=BZ.o.1;obtain⟨e1,e2,_⟩:=BZ.o.2.1 rfl;rw[RG.o,if_pos h1.symm,<-e1,<-e2]
      cases hc1:decide (l[j1]?=some 46) with
      | false =>
       have hc':=of_decide_eq_false hc1;have HZ:Hd (R=(0,j1,⟨2,x1,x2,0,[]⟩)):=by show R=_;rw[RI.o];unfold jA;rw[if_neg hc']
       have nM:Hd (∀w,GR g b w->VS b s j1 0 d1 w->Calls prog 77 #[.pointer (some ⟨g,0,none⟩),.string ⟨#[46]⟩] w fun e w'=>e=.returned (.bool (false))/\∃n,w'=w.drewN n):=fun w h1 h2=>by have:=CI.o j1 d1 w RH.o h1 h2;rw[hc1]at this;exact this
       clear hc1 hc';go_wp2_with (go_at_call 77;refine(nM.o _ ((HG.o.other ai.o.2.2.2.1 _ _).other ai.o.2.2.2.1 _ _) ((HV.o.other ai.o.2.1 _ _).other ai.o.2.1 _ _)).mono ?_);rintro e y1 ⟨rfl,n,hn⟩;replace HV:Hd (VS b s j1 0 d1 y1):=by show VS _ _ _ _ _ y1;rw[hn];exact((HV.o.other ai.o.2.1 _ _).other ai.o.2.1 _ _).drew _
       replace HG:Hd (GR g b y1):=by show GR g b y1;rw[hn];exact(HG.o.other ai.o.2.2.2.1 _ _).other ai.o.2.2.2.1 _ _
       replace aC:Hd (VP A 0 0 0 0 ⟨#[]⟩ ⟨#[]⟩ y1):=by show VP A _ _ _ _ _ _ y1;rw[hn];exact(aC.o.other ai.o.2.2.2.2.2.1 _ _).other ai.o.2.2.2.2.2.1 _ _
       replace aG:Hd (VP (A+1) 2 x1 x2 0 ⟨#[]⟩ ⟨#[]⟩ y1):=by show VP _ _ _ _ _ _ _ y1;rw[hn];exact(aG.o.set1 _).setN _
       replace HW:Hd (w.grownBy y1 (some b)):=by show w.grownBy y1 (some b);rw[hn];exact aF (bi (bi HW.o ai.o.2.2.2.2.2.2.2.2.2 _ _) ai.o.2.2.2.2.2.2.2.2.2 _ _) _
       clear hn c0 c1 c2 c3 c4 c5 cf g0 n4;obtain⟨a0,a1,a2,a3,a4,a5⟩:=aC.o.cells;have af:=aC.o.f;obtain⟨c0,c1,c2,c3,c4,c5⟩:=aG.o.cells;have cf:=aG.o.f;obtain⟨n1,n2,n3,n4,n5,n6,n7,n8,n9,n10⟩:=ai.o;clear n9 n10;go_wp2;have hrow:=qV (w:=y1) aC.o 2 x1 x2 0 ⟨#[]⟩ ⟨#[]⟩;exact bodyPost_ret (results_cell_row rfl _ _ A _ _ (0,0) _ rfl hrow underlying139 rfl (by kernel_rfl)) rfl (by rw[HZ.o];exact⟨2,x1,x2,0,⟨#[]⟩,⟨#[]⟩,j1,d1,rfl,qW HV.o ai.o.1 _ _ _ _ _ _,qX HW.o ai.o.2.2.2.2.2.2.2.2.1 _ _ _ _ _ _,fun _=>⟨rfl,rfl,rfl,rfl,rfl,rfl⟩,fun h=>absurd rfl h⟩)
      | true =>
       have hc':=of_decide_eq_true hc1;have HRk:Hd (R=if dQ l (j1+1)=true then(0,j1+1+1,⟨2,x1,x2,0,[]⟩) else if(rdNum l (j1+1)).1=0 then pa3 l (rdNum l (j1+1)).2.2 x1 x2 (rdNum l (j1+1)).2.1 else((rdNum l (j1+1)).1,(rdNum l (j1+1)).2.2,pa0)):=by show R=_;rw[RI.o];unfold jA;rw[if_pos hc']
       have HJ2:=ae (BC.o _ hc');have hwr:IntKind.i64.wrap ((j1:Int)+1)=((j1+1:Nat):Int):=by rw[IntKind.wrap_i64];have:=HJ2.o;have:=jf.o;omega
       have nM:Hd (∀w,GR g b w->VS b s j1 0 d1 w->Calls prog 77 #[.pointer (some ⟨g,0,none⟩),.string ⟨#[46]⟩] w fun e w'=>e=.returned (.bool (true))/\∃n,w'=w.drewN n):=fun w h1 h2=>by have:=CI.o j1 d1 w RH.o h1 h2;rw[hc1]at this;exact this
       clear hc1 hc';go_wp2_with (go_at_call 77;refine(nM.o _ ((HG.o.other ai.o.2.2.2.1 _ _).other ai.o.2.2.2.1 _ _) ((HV.o.other ai.o.2.1 _ _).other ai.o.2.1 _ _)).mono ?_);rintro e y1 ⟨rfl,n,hn⟩;replace HV:Hd (VS b s j1 0 d1 y1):=by show VS _ _ _ _ _ y1;rw[hn];exact((HV.o.other ai.o.2.1 _ _).other ai.o.2.1 _ _).drew _
       replace HG:Hd (GR g b y1):=by show GR g b y1;rw[hn];exact(HG.o.other ai.o.2.2.2.1 _ _).other ai.o.2.2.2.1 _ _
       replace aC:Hd (VP A 0 0 0 0 ⟨#[]⟩ ⟨#[]⟩ y1):=by show VP A _ _ _ _ _ _ y1;rw[hn];exact(aC.o.other ai.o.2.2.2.2.2.1 _ _).other ai.o.2.2.2.2.2.1 _ _
       replace aG:Hd (VP (A+1) 2 x1 x2 0 ⟨#[]⟩ ⟨#[]⟩ y1):=by show VP _ _ _ _ _ _ _ y1;rw[hn];exact(aG.o.set1 _).setN _
       replace HW:Hd (w.grownBy y1 (some b)):=by show w.grownBy y1 (some b);rw[hn];exact aF (bi (bi HW.o ai.o.2.2.2.2.2.2.2.2.2 _ _) ai.o.2.2.2.2.2.2.2.2.2 _ _) _
       clear hn c0 c1 c2 c3 c4 c5 cf g0 n4;have b1:=HV.o.c1;have bf:=HV.o.f1;have g0:y1.cell? ⟨g,0,none⟩=some (.pointer (some ⟨b,0,none⟩)):=HG.o;go_wp2_with (fail);obtain⟨q1,hq⟩:=zN (y1.setCell ⟨b,1,none⟩ (.int .i64 ((j1:Int)+1)));replace HV:Hd (VS b s (j1+1) 0 d1 q1):=by show VS _ _ _ _ _ q1;rw[<-hq,show((j1:Int)+1)=((j1+1:Nat):Int) by omega];exact HV.o.set1 _
       replace HG:Hd (GR g b q1):=by show GR g b q1;rw[<-hq];exact HG.o.other ai.o.2.2.2.2.1 _ _
       replace aC:Hd (VP A 0 0 0 0 ⟨#[]⟩ ⟨#[]⟩ q1):=by show VP A _ _ _ _ _ _ q1;rw[<-hq];exact aC.o.other ai.o.2.2.2.2.2.2.1 _ _
       replace aG:Hd (VP (A+1) 2 x1 x2 0 ⟨#[]⟩ ⟨#[]⟩ q1):=by show VP _ _ _ _ _ _ _ q1;rw[<-hq];exact aG.o.other ai.o.2.2.2.2.2.2.2.1 _ _
       replace HW:Hd (w.grownBy q1 (some b)):=by show w.grownBy q1 (some b);rw[<-hq];exact bF HW.o _ _
       try rw[hq]
       clear hq b1 bf g0 hwr
       cases hw2:dQ l (j1+1) with
       | true =>
        have HZ:Hd (R=(0,j1+1+1,⟨2,x1,x2,0,[]⟩)):=by show R=_;rw[HRk.o,if_pos hw2]
        have iP:Hd (∀w,GR g b w->VS b s (j1+1) 0 d1 w->Calls prog 126 #[.pointer (some ⟨g,0,none⟩)] w fun e w'=>e=.returned (.bool true)/\VS b s (j1+1+1) 0 d1 w'/\w.grownBy w' (some b)):=fun w h1 h2=>by have:=CW.o (j1+1) d1 w HJ2.o h1 h2;rw[hw2]at this;exact this
        clear hw2;refine(iP.o _ HG.o HV.o).mono ?_;rintro e v2 ⟨rfl,hv,hg⟩;replace HV:=ae hv;replace HG:=ae (HG.o.growb hg ai.o.2.2.2.2.1);replace aC:=ae (aC.o.grow hg ai.o.2.2.2.2.2.2.1);replace aG:=ae (aG.o.grow hg ai.o.2.2.2.2.2.2.2.1);replace HW:=ae (ah HW.o hg);clear hv hg;obtain⟨a0,a1,a2,a3,a4,a5⟩:=aC.o.cells;have af:=aC.o.f;obtain⟨c0,c1,c2,c3,c4,c5⟩:=aG.o.cells;have cf:=aG.o.f;obtain⟨n1,n2,n3,n4,n5,n6,n7,n8,n9,n10⟩:=ai.o;clear n9 n10;go_wp2;have hrow:=qV (w:=v2) aC.o 2 x1 x2 0 ⟨#[]⟩ ⟨#[]⟩;exact bodyPost_ret (results_cell_row rfl _ _ A _ _ (0,0) _ rfl hrow underlying139 rfl (by kernel_rfl)) rfl (by rw[HZ.o];exact⟨2,x1,x2,0,⟨#[]⟩,⟨#[]⟩,j1+1+1,d1,rfl,qW HV.o ai.o.1 _ _ _ _ _ _,qX HW.o ai.o.2.2.2.2.2.2.2.2.1 _ _ _ _ _ _,fun _=>⟨rfl,rfl,rfl,rfl,rfl,rfl⟩,fun h=>absurd rfl h⟩)
       | false =>
        have RJ:Hd (R=if(rdNum l (j1+1)).1=0 then pa3 l (rdNum l (j1+1)).2.2 x1 x2 (rdNum l (j1+1)).2.1 else((rdNum l (j1+1)).1,(rdNum l (j1+1)).2.2,pa0)):=by show R=_;rw[HRk.o,if_neg (by rw[hw2];decide)]
        have iP:Hd (∀w,GR g b w->VS b s (j1+1) 0 d1 w->Calls prog 126 #[.pointer (some ⟨g,0,none⟩)] w fun e w'=>e=.returned (.bool false)/\VS b s (j1+1) 0 d1 w'/\w.grownBy w' (some b)):=fun w h1 h2=>by have:=CW.o (j1+1) d1 w HJ2.o h1 h2;rw[hw2]at this;exact this
        have vI:=ae (fun w (h:VS b s (j1+1) 0 d1 w)=>CN.o (j1+1) d1 w HJ2.o h);clear hw2 HRk;refine(iP.o _ HG.o HV.o).mono ?_;rintro e v2 ⟨rfl,hv,hg⟩;replace HV:=ae hv;replace HG:=ae (HG.o.growb hg ai.o.2.2.2.2.1);replace aC:=ae (aC.o.grow hg ai.o.2.2.2.2.2.2.1);replace aG:=ae (aG.o.grow hg ai.o.2.2.2.2.2.2.2.1);replace HW:=ae (ah HW.o hg);clear hv hg;have g0:v2.cell? ⟨g,0,none⟩=some (.pointer (some ⟨b,0,none⟩)):=HG.o;go_wp2_with (go_at_call 69;refine(vI.o _ HV.o).mono ?_);intro e z2 pF;obtain⟨x3,j2,E2,d2,rfl,hv,hg,hE,hok,herr⟩:=JE.o _ _ _ _ pF;replace HV:=ae hv;replace HG:=ae (HG.o.growb hg ai.o.2.2.2.2.1);replace aC:=ae (aC.o.grow hg ai.o.2.2.2.2.2.2.1);replace aG:=ae (aG.o.grow hg ai.o.2.2.2.2.2.2.2.1);replace HW:=ae (ah HW.o hg);clear hv hg;have Cb:Hd (E2=(rdNum l (j1+1)).1/\(E2=0->x3=(rdNum l (j1+1)).2.1/\j2=(rdNum l (j1+1)).2.2/\j2<=s.size)/\(E2≠0->d2=(rdNum l (j1+1)).2.2)):=⟨hE,hok,herr⟩
        clear pF hE hok herr g0;obtain⟨c0,c1,c2,c3,c4,c5⟩:=aG.o.cells;have cf:=aG.o.f;have g0:z2.cell? ⟨g,0,none⟩=some (.pointer (some ⟨b,0,none⟩)):=HG.o;have n4:=ai.o.2.2.2.1
        by_cases hz2:E2=0
        ·subst hz2;have HQ2:=ae ((Cb.o.2.1 rfl).2.2);have acN:Hd (R=pa3 l j2 x1 x2 x3):=by
          show R=_;have h1:=Cb.o.1;obtain⟨e1,e2,_⟩:=Cb.o.2.1 rfl;rw[RJ.o,if_pos h1.symm,<-e1,<-e2]
         have CTx:=ae (fun w (h1:VS b s j2 0 d2 w) (h2:VP (A+1) 3 x1 x2 x3 ⟨#[]⟩ ⟨#[]⟩ w)=>CT.o (A+1) j2 d2 3 x1 x2 x3 w HQ2.o h1 h2 ai.o.2.1);go_wp2_with (go_at_call 71;refine(CTx.o _ ((HV.o.other ai.o.2.1 _ _).other ai.o.2.1 _ _) ((aG.o.set2 _).setN _)).mono ?_);rintro e y2 ⟨rfl,htp⟩;obtain⟨jt,Et,ct,P,Q,hv,hvp,hg2,hE,hok,herr⟩:=jq.o _ _ _ _ _ _ _ _ htp;replace HV:=ae hv;replace aC:=ae (G2.vp ((aC.o.other ai.o.2.2.2.2.2.1 _ _).other ai.o.2.2.2.2.2.1 _ _) hg2 ai.o.2.2.2.2.2.2.1 ai.o.2.2.2.2.2.1);replace aG:=ae hvp;replace HW:=ae (G2.gb (bi (bi HW.o ai.o.2.2.2.2.2.2.2.2.2 _ _) ai.o.2.2.2.2.2.2.2.2.2 _ _) ai.o.2.2.2.2.2.2.2.2.2 hg2);have HZ:Hd (Et=R.1/\(Et=0->jt=R.2.1/\R.2.2=⟨3,x1,x2,x3,(aJ l j2).2.2.1⟩/\P=⟨(aJ l j2).2.2.1.toArray⟩)/\(¬Et=0->ct=R.2.1)):=by
          rw[acN.o];unfold pa3
          by_cases h0:Et=0
          ·obtain⟨p1,p2,p3,p4⟩:=hok h0;rw[if_pos (hE.symm.trans h0)];exact⟨h0,fun _=>⟨p3,rfl,p1⟩,fun h=>absurd h0 h⟩
          ·rw[if_neg (fun h=>h0 (hE.trans h))];exact⟨hE,fun h=>absurd h h0,fun _=>herr h0⟩
         clear hv hvp hg2 hE hok herr htp c0 c1 c2 c3 c4 c5 cf g0 n4;obtain⟨a0,a1,a2,a3,a4,a5⟩:=aC.o.cells;have af:=aC.o.f;obtain⟨c0,c1,c2,c3,c4,c5⟩:=aG.o.cells;have cf:=aG.o.f;obtain⟨n1,n2,n3,n4,n5,n6,n7,n8,n9,n10⟩:=ai.o;clear n9 n10;go_wp2;have hrow:=qV (w:=y2) aC.o 3 x1 x2 x3 P Q;exact bodyPost_ret (results_cell_row rfl _ _ A _ _ (0,0) _ rfl hrow underlying139 rfl (by kernel_rfl)) rfl (by
          refine⟨3,x1,x2,x3,P,Q,jt,ct,rfl,?_,qX HW.o ai.o.2.2.2.2.2.2.2.2.1 _ _ _ _ _ _,?_,?_⟩
          ·rw[<-HZ.o.1];exact qW HV.o ai.o.1 _ _ _ _ _ _
          ·intro h0;obtain⟨p1,p2,p3⟩:=HZ.o.2.1 (HZ.o.1.trans h0);rw[p2];exact⟨p1,rfl,rfl,rfl,rfl,p3⟩
          ·intro h0;exact HZ.o.2.2 (fun h=>h0 (HZ.o.1.symm.trans h)))
        ·have HZ:Hd (R=(E2,d2,pa0)):=by
          show R=_;have h1:=Cb.o.1;rw[RJ.o,if_neg (by rw[<-h1];exact hz2),<-h1,<-Cb.o.2.2 hz2]
         have eX:=ae hz2;clear hz2;have nM:=ae (fun w (h2:VS b s j2 E2 d2 w)=>CTL.o (A+1) j2 E2 d2 w eX.o h2);go_wp2_with (go_at_call 71;refine(nM.o _ ((HV.o.other ai.o.2.1 _ _).other ai.o.2.1 _ _)).mono ?_);rintro e y2 ⟨rfl,n,hn⟩;replace HV:Hd (VS b s j2 E2 d2 y2):=by show VS _ _ _ _ _ y2;rw[hn];exact((HV.o.other ai.o.2.1 _ _).other ai.o.2.1 _ _).drew _
         replace aC:Hd (VP A 0 0 0 0 ⟨#[]⟩ ⟨#[]⟩ y2):=by show VP A _ _ _ _ _ _ y2;rw[hn];exact(aC.o.other ai.o.2.2.2.2.2.1 _ _).other ai.o.2.2.2.2.2.1 _ _
         replace aG:Hd (VP (A+1) 3 x1 x2 x3 ⟨#[]⟩ ⟨#[]⟩ y2):=by show VP _ _ _ _ _ _ _ y2;rw[hn];exact(aG.o.set2 _).setN _
         replace HW:Hd (w.grownBy y2 (some b)):=by show w.grownBy y2 (some b);rw[hn];exact aF (bi (bi HW.o ai.o.2.2.2.2.2.2.2.2.2 _ _) ai.o.2.2.2.2.2.2.2.2.2 _ _) _
         clear hn c0 c1 c2 c3 c4 c5 cf g0 n4;obtain⟨a0,a1,a2,a3,a4,a5⟩:=aC.o.cells;have af:=aC.o.f;obtain⟨c0,c1,c2,c3,c4,c5⟩:=aG.o.cells;have cf:=aG.o.f;obtain⟨n1,n2,n3,n4,n5,n6,n7,n8,n9,n10⟩:=ai.o;clear n9 n10;go_wp2;have hrow:=qV (w:=y2) aC.o 3 x1 x2 x3 ⟨#[]⟩ ⟨#[]⟩;exact bodyPost_ret (results_cell_row rfl _ _ A _ _ (0,0) _ rfl hrow underlying139 rfl (by kernel_rfl)) rfl (by rw[HZ.o];exact⟨3,x1,x2,x3,⟨#[]⟩,⟨#[]⟩,j2,d2,rfl,qW HV.o ai.o.1 _ _ _ _ _ _,qX HW.o ai.o.2.2.2.2.2.2.2.2.1 _ _ _ _ _ _,fun h=>absurd h eX.o,fun _=>rfl⟩)
     ·have HZ:Hd (R=(E1,d1,pa0)):=by
       show R=_;have h1:=BZ.o.1;rw[RG.o,if_neg (by rw[<-h1];exact hz1),<-h1,<-BZ.o.2.2 hz1]
      have eX:=ae hz1;clear hz1;have nM:=ae (fun w (h1:GR g b w) (h2:VS b s j1 E1 d1 w)=>EU.o j1 E1 d1 w eX.o h1 h2);go_wp2_with (go_at_call 77;refine(nM.o _ ((HG.o.other ai.o.2.2.2.1 _ _).other ai.o.2.2.2.1 _ _) ((HV.o.other ai.o.2.1 _ _).other ai.o.2.1 _ _)).mono ?_);rintro e y1 ⟨rfl,n,hn⟩;replace HV:Hd (VS b s j1 E1 d1 y1):=by show VS _ _ _ _ _ y1;rw[hn];exact((HV.o.other ai.o.2.1 _ _).other ai.o.2.1 _ _).drew _
      replace aC:Hd (VP A 0 0 0 0 ⟨#[]⟩ ⟨#[]⟩ y1):=by show VP A _ _ _ _ _ _ y1;rw[hn];exact(aC.o.other ai.o.2.2.2.2.2.1 _ _).other ai.o.2.2.2.2.2.1 _ _
      replace aG:Hd (VP (A+1) 2 x1 x2 0 ⟨#[]⟩ ⟨#[]⟩ y1):=by show VP _ _ _ _ _ _ _ y1;rw[hn];exact(aG.o.set1 _).setN _
      replace HW:Hd (w.grownBy y1 (some b)):=by show w.grownBy y1 (some b);rw[hn];exact aF (bi (bi HW.o ai.o.2.2.2.2.2.2.2.2.2 _ _) ai.o.2.2.2.2.2.2.2.2.2 _ _) _
      clear hn c0 c1 c2 c3 c4 c5 cf g0 n4;obtain⟨a0,a1,a2,a3,a4,a5⟩:=aC.o.cells;have af:=aC.o.f;obtain⟨c0,c1,c2,c3,c4,c5⟩:=aG.o.cells;have cf:=aG.o.f;obtain⟨n1,n2,n3,n4,n5,n6,n7,n8,n9,n10⟩:=ai.o;clear n9 n10;go_wp2;have hrow:=qV (w:=y1) aC.o 2 x1 x2 0 ⟨#[]⟩ ⟨#[]⟩;exact bodyPost_ret (results_cell_row rfl _ _ A _ _ (0,0) _ rfl hrow underlying139 rfl (by kernel_rfl)) rfl (by rw[HZ.o];exact⟨2,x1,x2,0,⟨#[]⟩,⟨#[]⟩,j1,d1,rfl,qW HV.o ai.o.1 _ _ _ _ _ _,qX HW.o ai.o.2.2.2.2.2.2.2.2.1 _ _ _ _ _ _,fun h=>absurd h eX.o,fun _=>rfl⟩)
  ·have HZ:Hd (R=(E0,d0,pa0)):=by
    show R=_;have h1:=BX.o.1;rw[Rz.o,if_neg (by rw[<-h1];exact hz0),<-h1,<-BX.o.2.2 hz0]
   have eX:=ae hz0;clear hz0;have nM:=ae (fun w (h1:GR g b w) (h2:VS b s j0 E0 d0 w)=>EU.o j0 E0 d0 w eX.o h1 h2);go_wp2_with (go_at_call 77;refine(nM.o _ ((HG.o.other ai.o.2.2.2.1 _ _).other ai.o.2.2.2.1 _ _) ((HV.o.other ai.o.2.1 _ _).other ai.o.2.1 _ _)).mono ?_);rintro e y0 ⟨rfl,n,hn⟩;replace HV:Hd (VS b s j0 E0 d0 y0):=by show VS _ _ _ _ _ y0;rw[hn];exact((HV.o.other ai.o.2.1 _ _).other ai.o.2.1 _ _).drew _
   replace aC:Hd (VP A 0 0 0 0 ⟨#[]⟩ ⟨#[]⟩ y0):=by show VP A _ _ _ _ _ _ y0;rw[hn];exact(aC.o.other ai.o.2.2.2.2.2.1 _ _).other ai.o.2.2.2.2.2.1 _ _
   replace aG:Hd (VP (A+1) 1 x1 0 0 ⟨#[]⟩ ⟨#[]⟩ y0):=by show VP _ _ _ _ _ _ _ y0;rw[hn];exact(aG.o.set0 _).setN _
   replace HW:Hd (w.grownBy y0 (some b)):=by show w.grownBy y0 (some b);rw[hn];exact aF (bi (bi HW.o ai.o.2.2.2.2.2.2.2.2.2 _ _) ai.o.2.2.2.2.2.2.2.2.2 _ _) _
   clear hn c0 c1 c2 c3 c4 c5 cf g0 n4;obtain⟨a0,a1,a2,a3,a4,a5⟩:=aC.o.cells;have af:=aC.o.f;obtain⟨c0,c1,c2,c3,c4,c5⟩:=aG.o.cells;have cf:=aG.o.f;obtain⟨n1,n2,n3,n4,n5,n6,n7,n8,n9,n10⟩:=ai.o;clear n9 n10;go_wp2;have hrow:=qV (w:=y0) aC.o 1 x1 0 0 ⟨#[]⟩ ⟨#[]⟩;exact bodyPost_ret (results_cell_row rfl _ _ A _ _ (0,0) _ rfl hrow underlying139 rfl (by kernel_rfl)) rfl (by rw[HZ.o];exact⟨1,x1,0,0,⟨#[]⟩,⟨#[]⟩,j0,d0,rfl,qW HV.o ai.o.1 _ _ _ _ _ _,qX HW.o ai.o.2.2.2.2.2.2.2.2.1 _ _ _ _ _ _,fun h=>absurd h eX.o,fun _=>rfl⟩)
open Go.RowKit
def dsT(k:Nat):List UInt8:=match k with|0=>[61]|1=>[62,61]|2=>[60,61]|3=>[62]|4=>[60]|5=>[94]|6=>[126]|_=>[]
def dF(l:List UInt8)(i k:Nat):Bool:=Lib.hasPrefix (l.drop i) (dsT k)
theorem acO(l:List UInt8)(i:Nat)  (h1:dF l i 1=true):ax l i=(1,i+2):=by
 have g1:(decide (l[i]?=some 62) && decide (l[i+1]?=some 61))=true:=by rw[<-fH];exact h1
 simp only[Bool.and_eq_true,decide_eq_true_eq]at g1;unfold ax
 repeat' split
 all_goals simp_all
theorem acP(l:List UInt8)(i:Nat)(h1:dF l i 1=false)(h2:dF l i 2=true):ax l i=(2,i+2):=by
 have g1:(decide (l[i]?=some 62) && decide (l[i+1]?=some 61))=false:=by rw[<-fH];exact h1
 have g2:(decide (l[i]?=some 60) && decide (l[i+1]?=some 61))=true:=by rw[<-fH];exact h2
 simp only[Bool.and_eq_true,Bool.and_eq_false_iff,decide_eq_true_eq,decide_eq_false_iff_not]at g1 g2;unfold ax
 repeat' split
 all_goals simp_all
theorem acQ(l:List UInt8)(i:Nat)(h1:dF l i 1=false)(h2:dF l i 2=false)(h3:dF l i 3=true):ax l i=(3,i+1):=by
 have g1:(decide (l[i]?=some 62) && decide (l[i+1]?=some 61))=false:=by rw[<-fH];exact h1
 have g2:(decide (l[i]?=some 60) && decide (l[i+1]?=some 61))=false:=by rw[<-fH];exact h2
 have g3:decide (l[i]?=some 62)=true:=by rw[<-dB];exact h3
 simp only[Bool.and_eq_false_iff,decide_eq_true_eq,decide_eq_false_iff_not]at g1 g2 g3;unfold ax
 repeat' split
 all_goals simp_all
theorem acR(l:List UInt8)(i:Nat)(h1:dF l i 1=false)(h2:dF l i 2=false)(h3:dF l i 3=false)(h4:dF l i 4=true):ax l i=(4,i+1):=by
 have g1:(decide (l[i]?=some 62) && decide (l[i+1]?=some 61))=false:=by rw[<-fH];exact h1
 have g2:(decide (l[i]?=some 60) && decide (l[i+1]?=some 61))=false:=by rw[<-fH];exact h2
 have g3:decide (l[i]?=some 62)=false:=by rw[<-dB];exact h3
 have g4:decide (l[i]?=some 60)=true:=by rw[<-dB];exact h4
 simp only[Bool.and_eq_false_iff,decide_eq_true_eq,decide_eq_false_iff_not]at g1 g2 g3 g4;unfold ax
 repeat' split
 all_goals simp_all
theorem acS(l:List UInt8)(i:Nat)(h1:dF l i 1=false)(h2:dF l i 2=false)(h3:dF l i 3=false)(h4:dF l i 4=false)(h5:dF l i 5=true):ax l i=(5,i+1):=by
 have g1:(decide (l[i]?=some 62) && decide (l[i+1]?=some 61))=false:=by rw[<-fH];exact h1
 have g2:(decide (l[i]?=some 60) && decide (l[i+1]?=some 61))=false:=by rw[<-fH];exact h2
 have g3:decide (l[i]?=some 62)=false:=by rw[<-dB];exact h3
 have g4:decide (l[i]?=some 60)=false:=by rw[<-dB];exact h4
 have g5:decide (l[i]?=some 94)=true:=by rw[<-dB];exact h5
 simp only[Bool.and_eq_false_iff,decide_eq_true_eq,decide_eq_false_iff_not]at g1 g2 g3 g4 g5;unfold ax
 repeat' split
 all_goals simp_all
theorem acT(l:List UInt8)(i:Nat)(h1:dF l i 1=false)(h2:dF l i 2=false)(h3:dF l i 3=false)(h4:dF l i 4=false)(h5:dF l i 5=false)(h6:dF l i 6=true):ax l i=(6,i+1):=by
 have g1:(decide (l[i]?=some 62) && decide (l[i+1]?=some 61))=false:=by rw[<-fH];exact h1
 have g2:(decide (l[i]?=some 60) && decide (l[i+1]?=some 61))=false:=by rw[<-fH];exact h2
 have g3:decide (l[i]?=some 62)=false:=by rw[<-dB];exact h3
 have g4:decide (l[i]?=some 60)=false:=by rw[<-dB];exact h4
 have g5:decide (l[i]?=some 94)=false:=by rw[<-dB];exact h5
 have g6:decide (l[i]?=some 126)=true:=by rw[<-dB];exact h6
 simp only[Bool.and_eq_false_iff,decide_eq_true_eq,decide_eq_false_iff_not]at g1 g2 g3 g4 g5 g6;unfold ax
 repeat' split
 all_goals simp_all
theorem acU(l:List UInt8)(i:Nat)(h1:dF l i 1=false)(h2:dF l i 2=false)(h3:dF l i 3=false)(h4:dF l i 4=false)(h5:dF l i 5=false)(h6:dF l i 6=false)(h0:dF l i 0=true):ax l i=(0,i+1):=by
 have g1:(decide (l[i]?=some 62) && decide (l[i+1]?=some 61))=false:=by rw[<-fH];exact h1
 have g2:(decide (l[i]?=some 60) && decide (l[i+1]?=some 61))=false:=by rw[<-fH];exact h2
 have g3:decide (l[i]?=some 62)=false:=by rw[<-dB];exact h3
 have g4:decide (l[i]?=some 60)=false:=by rw[<-dB];exact h4
 have g5:decide (l[i]?=some 94)=false:=by rw[<-dB];exact h5
 have g6:decide (l[i]?=some 126)=false:=by rw[<-dB];exact h6
 have g0:decide (l[i]?=some 61)=true:=by rw[<-dB];exact h0
 simp only[Bool.and_eq_false_iff,decide_eq_true_eq,decide_eq_false_iff_not]at g1 g2 g3 g4 g5 g6 g0;unfold ax
 repeat' split
 all_goals simp_all
theorem acV(l:List UInt8)(i:Nat)(h1:dF l i 1=false)(h2:dF l i 2=false)(h3:dF l i 3=false)(h4:dF l i 4=false)(h5:dF l i 5=false)(h6:dF l i 6=false)(h0:dF l i 0=false):ax l i=(-1,i):=by
 have g1:(decide (l[i]?=some 62) && decide (l[i+1]?=some 61))=false:=by rw[<-fH];exact h1
 have g2:(decide (l[i]?=some 60) && decide (l[i+1]?=some 61))=false:=by rw[<-fH];exact h2
 have g3:decide (l[i]?=some 62)=false:=by rw[<-dB];exact h3
 have g4:decide (l[i]?=some 60)=false:=by rw[<-dB];exact h4
 have g5:decide (l[i]?=some 94)=false:=by rw[<-dB];exact h5
 have g6:decide (l[i]?=some 126)=false:=by rw[<-dB];exact h6
 have g0:decide (l[i]?=some 61)=false:=by rw[<-dB];exact h0
 simp only[Bool.and_eq_false_iff,decide_eq_false_iff_not]at g1 g2 g3 g4 g5 g6 g0;unfold ax
 repeat' split
 all_goals simp_all
def acW:Array Value:=#[.string ⟨#[61]⟩,.string ⟨#[62,61]⟩,.string ⟨#[60,61]⟩,.string ⟨#[62]⟩,.string ⟨#[60]⟩,.string ⟨#[94]⟩,.string ⟨#[126]⟩]
def DR(D:Nat)(w:World):Prop:=w.heap[D]?=some (.cells acW 9 (0,0))
theorem acX(g b:Nat)(s:ByteArray)(i:Nat)(a:Nat)(w:World)(hi:i<=s.size)(hgb:g≠b)(hg:GR g b w)(h:VS b s i 0 a w)(hs:s.size<2 ^ 60) :
  Calls prog 98 #[.pointer (some ⟨g,0,none⟩)] w fun e w'=>e=.returned (.int .i64 (ax s.data.toList i).1)/\VS b s (ax s.data.toList i).2 0 a w'/\w.grownBy w' (some b):=by
 have CI:Hd (∀(k:Nat) (T:ByteArray) (w:World),T.data.toList=dsT k->T.size<2 ^ 61->GR g b w->VS b s i 0 a w->Calls prog 77 #[.pointer (some ⟨g,0,none⟩),.string T] w fun e w'=>e=.returned (.bool (dF s.data.toList i k))/\∃n,w'=w.drewN n):=fun k T w hT ht h1 h2=>by
  have:=Jo g b s T i a w hi h1 h2 (by omega) ht;rw[hT]at this;exact this
 obtain⟨l,hl⟩:=zN (s.data.toList);rw[hl]at CI ⊢;obtain⟨sg,j,hsg⟩:∃sg j,ax l i=(sg,j):=⟨_,_,rfl⟩;have dW:=ae hsg;rw[hsg];simp only[];have HG:=ae hg;have HV:=ae h;have HB0:Hd (b<w.heap.size/\g<w.heap.size/\g≠b):=⟨(aA h),GR.lt hg,hgb⟩;have jf:Hd (i<=s.size/\s.size<2 ^ 60):=⟨hi,hs⟩;clear hl hsg h hg hgb hs hi;go_enter func98,ntmps98;go_wp2_with (fail);obtain⟨D,hD⟩:=zN (w.heap.size);obtain⟨W,hW⟩:=zN (w.alloc (.cells #[.string ⟨#[61]⟩,.string ⟨#[62,61]⟩,.string ⟨#[60,61]⟩,.string ⟨#[62]⟩,.string ⟨#[60]⟩,.string ⟨#[94]⟩,.string ⟨#[126]⟩] 9));have hgW:w.grownBy W none:=by rw[<-hW];exact au (ak w none) _
 have HD:Hd (DR D W):=by show W.heap[D]?=_;rw[<-hW,<-hD];exact heap_alloc_new w _
 have lF:Hd (b≠D/\g≠D/\D≠b):=by have:=HB0.o;refine⟨?_,?_,?_⟩<;>omega
 replace HG:=ae (HG.o.grow hgW);replace HV:Hd (VS b s i 0 a W):=by show W.heap[b]?=_;rw[hgW.block b HB0.o.1 (by simp)];exact HV.o
 have HW:Hd (w.grownBy W (some b)):=bH hgW _
 try rw[hW]
 try rw[hD]
 clear hgW hW hD;go_loopw [4] (fun vk wr=>∃k:Nat,vk=.int .i64 k/\1<=k/\k<=8/\(∀m,1<=m->m<k->dF l i (m % 7)=false)/\VS b s i 0 a wr/\GR g b wr/\DR D wr/\w.grownBy wr (some b)) (fun vk _=>8-(intOf vk).toNat)
 case atStart=>exact⟨1,rfl,by omega,by omega,fun m h1 h2=>by omega,HV.o,HG.o,HD.o,HW.o⟩
 case round =>
  obtain⟨k,rfl,hk1,hk8,hno,hv,hgr,hdr,hgw⟩:=hrel;clear HV HG HD HW;have HV:=ae hv;have HG:=ae hgr;have HD:=ae hdr;have HW:=ae hgw;have aU:=ae hno;clear hv hgr hdr hgw hno;have hkk:k=1\/k=2\/k=3\/k=4\/k=5\/k=6\/k=7\/k=8:=by omega
  clear hk1 hk8
  rcases hkk with rfl|rfl|rfl|rfl|rfl|rfl|rfl|rfl
  ·have d0:wr.cell? ⟨D,1,none⟩=some (.string ⟨#[62,61]⟩):=by rw[ag (show _=_ from HD.o)];rfl
   cases hp:dF l i 1 with
   | true =>
    have ig:Hd (∀w,GR g b w->VS b s i 0 a w->Calls prog 77 #[.pointer (some ⟨g,0,none⟩),.string ⟨#[62,61]⟩] w fun e w'=>e=.returned (.bool (true))/\∃n,w'=w.drewN n):=fun w h1 h2=>by have:=CI.o 1 ⟨#[62,61]⟩ w rfl (by show 2 < _;decide) h1 h2;rw[hp]at this;exact this
    have HP:=ae hp;clear hp;go_wp2_with (go_at_call 77;refine(ig.o _ HG.o HV.o).mono ?_);rintro e u1 ⟨rfl,n,hn⟩;replace HV:Hd (VS b s i 0 a u1):=by show VS _ _ _ _ _ u1;rw[hn];exact HV.o.drew _
    replace HG:Hd (GR g b u1):=by show GR g b u1;rw[hn];exact HG.o
    replace HD:Hd (DR D u1):=by show DR D u1;rw[hn];exact HD.o
    replace HW:Hd (w.grownBy u1 (some b)):=by show w.grownBy u1 (some b);rw[hn];exact aF HW.o _
    clear hn d0;have dU:=ae (acO l i  HP.o);obtain⟨rfl,rfl⟩:sg=1/\j=i+2:=by have:=dW.o.symm.trans dU.o;simpa using this
    have e0:u1.cell? ⟨g,0,none⟩=some (.pointer (some ⟨b,0,none⟩)):=HG.o;have e1:=HV.o.c1;have ef:=HV.o.f1;have e2:u1.cell? ⟨D,1,none⟩=some (.string ⟨#[62,61]⟩):=by rw[ag (show _=_ from HD.o)];rfl
    have hwr:IntKind.i64.wrap ((i:Int)+2)=(i:Int)+2:=by rw[IntKind.wrap_i64];have:=jf.o;omega
    go_wp2_with (fail)
    go_region
    have dZ:Hd (VS b s (i+2) 0 a (u1.setCell ⟨b,1,none⟩ (.int .i64 ((i:Int)+2))).drew):=by show VS b s (i+2) 0 a (u1.setCell ⟨b,1,none⟩ (.int .i64 ((i:Int)+2)));rw[show((i:Int)+2)=((i+2:Nat):Int) by omega];exact HV.o.set1 _
    have nN:Hd (w.grownBy (u1.setCell ⟨b,1,none⟩ (.int .i64 ((i:Int)+2))).drew (some b)):=rP (bF HW.o _ _);clear e0 e1 e2 ef hwr;go_wp2;go_ret;exact⟨rfl,dZ.o,nN.o⟩
   | false =>
    have ig:Hd (∀w,GR g b w->VS b s i 0 a w->Calls prog 77 #[.pointer (some ⟨g,0,none⟩),.string ⟨#[62,61]⟩] w fun e w'=>e=.returned (.bool (false))/\∃n,w'=w.drewN n):=fun w h1 h2=>by have:=CI.o 1 ⟨#[62,61]⟩ w rfl (by show 2 < _;decide) h1 h2;rw[hp]at this;exact this
    have HP:=ae hp;clear hp;go_wp2_with (go_at_call 77;refine(ig.o _ HG.o HV.o).mono ?_);rintro e u1 ⟨rfl,n,hn⟩;replace HV:Hd (VS b s i 0 a u1):=by show VS _ _ _ _ _ u1;rw[hn];exact HV.o.drew _
    replace HG:Hd (GR g b u1):=by show GR g b u1;rw[hn];exact HG.o
    replace HD:Hd (DR D u1):=by show DR D u1;rw[hn];exact HD.o
    replace HW:Hd (w.grownBy u1 (some b)):=by show w.grownBy u1 (some b);rw[hn];exact aF HW.o _
    clear hn d0;go_wp2;go_roundw
    case rel=>exact⟨2,rfl,by omega,by omega,fun m h1 h2=>by rcases Nat.lt_succ_iff_lt_or_eq.1 h2 with h|h;exact aU.o m h1 h;rw[h];exact HP.o,HV.o,HG.o,HD.o,HW.o⟩
    case measure=>simp[intOf]
  ·have d0:wr.cell? ⟨D,2,none⟩=some (.string ⟨#[60,61]⟩):=by rw[ag (show _=_ from HD.o)];rfl
   cases hp:dF l i 2 with
   | true =>
    have ig:Hd (∀w,GR g b w->VS b s i 0 a w->Calls prog 77 #[.pointer (some ⟨g,0,none⟩),.string ⟨#[60,61]⟩] w fun e w'=>e=.returned (.bool (true))/\∃n,w'=w.drewN n):=fun w h1 h2=>by have:=CI.o 2 ⟨#[60,61]⟩ w rfl (by show 2 < _;decide) h1 h2;rw[hp]at this;exact this
    have HP:=ae hp;clear hp;go_wp2_with (go_at_call 77;refine(ig.o _ HG.o HV.o).mono ?_);rintro e u1 ⟨rfl,n,hn⟩;replace HV:Hd (VS b s i 0 a u1):=by show VS _ _ _ _ _ u1;rw[hn];exact HV.o.drew _
    replace HG:Hd (GR g b u1):=by show GR g b u1;rw[hn];exact HG.o
    replace HD:Hd (DR D u1):=by show DR D u1;rw[hn];exact HD.o
    replace HW:Hd (w.grownBy u1 (some b)):=by show w.grownBy u1 (some b);rw[hn];exact aF HW.o _
    clear hn d0;have dU:=ae (acP l i (aU.o 1 (by omega) (by omega)) HP.o);obtain⟨rfl,rfl⟩:sg=2/\j=i+2:=by have:=dW.o.symm.trans dU.o;simpa using this
    have e0:u1.cell? ⟨g,0,none⟩=some (.pointer (some ⟨b,0,none⟩)):=HG.o;have e1:=HV.o.c1;have ef:=HV.o.f1;have e2:u1.cell? ⟨D,2,none⟩=some (.string ⟨#[60,61]⟩):=by rw[ag (show _=_ from HD.o)];rfl
    have hwr:IntKind.i64.wrap ((i:Int)+2)=(i:Int)+2:=by rw[IntKind.wrap_i64];have:=jf.o;omega
    go_wp2_with (fail)
    go_region
    have dZ:Hd (VS b s (i+2) 0 a (u1.setCell ⟨b,1,none⟩ (.int .i64 ((i:Int)+2))).drew):=by show VS b s (i+2) 0 a (u1.setCell ⟨b,1,none⟩ (.int .i64 ((i:Int)+2)));rw[show((i:Int)+2)=((i+2:Nat):Int) by omega];exact HV.o.set1 _
    have nN:Hd (w.grownBy (u1.setCell ⟨b,1,none⟩ (.int .i64 ((i:Int)+2))).drew (some b)):=rP (bF HW.o _ _);clear e0 e1 e2 ef hwr;go_wp2;go_ret;exact⟨rfl,dZ.o,nN.o⟩
   | false =>
    have ig:Hd (∀w,GR g b w->VS b s i 0 a w->Calls prog 77 #[.pointer (some ⟨g,0,none⟩),.string ⟨#[60,61]⟩] w fun e w'=>e=.returned (.bool (false))/\∃n,w'=w.drewN n):=fun w h1 h2=>by have:=CI.o 2 ⟨#[60,61]⟩ w rfl (by show 2 < _;decide) h1 h2;rw[hp]at this;exact this
    have HP:=ae hp;clear hp;go_wp2_with (go_at_call 77;refine(ig.o _ HG.o HV.o).mono ?_);rintro e u1 ⟨rfl,n,hn⟩;replace HV:Hd (VS b s i 0 a u1):=by show VS _ _ _ _ _ u1;rw[hn];exact HV.o.drew _
    replace HG:Hd (GR g b u1):=by show GR g b u1;rw[hn];exact HG.o
    replace HD:Hd (DR D u1):=by show DR D u1;rw[hn];exact HD.o
    replace HW:Hd (w.grownBy u1 (some b)):=by show w.grownBy u1 (some b);rw[hn];exact aF HW.o _
    clear hn d0;go_wp2;go_roundw
    case rel=>exact⟨3,rfl,by omega,by omega,fun m h1 h2=>by rcases Nat.lt_succ_iff_lt_or_eq.1 h2 with h|h;exact aU.o m h1 h;rw[h];exact HP.o,HV.o,HG.o,HD.o,HW.o⟩
    case measure=>simp[intOf]
  ·have d0:wr.cell? ⟨D,3,none⟩=some (.string ⟨#[62]⟩):=by rw[ag (show _=_ from HD.o)];rfl
   cases hp:dF l i 3 with
   | true =>
    have ig:Hd (∀w,GR g b w->VS b s i 0 a w->Calls prog 77 #[.pointer (some ⟨g,0,none⟩),.string ⟨#[62]⟩] w fun e w'=>e=.returned (.bool (true))/\∃n,w'=w.drewN n):=fun w h1 h2=>by have:=CI.o 3 ⟨#[62]⟩ w rfl (by show 1 < _;decide) h1 h2;rw[hp]at this;exact this
    have HP:=ae hp;clear hp;go_wp2_with (go_at_call 77;refine(ig.o _ HG.o HV.o).mono ?_);rintro e u1 ⟨rfl,n,hn⟩;replace HV:Hd (VS b s i 0 a u1):=by show VS _ _ _ _ _ u1;rw[hn];exact HV.o.drew _
    replace HG:Hd (GR g b u1):=by show GR g b u1;rw[hn];exact HG.o
    replace HD:Hd (DR D u1):=by show DR D u1;rw[hn];exact HD.o
    replace HW:Hd (w.grownBy u1 (some b)):=by show w.grownBy u1 (some b);rw[hn];exact aF HW.o _
    clear hn d0;have dU:=ae (acQ l i (aU.o 1 (by omega) (by omega)) (aU.o 2 (by omega) (by omega)) HP.o);obtain⟨rfl,rfl⟩:sg=3/\j=i+1:=by have:=dW.o.symm.trans dU.o;simpa using this
    have e0:u1.cell? ⟨g,0,none⟩=some (.pointer (some ⟨b,0,none⟩)):=HG.o;have e1:=HV.o.c1;have ef:=HV.o.f1;have e2:u1.cell? ⟨D,3,none⟩=some (.string ⟨#[62]⟩):=by rw[ag (show _=_ from HD.o)];rfl
    have hwr:IntKind.i64.wrap ((i:Int)+1)=(i:Int)+1:=by rw[IntKind.wrap_i64];have:=jf.o;omega
    go_wp2_with (fail)
    go_region
    have dZ:Hd (VS b s (i+1) 0 a (u1.setCell ⟨b,1,none⟩ (.int .i64 ((i:Int)+1))).drew):=by show VS b s (i+1) 0 a (u1.setCell ⟨b,1,none⟩ (.int .i64 ((i:Int)+1)));rw[show((i:Int)+1)=((i+1:Nat):Int) by omega];exact HV.o.set1 _
    have nN:Hd (w.grownBy (u1.setCell ⟨b,1,none⟩ (.int .i64 ((i:Int)+1))).drew (some b)):=rP (bF HW.o _ _);clear e0 e1 e2 ef hwr;go_wp2;go_ret;exact⟨rfl,dZ.o,nN.o⟩
   | false =>
    have ig:Hd (∀w,GR g b w->VS b s i 0 a w->Calls prog 77 #[.pointer (some ⟨g,0,none⟩),.string ⟨#[62]⟩] w fun e w'=>e=.returned (.bool (false))/\∃n,w'=w.drewN n):=fun w h1 h2=>by have:=CI.o 3 ⟨#[62]⟩ w rfl (by show 1 < _;decide) h1 h2;rw[hp]at this;exact this
    have HP:=ae hp;clear hp;go_wp2_with (go_at_call 77;refine(ig.o _ HG.o HV.o).mono ?_);rintro e u1 ⟨rfl,n,hn⟩;replace HV:Hd (VS b s i 0 a u1):=by show VS _ _ _ _ _ u1;rw[hn];exact HV.o.drew _
    replace HG:Hd (GR g b u1):=by show GR g b u1;rw[hn];exact HG.o
    replace HD:Hd (DR D u1):=by show DR D u1;rw[hn];exact HD.o
    replace HW:Hd (w.grownBy u1 (some b)):=by show w.grownBy u1 (some b);rw[hn];exact aF HW.o _
    clear hn d0;go_wp2;go_roundw
    case rel=>exact⟨4,rfl,by omega,by omega,fun m h1 h2=>by rcases Nat.lt_succ_iff_lt_or_eq.1 h2 with h|h;exact aU.o m h1 h;rw[h];exact HP.o,HV.o,HG.o,HD.o,HW.o⟩
    case measure=>simp[intOf]
  ·have d0:wr.cell? ⟨D,4,none⟩=some (.string ⟨#[60]⟩):=by rw[ag (show _=_ from HD.o)];rfl
   cases hp:dF l i 4 with
   | true =>
    have ig:Hd (∀w,GR g b w->VS b s i 0 a w->Calls prog 77 #[.pointer (some ⟨g,0,none⟩),.string ⟨#[60]⟩] w fun e w'=>e=.returned (.bool (true))/\∃n,w'=w.drewN n):=fun w h1 h2=>by have:=CI.o 4 ⟨#[60]⟩ w rfl (by show 1 < _;decide) h1 h2;rw[hp]at this;exact this
    have HP:=ae hp;clear hp;go_wp2_with (go_at_call 77;refine(ig.o _ HG.o HV.o).mono ?_);rintro e u1 ⟨rfl,n,hn⟩;replace HV:Hd (VS b s i 0 a u1):=by show VS _ _ _ _ _ u1;rw[hn];exact HV.o.drew _
    replace HG:Hd (GR g b u1):=by show GR g b u1;rw[hn];exact HG.o
    replace HD:Hd (DR D u1):=by show DR D u1;rw[hn];exact HD.o
    replace HW:Hd (w.grownBy u1 (some b)):=by show w.grownBy u1 (some b);rw[hn];exact aF HW.o _
    clear hn d0;have dU:=ae (acR l i (aU.o 1 (by omega) (by omega)) (aU.o 2 (by omega) (by omega)) (aU.o 3 (by omega) (by omega)) HP.o);obtain⟨rfl,rfl⟩:sg=4/\j=i+1:=by have:=dW.o.symm.trans dU.o;simpa using this
    have e0:u1.cell? ⟨g,0,none⟩=some (.pointer (some ⟨b,0,none⟩)):=HG.o;have e1:=HV.o.c1;have ef:=HV.o.f1;have e2:u1.cell? ⟨D,4,none⟩=some (.string ⟨#[60]⟩):=by rw[ag (show _=_ from HD.o)];rfl
    have hwr:IntKind.i64.wrap ((i:Int)+1)=(i:Int)+1:=by rw[IntKind.wrap_i64];have:=jf.o;omega
    go_wp2_with (fail)
    go_region
    have dZ:Hd (VS b s (i+1) 0 a (u1.setCell ⟨b,1,none⟩ (.int .i64 ((i:Int)+1))).drew):=by show VS b s (i+1) 0 a (u1.setCell ⟨b,1,none⟩ (.int .i64 ((i:Int)+1)));rw[show((i:Int)+1)=((i+1:Nat):Int) by omega];exact HV.o.set1 _
    have nN:Hd (w.grownBy (u1.setCell ⟨b,1,none⟩ (.int .i64 ((i:Int)+1))).drew (some b)):=rP (bF HW.o _ _);clear e0 e1 e2 ef hwr;go_wp2;go_ret;exact⟨rfl,dZ.o,nN.o⟩
   | false =>
    have ig:Hd (∀w,GR g b w->VS b s i 0 a w->Calls prog 77 #[.pointer (some ⟨g,0,none⟩),.string ⟨#[60]⟩] w fun e w'=>e=.returned (.bool (false))/\∃n,w'=w.drewN n):=fun w h1 h2=>by have:=CI.o 4 ⟨#[60]⟩ w rfl (by show 1 < _;decide) h1 h2;rw[hp]at this;exact this
    have HP:=ae hp;clear hp;go_wp2_with (go_at_call 77;refine(ig.o _ HG.o HV.o).mono ?_);rintro e u1 ⟨rfl,n,hn⟩;replace HV:Hd (VS b s i 0 a u1):=by show VS _ _ _ _ _ u1;rw[hn];exact HV.o.drew _
    replace HG:Hd (GR g b u1):=by show GR g b u1;rw[hn];exact HG.o
    replace HD:Hd (DR D u1):=by show DR D u1;rw[hn];exact HD.o
    replace HW:Hd (w.grownBy u1 (some b)):=by show w.grownBy u1 (some b);rw[hn];exact aF HW.o _
    clear hn d0;go_wp2;go_roundw
    case rel=>exact⟨5,rfl,by omega,by omega,fun m h1 h2=>by rcases Nat.lt_succ_iff_lt_or_eq.1 h2 with h|h;exact aU.o m h1 h;rw[h];exact HP.o,HV.o,HG.o,HD.o,HW.o⟩
    case measure=>simp[intOf]
  ·have d0:wr.cell? ⟨D,5,none⟩=some (.string ⟨#[94]⟩):=by rw[ag (show _=_ from HD.o)];rfl
   cases hp:dF l i 5 with
   | true =>
    have ig:Hd (∀w,GR g b w->VS b s i 0 a w->Calls prog 77 #[.pointer (some ⟨g,0,none⟩),.string ⟨#[94]⟩] w fun e w'=>e=.returned (.bool (true))/\∃n,w'=w.drewN n):=fun w h1 h2=>by have:=CI.o 5 ⟨#[94]⟩ w rfl (by show 1 < _;decide) h1 h2;rw[hp]at this;exact this
    have HP:=ae hp;clear hp;go_wp2_with (go_at_call 77;refine(ig.o _ HG.o HV.o).mono ?_);rintro e u1 ⟨rfl,n,hn⟩;replace HV:Hd (VS b s i 0 a u1):=by show VS _ _ _ _ _ u1;rw[hn];exact HV.o.drew _
    replace HG:Hd (GR g b u1):=by show GR g b u1;rw[hn];exact HG.o
    replace HD:Hd (DR D u1):=by show DR D u1;rw[hn];exact HD.o
    replace HW:Hd (w.grownBy u1 (some b)):=by show w.grownBy u1 (some b);rw[hn];exact aF HW.o _
    clear hn d0;have dU:=ae (acS l i (aU.o 1 (by omega) (by omega)) (aU.o 2 (by omega) (by omega)) (aU.o 3 (by omega) (by omega)) (aU.o 4 (by omega) (by omega)) HP.o);obtain⟨rfl,rfl⟩:sg=5/\j=i+1:=by have:=dW.o.symm.trans dU.o;simpa using this
    have e0:u1.cell? ⟨g,0,none⟩=some (.pointer (some ⟨b,0,none⟩)):=HG.o;have e1:=HV.o.c1;have ef:=HV.o.f1;have e2:u1.cell? ⟨D,5,none⟩=some (.string ⟨#[94]⟩):=by rw[ag (show _=_ from HD.o)];rfl
    have hwr:IntKind.i64.wrap ((i:Int)+1)=(i:Int)+1:=by rw[IntKind.wrap_i64];have:=jf.o;omega
    go_wp2_with (fail)
    go_region
    have dZ:Hd (VS b s (i+1) 0 a (u1.setCell ⟨b,1,none⟩ (.int .i64 ((i:Int)+1))).drew):=by show VS b s (i+1) 0 a (u1.setCell ⟨b,1,none⟩ (.int .i64 ((i:Int)+1)));rw[show((i:Int)+1)=((i+1:Nat):Int) by omega];exact HV.o.set1 _
    have nN:Hd (w.grownBy (u1.setCell ⟨b,1,none⟩ (.int .i64 ((i:Int)+1))).drew (some b)):=rP (bF HW.o _ _);clear e0 e1 e2 ef hwr;go_wp2;go_ret;exact⟨rfl,dZ.o,nN.o⟩
   | false =>
    have ig:Hd (∀w,GR g b w->VS b s i 0 a w->Calls prog 77 #[.pointer (some ⟨g,0,none⟩),.string ⟨#[94]⟩] w fun e w'=>e=.returned (.bool (false))/\∃n,w'=w.drewN n):=fun w h1 h2=>by have:=CI.o 5 ⟨#[94]⟩ w rfl (by show 1 < _;decide) h1 h2;rw[hp]at this;exact this
    have HP:=ae hp;clear hp;go_wp2_with (go_at_call 77;refine(ig.o _ HG.o HV.o).mono ?_);rintro e u1 ⟨rfl,n,hn⟩;replace HV:Hd (VS b s i 0 a u1):=by show VS _ _ _ _ _ u1;rw[hn];exact HV.o.drew _
    replace HG:Hd (GR g b u1):=by show GR g b u1;rw[hn];exact HG.o
    replace HD:Hd (DR D u1):=by show DR D u1;rw[hn];exact HD.o
    replace HW:Hd (w.grownBy u1 (some b)):=by show w.grownBy u1 (some b);rw[hn];exact aF HW.o _
    clear hn d0;go_wp2;go_roundw
    case rel=>exact⟨6,rfl,by omega,by omega,fun m h1 h2=>by rcases Nat.lt_succ_iff_lt_or_eq.1 h2 with h|h;exact aU.o m h1 h;rw[h];exact HP.o,HV.o,HG.o,HD.o,HW.o⟩
    case measure=>simp[intOf]
  ·have d0:wr.cell? ⟨D,6,none⟩=some (.string ⟨#[126]⟩):=by rw[ag (show _=_ from HD.o)];rfl
   cases hp:dF l i 6 with
   | true =>
    have ig:Hd (∀w,GR g b w->VS b s i 0 a w->Calls prog 77 #[.pointer (some ⟨g,0,none⟩),.string ⟨#[126]⟩] w fun e w'=>e=.returned (.bool (true))/\∃n,w'=w.drewN n):=fun w h1 h2=>by have:=CI.o 6 ⟨#[126]⟩ w rfl (by show 1 < _;decide) h1 h2;rw[hp]at this;exact this
    have HP:=ae hp;clear hp;go_wp2_with (go_at_call 77;refine(ig.o _ HG.o HV.o).mono ?_);rintro e u1 ⟨rfl,n,hn⟩;replace HV:Hd (VS b s i 0 a u1):=by show VS _ _ _ _ _ u1;rw[hn];exact HV.o.drew _
    replace HG:Hd (GR g b u1):=by show GR g b u1;rw[hn];exact HG.o
    replace HD:Hd (DR D u1):=by show DR D u1;rw[hn];exact HD.o
    replace HW:Hd (w.grownBy u1 (some b)):=by show w.grownBy u1 (some b);rw[hn];exact aF HW.o _
    clear hn d0;have dU:=ae (acT l i (aU.o 1 (by omega) (by omega)) (aU.o 2 (by omega) (by omega)) (aU.o 3 (by omega) (by omega)) (aU.o 4 (by omega) (by omega)) (aU.o 5 (by omega) (by omega)) HP.o);obtain⟨rfl,rfl⟩:sg=6/\j=i+1:=by have:=dW.o.symm.trans dU.o;simpa using this
    have e0:u1.cell? ⟨g,0,none⟩=some (.pointer (some ⟨b,0,none⟩)):=HG.o;have e1:=HV.o.c1;have ef:=HV.o.f1;have e2:u1.cell? ⟨D,6,none⟩=some (.string ⟨#[126]⟩):=by rw[ag (show _=_ from HD.o)];rfl
    have hwr:IntKind.i64.wrap ((i:Int)+1)=(i:Int)+1:=by rw[IntKind.wrap_i64];have:=jf.o;omega
    go_wp2_with (fail)
    go_region
    have dZ:Hd (VS b s (i+1) 0 a (u1.setCell ⟨b,1,none⟩ (.int .i64 ((i:Int)+1))).drew):=by show VS b s (i+1) 0 a (u1.setCell ⟨b,1,none⟩ (.int .i64 ((i:Int)+1)));rw[show((i:Int)+1)=((i+1:Nat):Int) by omega];exact HV.o.set1 _
    have nN:Hd (w.grownBy (u1.setCell ⟨b,1,none⟩ (.int .i64 ((i:Int)+1))).drew (some b)):=rP (bF HW.o _ _);clear e0 e1 e2 ef hwr;go_wp2;go_ret;exact⟨rfl,dZ.o,nN.o⟩
   | false =>
    have ig:Hd (∀w,GR g b w->VS b s i 0 a w->Calls prog 77 #[.pointer (some ⟨g,0,none⟩),.string ⟨#[126]⟩] w fun e w'=>e=.returned (.bool (false))/\∃n,w'=w.drewN n):=fun w h1 h2=>by have:=CI.o 6 ⟨#[126]⟩ w rfl (by show 1 < _;decide) h1 h2;rw[hp]at this;exact this
    have HP:=ae hp;clear hp;go_wp2_with (go_at_call 77;refine(ig.o _ HG.o HV.o).mono ?_);rintro e u1 ⟨rfl,n,hn⟩;replace HV:Hd (VS b s i 0 a u1):=by show VS _ _ _ _ _ u1;rw[hn];exact HV.o.drew _
    replace HG:Hd (GR g b u1):=by show GR g b u1;rw[hn];exact HG.o
    replace HD:Hd (DR D u1):=by show DR D u1;rw[hn];exact HD.o
    replace HW:Hd (w.grownBy u1 (some b)):=by show w.grownBy u1 (some b);rw[hn];exact aF HW.o _
    clear hn d0;go_wp2;go_roundw
    case rel=>exact⟨7,rfl,by omega,by omega,fun m h1 h2=>by rcases Nat.lt_succ_iff_lt_or_eq.1 h2 with h|h;exact aU.o m h1 h;rw[h];exact HP.o,HV.o,HG.o,HD.o,HW.o⟩
    case measure=>simp[intOf]
  ·have d0:wr.cell? ⟨D,0,none⟩=some (.string ⟨#[61]⟩):=by rw[ag (show _=_ from HD.o)];rfl
   cases hp:dF l i 0 with
   | true =>
    have ig:Hd (∀w,GR g b w->VS b s i 0 a w->Calls prog 77 #[.pointer (some ⟨g,0,none⟩),.string ⟨#[61]⟩] w fun e w'=>e=.returned (.bool (true))/\∃n,w'=w.drewN n):=fun w h1 h2=>by have:=CI.o 0 ⟨#[61]⟩ w rfl (by show 1 < _;decide) h1 h2;rw[hp]at this;exact this
    have HP:=ae hp;clear hp;go_wp2_with (go_at_call 77;refine(ig.o _ HG.o HV.o).mono ?_);rintro e u1 ⟨rfl,n,hn⟩;replace HV:Hd (VS b s i 0 a u1):=by show VS _ _ _ _ _ u1;rw[hn];exact HV.o.drew _
    replace HG:Hd (GR g b u1):=by show GR g b u1;rw[hn];exact HG.o
    replace HD:Hd (DR D u1):=by show DR D u1;rw[hn];exact HD.o
    replace HW:Hd (w.grownBy u1 (some b)):=by show w.grownBy u1 (some b);rw[hn];exact aF HW.o _
    clear hn d0;have dU:=ae (acU l i (aU.o 1 (by omega) (by omega)) (aU.o 2 (by omega) (by omega)) (aU.o 3 (by omega) (by omega)) (aU.o 4 (by omega) (by omega)) (aU.o 5 (by omega) (by omega)) (aU.o 6 (by omega) (by omega)) HP.o);obtain⟨rfl,rfl⟩:sg=0/\j=i+1:=by have:=dW.o.symm.trans dU.o;simpa using this
    have e0:u1.cell? ⟨g,0,none⟩=some (.pointer (some ⟨b,0,none⟩)):=HG.o;have e1:=HV.o.c1;have ef:=HV.o.f1;have e2:u1.cell? ⟨D,0,none⟩=some (.string ⟨#[61]⟩):=by rw[ag (show _=_ from HD.o)];rfl
    have hwr:IntKind.i64.wrap ((i:Int)+1)=(i:Int)+1:=by rw[IntKind.wrap_i64];have:=jf.o;omega
    go_wp2_with (fail)
    go_region
    have dZ:Hd (VS b s (i+1) 0 a (u1.setCell ⟨b,1,none⟩ (.int .i64 ((i:Int)+1))).drew):=by show VS b s (i+1) 0 a (u1.setCell ⟨b,1,none⟩ (.int .i64 ((i:Int)+1)));rw[show((i:Int)+1)=((i+1:Nat):Int) by omega];exact HV.o.set1 _
    have nN:Hd (w.grownBy (u1.setCell ⟨b,1,none⟩ (.int .i64 ((i:Int)+1))).drew (some b)):=rP (bF HW.o _ _);clear e0 e1 e2 ef hwr;go_wp2;go_ret;exact⟨rfl,dZ.o,nN.o⟩
   | false =>
    have ig:Hd (∀w,GR g b w->VS b s i 0 a w->Calls prog 77 #[.pointer (some ⟨g,0,none⟩),.string ⟨#[61]⟩] w fun e w'=>e=.returned (.bool (false))/\∃n,w'=w.drewN n):=fun w h1 h2=>by have:=CI.o 0 ⟨#[61]⟩ w rfl (by show 1 < _;decide) h1 h2;rw[hp]at this;exact this
    have HP:=ae hp;clear hp;go_wp2_with (go_at_call 77;refine(ig.o _ HG.o HV.o).mono ?_);rintro e u1 ⟨rfl,n,hn⟩;replace HV:Hd (VS b s i 0 a u1):=by show VS _ _ _ _ _ u1;rw[hn];exact HV.o.drew _
    replace HG:Hd (GR g b u1):=by show GR g b u1;rw[hn];exact HG.o
    replace HD:Hd (DR D u1):=by show DR D u1;rw[hn];exact HD.o
    replace HW:Hd (w.grownBy u1 (some b)):=by show w.grownBy u1 (some b);rw[hn];exact aF HW.o _
    clear hn d0;go_wp2;go_roundw
    case rel=>exact⟨8,rfl,by omega,by omega,fun m h1 h2=>by rcases Nat.lt_succ_iff_lt_or_eq.1 h2 with h|h;exact aU.o m h1 h;rw[h];exact HP.o,HV.o,HG.o,HD.o,HW.o⟩
    case measure=>simp[intOf]
  ·have dU:=ae (acV l i (aU.o 1 (by omega) (by omega)) (aU.o 2 (by omega) (by omega)) (aU.o 3 (by omega) (by omega)) (aU.o 4 (by omega) (by omega)) (aU.o 5 (by omega) (by omega)) (aU.o 6 (by omega) (by omega)) (aU.o 7 (by omega) (by omega)));obtain⟨rfl,rfl⟩:sg=-1/\j=i:=by have:=dW.o.symm.trans dU.o;simpa using this
   go_wp2;go_ret;exact⟨rfl,HV.o,HW.o⟩
end Go.Proofs.YtapodndfpecglaaGreatDoor
