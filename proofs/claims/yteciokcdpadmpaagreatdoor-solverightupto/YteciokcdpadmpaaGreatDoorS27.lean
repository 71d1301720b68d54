import Derived.Test.YteciokcdpadmpaaGreatDoorS24
set_option linter.all false
set_option maxRecDepth 100000
set_option maxHeartbeats 0
open Go.Proofs.Tryz
namespace Go.Proofs.YteciokcdpadmpaaGreatDoor
open Go.RowKit
def Gi(w:World)(A:Nat)(m y1 y2 y3:Int)(x4 x5:ByteArray):World:=(((((w.setCell ⟨A,0,none⟩ (.int .i64 m)).setCell ⟨A,1,none⟩ (.int .i64 y1)).setCell ⟨A,2,none⟩ (.int .i64 y2)).setCell ⟨A,3,none⟩ (.int .i64 y3)).setCell ⟨A,4,none⟩ (.string x4)).setCell ⟨A,5,none⟩ (.string x5)
theorem rZ{w:World}{A:Nat}{n z1 z2 z3:Int}{z4 z5:ByteArray}(h:VP A n z1 z2 z3 z4 z5 w)(m y1 y2 y3:Int)(x4 x5:ByteArray):VP A m y1 y2 y3 x4 x5 (Gi w A m y1 y2 y3 x4 x5):=by
 unfold VP at h ⊢;simp[Gi,World.setCell,Array.getElem?_modify,h]
theorem su{b A:Nat}{s:ByteArray}{j:Nat}{E:Int}{a:Nat}{w:World}(h:VS b s j E a w)(hn:b≠A)(m y1 y2 y3:Int)(x4 x5:ByteArray):VS b s j E a (Gi w A m y1 y2 y3 x4 x5):=(((((h.other hn _ _).other hn _ _).other hn _ _).other hn _ _).other hn _ _).other hn _ _
theorem sD{b A:Nat}{w W:World}(h:w.grownBy W (some b))(hA:w.heap.size<=A)(m y1 y2 y3:Int)(x4 x5:ByteArray):w.grownBy (Gi W A m y1 y2 y3 x4 x5) (some b):=bu (bu (bu (bu (bu (bu h hA _ _) hA _ _) hA _ _) hA _ _) hA _ _) hA _ _
theorem G2.gb{b v:Nat}{w u u':World}(h:w.grownBy u (some b))(hv:w.heap.size<=v)(hg:G2 b v u u'):w.grownBy u' (some b) :=
 ⟨hg.os.trans h.os,hg.tape.trans h.tape,hg.output.trans h.output,Nat.le_trans h.size hg.size,fun k hk hn=>(hg.block k (Nat.lt_of_lt_of_le hk h.size) (by simpa using hn) (by omega)).trans (h.block k hk hn)⟩
theorem G2.vp{b v A:Nat}{u u':World}{n z1 z2 z3:Int}{z4 z5:ByteArray}(h:VP A n z1 z2 z3 z4 z5 u)(hg:G2 b v u u')(h1:A≠b)(h2:A≠v):VP A n z1 z2 z3 z4 z5 u':=by
 unfold VP at h ⊢;rw[hg.block A ((aB h)) h1 h2];exact h
theorem G2.gr{b v g:Nat}{u u':World}(h:GR g b u)(hg:G2 b v u u')(h1:g≠b)(h2:g≠v)(hl:g<u.heap.size):GR g b u':=by
 unfold GR at h ⊢;unfold World.cell? at h ⊢;rw[hg.block g hl h1 h2];exact h
theorem GR.lt{g b:Nat}{w:World}(h:GR g b w):g<w.heap.size:=cell_lt h
def Tj(b:Nat)(s:ByteArray)(R:Int × Nat × Pa)(w:World)(e:Ending)(w':World):Prop :=
 ∃(m y1 y2 y3:Int) (P Q:ByteArray) (j:Nat) (c:Nat),e=.returned (.agg #[.int .i64 m,.int .i64 y1,.int .i64 y2,.int .i64 y3,.string P,.string Q])/\VS b s j R.1 c w'/\w.grownBy w' (some b)/\(R.1=0->j=R.2.1/\m=(R.2.2.n:Int)/\y1=R.2.2.a/\y2=R.2.2.b/\y3=R.2.2.c/\P=⟨R.2.2.pre.toArray⟩)/\(¬R.1=0->c=R.2.1)
def Tm(b:Nat)(s:ByteArray)(E:Int)(a:Nat)(w:World)(e:Ending)(w':World):Prop :=
 ∃(m y1 y2 y3:Int) (P Q:ByteArray) (j:Nat),e=.returned (.agg #[.int .i64 m,.int .i64 y1,.int .i64 y2,.int .i64 y3,.string P,.string Q])/\VS b s j E a w'/\w.grownBy w' (some b)/\j<=s.size
theorem ac1(g b:Nat)(s:ByteArray)(i:Nat)(E:Int)(a:Nat)(w:World)(hE:¬E=0)(hi:i<=s.size)(hgb:g≠b)(hg:GR g b w)(h:VS b s i E a w)(hs:s.size<2 ^ 61) :
  Calls prog 121 #[.pointer (some ⟨g,0,none⟩)] w (Tm b s E a w):=by
 have HG:=ae hg;have HV:=ae h;have HB0:Hd (b<w.heap.size/\g<w.heap.size/\g≠b):=⟨(aB h),GR.lt hg,hgb⟩;have CW:=ae (fun w (h1:GR g b w) (h2:VS b s i E a w)=>aci g b s i E a w hE h1 h2);have CN:=ae (fun w (h1:VS b s i E a w)=>acd b s i E hE a w hi h1 (by omega));have CI:=ae (fun j t w (h1:GR g b w) (h2:VS b s j E a w)=>Dx g b s t j E a w hE h1 h2);clear h hg hgb hE hs hi;go_enter func121,ntmps121;go_wp2_with (fail);obtain⟨A,hA⟩:=zN (w.heap.size);obtain⟨W,hW⟩:=zN ((w.alloc (.cells #[.int .i64 0,.int .i64 0,.int .i64 0,.int .i64 0,.string ⟨#[]⟩,.string ⟨#[]⟩] 166)).alloc (.cells #[.int .i64 0,.int .i64 0,.int .i64 0,.int .i64 0,.string ⟨#[]⟩,.string ⟨#[]⟩] 166));have hgW:w.grownBy W none:=by rw[<-hW];exact aj (aj (ak w none) _) _
 have aF:Hd (VP A 0 0 0 0 ⟨#[]⟩ ⟨#[]⟩ W):=by
  show VP A 0 0 0 0 _ _ W;unfold VP;rw[<-hW,<-hA,Lib.alloc_old _ _ _ (by simp)];exact heap_alloc_new w _
 have aH:Hd (VP (A+1) 0 0 0 0 ⟨#[]⟩ ⟨#[]⟩ W):=by
  show VP (A+1) 0 0 0 0 _ _ W;unfold VP;rw[<-hW,<-hA];exact mr w _ _
 have ai:Hd (b≠A/\b≠A+1/\g≠A/\g≠A+1/\g≠b/\A≠A+1/\A≠b/\A+1≠b/\w.heap.size<=A/\w.heap.size<=A+1):=by have:=HB0.o;refine⟨?_,?_,?_,?_,?_,?_,?_,?_,?_,?_⟩<;>omega
 replace HG:=ae (HG.o.grow hgW);replace HV:Hd (VS b s i E a W):=by show W.heap[b]?=_;rw[hgW.block b HB0.o.1 (by simp)];exact HV.o
 have HW:Hd (w.grownBy W (some b)):=bH hgW _
 try rw[hW]
 try rw[hA]
 clear hgW hW hA;go_wp2_with (go_at_call 150;refine(CW.o _ HG.o HV.o).mono ?_);rintro e u1 ⟨rfl,n,hn⟩;replace HV:Hd (VS b s (i) E a u1):=by show VS _ _ _ _ _ u1;rw[hn];exact HV.o.drew _
 replace HG:Hd (GR g b u1):=by show GR g b u1;rw[hn];exact HG.o
 replace aF:Hd (VP A 0 0 0 0 ⟨#[]⟩ ⟨#[]⟩ u1):=by show VP A _ _ _ _ _ _ u1;rw[hn];exact aF.o
 replace aH:Hd (VP (A+1) 0 0 0 0 ⟨#[]⟩ ⟨#[]⟩ u1):=by show VP _ _ _ _ _ _ _ u1;rw[hn];exact aH.o
 replace HW:Hd (w.grownBy u1 (some b)):=by show w.grownBy u1 (some b);rw[hn];exact aG HW.o _
 clear hn;have g0:u1.cell? ⟨g,0,none⟩=some (.pointer (some ⟨b,0,none⟩)):=HG.o;go_wp2_with (go_at_call 69;refine(CN.o _ HV.o).mono ?_);rintro e u2 ⟨v,j,rfl,hv,hg,hj⟩;have HJ:=ae hj;replace HV:=ae hv;replace HG:=ae (HG.o.growb hg ai.o.2.2.2.2.1);replace aF:=ae (aF.o.grow hg ai.o.2.2.2.2.2.2.1);replace aH:=ae (aH.o.grow hg ai.o.2.2.2.2.2.2.2.1);replace HW:=ae (ag HW.o hg);clear hv hg;clear hj g0;obtain⟨c0,c1,c2,c3,c4,c5⟩:=aH.o.cells;have cf:=aH.o.f;go_wp2_with (go_at_call 95;refine(CI.o j _ _ ((HG.o.other ai.o.2.2.2.1 _ _).other ai.o.2.2.2.1 _ _) ((HV.o.other ai.o.2.1 _ _).other ai.o.2.1 _ _)).mono ?_);rintro e u3 ⟨rfl,n,hn⟩;replace HV:Hd (VS b s j E a u3):=by show VS _ _ _ _ _ u3;rw[hn];exact(((HV.o.other ai.o.2.1 _ _).other ai.o.2.1 _ _)).drew _
 replace aF:Hd (VP A 0 0 0 0 ⟨#[]⟩ ⟨#[]⟩ u3):=by show VP A _ _ _ _ _ _ u3;rw[hn];exact(aF.o.other ai.o.2.2.2.2.2.1 _ _).other ai.o.2.2.2.2.2.1 _ _
 replace aH:Hd (VP (A+1) 1 v 0 0 ⟨#[]⟩ ⟨#[]⟩ u3):=by show VP _ _ _ _ _ _ _ u3;rw[hn];exact(aH.o.set0 _).setN _
 replace HW:Hd (w.grownBy u3 (some b)):=by show w.grownBy u3 (some b);rw[hn];exact aG (bu (bu HW.o ai.o.2.2.2.2.2.2.2.2.2 _ _) ai.o.2.2.2.2.2.2.2.2.2 _ _) _
 clear hn c0 c1 c2 c3 c4 c5 cf;obtain⟨a0,a1,a2,a3,a4,a5⟩:=aF.o.cells;have af:=aF.o.f;obtain⟨c0,c1,c2,c3,c4,c5⟩:=aH.o.cells;have cf:=aH.o.f;obtain⟨n1,n2,n3,n4,n5,n6,n7,n8,n9,n10⟩:=ai.o;clear n9 n10;go_wp2;have hrow:=rZ (w:=u3) aF.o 1 v 0 0 ⟨#[]⟩ ⟨#[]⟩;exact bodyPost_ret (results_cell_row rfl _ _ A _ _ (0,0) _ rfl hrow underlying166 rfl (by kernel_rfl)) rfl ⟨1,v,0,0,⟨#[]⟩,⟨#[]⟩,j,rfl,su HV.o ai.o.1 _ _ _ _ _ _,sD HW.o ai.o.2.2.2.2.2.2.2.2.1 _ _ _ _ _ _,HJ.o⟩
theorem ac2(g b:Nat)(s:ByteArray)(i:Nat)(a:Nat)(w:World)(hi:i<=s.size)(hgb:g≠b)(hg:GR g b w)(h:VS b s i 0 a w)(hs:s.size<2 ^ 61) :
  Calls prog 121 #[.pointer (some ⟨g,0,none⟩)] w (Tj b s (ay s.data.toList i) w):=by
 have HG:=ae hg;have HV:=ae h;have HB0:Hd (b<w.heap.size/\g<w.heap.size/\g≠b):=⟨(aB h),GR.lt hg,hgb⟩;have CW:=ae (fun i a w (hi:i<=s.size) (h1:GR g b w) (h2:VS b s i 0 a w)=>acj g b s i a w hi hgb h1 h2 hs);have CN:=ae (fun i a w (hi:i<=s.size) (h1:VS b s i 0 a w)=>Pg b s i a w hi h1 (by omega));have CI:=ae (fun i c w (hi:i<=s.size) (h1:GR g b w) (h2:VS b s i 0 c w)=>F9 g b s i 46 c w hi h1 h2 hs);have Gj:Hd (∀(i:Nat) (E:Int) (c:Nat) w,¬E=0->GR g b w->VS b s i E c w->Calls prog 95 #[.pointer (some ⟨g,0,none⟩),.string ⟨#[46]⟩] w fun e w'=>e=.returned (.bool (false))/\∃n,w'=w.drewN n):=fun i E c w hE h1 h2=>Dx g b s _ i E c w hE h1 h2
 have CT:=ae (fun(v:Nat) (i:Nat) (c:Nat) (m:Int) (y1:Int) (y2:Int) (y3:Int) w (hi:i<=s.size) (h1:VS b s i 0 c w) (h2:VP v m y1 y2 y3 ⟨#[]⟩ ⟨#[]⟩ w) (h3:b≠v)=>acl b v s i c m y1 y2 y3 w hi h1 h2 h3 (by omega));have CTL:Hd (∀(v:Nat) (i:Nat) (E:Int) (c:Nat) w,¬E=0->VS b s i E c w->Calls prog 71 #[.pointer (some ⟨b,0,none⟩),.pointer (some ⟨v,1,none⟩)] w fun e w'=>e=.returned (.tuple #[])/\∃n,w'=w.drewN n):=fun v i E c w hE h1=>ack b v s i E hE c w h1
 obtain⟨l,hl⟩:=zN (s.data.toList);have hll:l.length=s.size:=by rw[<-hl];simp
 have bY:=ae hll;rw[hl]at CW CI ⊢;have KW:Hd (∀i w e w',IZ b s i w e w'->∃(v:Int) (j:Nat) (E:Int) (c:Nat),e=.returned (.int .i64 v)/\VS b s j E c w'/\w.grownBy w' (some b)/\E=(rdNum l i).1/\(E=0->v=(rdNum l i).2.1/\j=(rdNum l i).2.2/\j<=s.size)/\(E≠0->c=(rdNum l i).2.2)):=fun i w e w' h=>by rw[<-hl];exact h
 have bK:Hd (∀(v i:Nat) (m y1 y2 y3:Int) (w w':World),SK b v s i m y1 y2 y3 w w'->∃(j:Nat) (E:Int) (c:Nat) (P B:ByteArray),VS b s j E c w'/\VP v m y1 y2 y3 P B w'/\G2 b v w w'/\E=(aN l i).1/\(E=0->P=⟨(aN l i).2.2.1.toArray⟩/\B=⟨(aN l i).2.2.2.toArray⟩/\j=(aN l i).2.1/\j<=s.size)/\(E≠0->c=(aN l i).2.1)):=fun v i m y1 y2 y3 w w' h=>by rw[<-hl];exact h
 obtain⟨R,hR⟩:=zN (ay l i);rw[hR];have HRk:Hd (R=if eu l i=true then(0,i+1,pa0) else if(rdNum l i).1=0 then jT l (rdNum l i).2.2 (rdNum l i).2.1 else((rdNum l i).1,(rdNum l i).2.2,pa0)):=hR.symm;have vS:Hd (∀i,l[i]?=some 46->i+1<=s.size):=fun i hc=>by have:=kR hc;rw[hll]at this;exact this
 have lU:=ae hi;have jB:=ae hs;clear hl hll hR h hg hgb hs hi;go_enter func121,ntmps121;go_wp2_with (fail);obtain⟨A,hA⟩:=zN (w.heap.size);obtain⟨W,hW⟩:=zN ((w.alloc (.cells #[.int .i64 0,.int .i64 0,.int .i64 0,.int .i64 0,.string ⟨#[]⟩,.string ⟨#[]⟩] 166)).alloc (.cells #[.int .i64 0,.int .i64 0,.int .i64 0,.int .i64 0,.string ⟨#[]⟩,.string ⟨#[]⟩] 166));have hgW:w.grownBy W none:=by rw[<-hW];exact aj (aj (ak w none) _) _
 have aF:Hd (VP A 0 0 0 0 ⟨#[]⟩ ⟨#[]⟩ W):=by
  show VP A 0 0 0 0 _ _ W;unfold VP;rw[<-hW,<-hA,Lib.alloc_old _ _ _ (by simp)];exact heap_alloc_new w _
 have aH:Hd (VP (A+1) 0 0 0 0 ⟨#[]⟩ ⟨#[]⟩ W):=by
  show VP (A+1) 0 0 0 0 _ _ W;unfold VP;rw[<-hW,<-hA];exact mr w _ _
 have ai:Hd (b≠A/\b≠A+1/\g≠A/\g≠A+1/\g≠b/\A≠A+1/\A≠b/\A+1≠b/\w.heap.size<=A/\w.heap.size<=A+1):=by have:=HB0.o;refine⟨?_,?_,?_,?_,?_,?_,?_,?_,?_,?_⟩<;>omega
 replace HG:=ae (HG.o.grow hgW);replace HV:Hd (VS b s i 0 a W):=by show W.heap[b]?=_;rw[hgW.block b HB0.o.1 (by simp)];exact HV.o
 have HW:Hd (w.grownBy W (some b)):=bH hgW _
 try rw[hW]
 try rw[hA]
 clear hgW hW hA;have iy:=ae lU.o
 cases hw0:eu l (i) with
 | true =>
  have HZ:Hd (R=(0,i+1,⟨0,0,0,0,[]⟩)):=by show R=_;rw[HRk.o,if_pos hw0];rfl
  have jc:Hd (∀w,GR g b w->VS b s (i) 0 a w->Calls prog 150 #[.pointer (some ⟨g,0,none⟩)] w fun e w'=>e=.returned (.bool true)/\VS b s (i+1) 0 a w'/\w.grownBy w' (some b)):=fun w h1 h2=>by have:=CW.o (i) a w iy.o h1 h2;rw[hw0]at this;exact this
  clear hw0;go_wp2_with (go_at_call 150;refine(jc.o _ HG.o HV.o).mono ?_);rintro e v0 ⟨rfl,hv,hg⟩;replace HV:=ae hv;replace HG:=ae (HG.o.growb hg ai.o.2.2.2.2.1);replace aF:=ae (aF.o.grow hg ai.o.2.2.2.2.2.2.1);replace aH:=ae (aH.o.grow hg ai.o.2.2.2.2.2.2.2.1);replace HW:=ae (ag HW.o hg);clear hv hg;obtain⟨a0,a1,a2,a3,a4,a5⟩:=aF.o.cells;have af:=aF.o.f;obtain⟨c0,c1,c2,c3,c4,c5⟩:=aH.o.cells;have cf:=aH.o.f;obtain⟨n1,n2,n3,n4,n5,n6,n7,n8,n9,n10⟩:=ai.o;clear n9 n10;go_wp2;have hrow:=rZ (w:=v0) aF.o 0 0 0 0 ⟨#[]⟩ ⟨#[]⟩;exact bodyPost_ret (results_cell_row rfl _ _ A _ _ (0,0) _ rfl hrow underlying166 rfl (by kernel_rfl)) rfl (by rw[HZ.o];exact⟨0,0,0,0,⟨#[]⟩,⟨#[]⟩,i+1,a,rfl,su HV.o ai.o.1 _ _ _ _ _ _,sD HW.o ai.o.2.2.2.2.2.2.2.2.1 _ _ _ _ _ _,fun _=>⟨rfl,rfl,rfl,rfl,rfl,rfl⟩,fun h=>absurd rfl h⟩)
 | false =>
  have Tn:Hd (R=if(rdNum l (i)).1=0 then jT l (rdNum l (i)).2.2 (rdNum l (i)).2.1 else((rdNum l (i)).1,(rdNum l (i)).2.2,pa0)):=by show R=_;rw[HRk.o,if_neg (by rw[hw0];decide)]
  have jc:Hd (∀w,GR g b w->VS b s (i) 0 a w->Calls prog 150 #[.pointer (some ⟨g,0,none⟩)] w fun e w'=>e=.returned (.bool false)/\VS b s (i) 0 a w'/\w.grownBy w' (some b)):=fun w h1 h2=>by have:=CW.o (i) a w iy.o h1 h2;rw[hw0]at this;exact this
  have wK:=ae (fun w (h:VS b s (i) 0 a w)=>CN.o (i) a w iy.o h);clear hw0 HRk;go_wp2_with (go_at_call 150;refine(jc.o _ HG.o HV.o).mono ?_);rintro e v0 ⟨rfl,hv,hg⟩;replace HV:=ae hv;replace HG:=ae (HG.o.growb hg ai.o.2.2.2.2.1);replace aF:=ae (aF.o.grow hg ai.o.2.2.2.2.2.2.1);replace aH:=ae (aH.o.grow hg ai.o.2.2.2.2.2.2.2.1);replace HW:=ae (ag HW.o hg);clear hv hg;have g0:v0.cell? ⟨g,0,none⟩=some (.pointer (some ⟨b,0,none⟩)):=HG.o;go_wp2_with (go_at_call 69;refine(wK.o _ HV.o).mono ?_);intro e z0 qA;obtain⟨x1,j0,E0,d0,rfl,hv,hg,hE,hok,herr⟩:=KW.o _ _ _ _ qA;replace HV:=ae hv;replace HG:=ae (HG.o.growb hg ai.o.2.2.2.2.1);replace aF:=ae (aF.o.grow hg ai.o.2.2.2.2.2.2.1);replace aH:=ae (aH.o.grow hg ai.o.2.2.2.2.2.2.2.1);replace HW:=ae (ag HW.o hg);clear hv hg;have DK:Hd (E0=(rdNum l (i)).1/\(E0=0->x1=(rdNum l (i)).2.1/\j0=(rdNum l (i)).2.2/\j0<=s.size)/\(E0≠0->d0=(rdNum l (i)).2.2)):=⟨hE,hok,herr⟩
  clear qA hE hok herr g0;obtain⟨c0,c1,c2,c3,c4,c5⟩:=aH.o.cells;have cf:=aH.o.f;have g0:z0.cell? ⟨g,0,none⟩=some (.pointer (some ⟨b,0,none⟩)):=HG.o;have n4:=ai.o.2.2.2.1
  by_cases hz0:E0=0
  ·subst hz0;have Tt:=ae ((DK.o.2.1 rfl).2.2);have Tu:Hd (R=jT l j0 x1):=by
    show R=_;have h1:=DK.o.1;obtain⟨e1,e2,_⟩:=DK.o.2.1 rfl;rw[Tn.o,if_pos h1.symm,<-e1,<-e2]
   cases hc0:decide (l[j0]?=some 46) with
   | false =>
    have hc':=of_decide_eq_false hc0;have HZ:Hd (R=(0,j0,⟨1,x1,0,0,[]⟩)):=by show R=_;rw[Tu.o];unfold jT;rw[if_neg hc']
    have oJ:Hd (∀w,GR g b w->VS b s j0 0 d0 w->Calls prog 95 #[.pointer (some ⟨g,0,none⟩),.string ⟨#[46]⟩] w fun e w'=>e=.returned (.bool (false))/\∃n,w'=w.drewN n):=fun w h1 h2=>by have:=CI.o j0 d0 w Tt.o h1 h2;rw[hc0]at this;exact this
    clear hc0 hc';go_wp2_with (go_at_call 95;refine(oJ.o _ ((HG.o.other ai.o.2.2.2.1 _ _).other ai.o.2.2.2.1 _ _) ((HV.o.other ai.o.2.1 _ _).other ai.o.2.1 _ _)).mono ?_);rintro e y0 ⟨rfl,n,hn⟩;replace HV:Hd (VS b s j0 0 d0 y0):=by show VS _ _ _ _ _ y0;rw[hn];exact((HV.o.other ai.o.2.1 _ _).other ai.o.2.1 _ _).drew _
    replace HG:Hd (GR g b y0):=by show GR g b y0;rw[hn];exact(HG.o.other ai.o.2.2.2.1 _ _).other ai.o.2.2.2.1 _ _
    replace aF:Hd (VP A 0 0 0 0 ⟨#[]⟩ ⟨#[]⟩ y0):=by show VP A _ _ _ _ _ _ y0;rw[hn];exact(aF.o.other ai.o.2.2.2.2.2.1 _ _).other ai.o.2.2.2.2.2.1 _ _
    replace aH:Hd (VP (A+1) 1 x1 0 0 ⟨#[]⟩ ⟨#[]⟩ y0):=by show VP _ _ _ _ _ _ _ y0;rw[hn];exact(aH.o.set0 _).setN _
    replace HW:Hd (w.grownBy y0 (some b)):=by show w.grownBy y0 (some b);rw[hn];exact aG (bu (bu HW.o ai.o.2.2.2.2.2.2.2.2.2 _ _) ai.o.2.2.2.2.2.2.2.2.2 _ _) _
    clear hn c0 c1 c2 c3 c4 c5 cf g0 n4;obtain⟨a0,a1,a2,a3,a4,a5⟩:=aF.o.cells;have af:=aF.o.f;obtain⟨c0,c1,c2,c3,c4,c5⟩:=aH.o.cells;have cf:=aH.o.f;obtain⟨n1,n2,n3,n4,n5,n6,n7,n8,n9,n10⟩:=ai.o;clear n9 n10;go_wp2;have hrow:=rZ (w:=y0) aF.o 1 x1 0 0 ⟨#[]⟩ ⟨#[]⟩;exact bodyPost_ret (results_cell_row rfl _ _ A _ _ (0,0) _ rfl hrow underlying166 rfl (by kernel_rfl)) rfl (by rw[HZ.o];exact⟨1,x1,0,0,⟨#[]⟩,⟨#[]⟩,j0,d0,rfl,su HV.o ai.o.1 _ _ _ _ _ _,sD HW.o ai.o.2.2.2.2.2.2.2.2.1 _ _ _ _ _ _,fun _=>⟨rfl,rfl,rfl,rfl,rfl,rfl⟩,fun h=>absurd rfl h⟩)
   | true =>
    have hc':=of_decide_eq_true hc0;have HRk:Hd (R=if eu l (j0+1)=true then(0,j0+1+1,⟨1,x1,0,0,[]⟩) else if(rdNum l (j0+1)).1=0 then jS l (rdNum l (j0+1)).2.2 x1 (rdNum l (j0+1)).2.1 else((rdNum l (j0+1)).1,(rdNum l (j0+1)).2.2,pa0)):=by show R=_;rw[Tu.o];unfold jT;rw[if_pos hc']
    have qi:=ae (vS.o _ hc');have hwr:IntKind.i64.wrap ((j0:Int)+1)=((j0+1:Nat):Int):=by rw[IntKind.wrap_i64];have:=qi.o;have:=jB.o;omega
    have oJ:Hd (∀w,GR g b w->VS b s j0 0 d0 w->Calls prog 95 #[.pointer (some ⟨g,0,none⟩),.string ⟨#[46]⟩] w fun e w'=>e=.returned (.bool (true))/\∃n,w'=w.drewN n):=fun w h1 h2=>by have:=CI.o j0 d0 w Tt.o h1 h2;rw[hc0]at this;exact this
    clear hc0 hc';go_wp2_with (go_at_call 95;refine(oJ.o _ ((HG.o.other ai.o.2.2.2.1 _ _).other ai.o.2.2.2.1 _ _) ((HV.o.other ai.o.2.1 _ _).other ai.o.2.1 _ _)).mono ?_);rintro e y0 ⟨rfl,n,hn⟩;replace HV:Hd (VS b s j0 0 d0 y0):=by show VS _ _ _ _ _ y0;rw[hn];exact((HV.o.other ai.o.2.1 _ _).other ai.o.2.1 _ _).drew _
    replace HG:Hd (GR g b y0):=by show GR g b y0;rw[hn];exact(HG.o.other ai.o.2.2.2.1 _ _).other ai.o.2.2.2.1 _ _
    replace aF:Hd (VP A 0 0 0 0 ⟨#[]⟩ ⟨#[]⟩ y0):=by show VP A _ _ _ _ _ _ y0;rw[hn];exact(aF.o.other ai.o.2.2.2.2.2.1 _ _).other ai.o.2.2.2.2.2.1 _ _
    replace aH:Hd (VP (A+1) 1 x1 0 0 ⟨#[]⟩ ⟨#[]⟩ y0):=by show VP _ _ _ _ _ _ _ y0;rw[hn];exact(aH.o.set0 _).setN _
    replace HW:Hd (w.grownBy y0 (some b)):=by show w.grownBy y0 (some b);rw[hn];exact aG (bu (bu HW.o ai.o.2.2.2.2.2.2.2.2.2 _ _) ai.o.2.2.2.2.2.2.2.2.2 _ _) _
    clear hn c0 c1 c2 c3 c4 c5 cf g0 n4;have b1:=HV.o.c1;have bf:=HV.o.f1;have g0:y0.cell? ⟨g,0,none⟩=some (.pointer (some ⟨b,0,none⟩)):=HG.o;go_wp2_with (fail);obtain⟨q0,hq⟩:=zN (y0.setCell ⟨b,1,none⟩ (.int .i64 ((j0:Int)+1)));replace HV:Hd (VS b s (j0+1) 0 d0 q0):=by show VS _ _ _ _ _ q0;rw[<-hq,show((j0:Int)+1)=((j0+1:Nat):Int) by omega];exact HV.o.set1 _
    replace HG:Hd (GR g b q0):=by show GR g b q0;rw[<-hq];exact HG.o.other ai.o.2.2.2.2.1 _ _
    replace aF:Hd (VP A 0 0 0 0 ⟨#[]⟩ ⟨#[]⟩ q0):=by show VP A _ _ _ _ _ _ q0;rw[<-hq];exact aF.o.other ai.o.2.2.2.2.2.2.1 _ _
    replace aH:Hd (VP (A+1) 1 x1 0 0 ⟨#[]⟩ ⟨#[]⟩ q0):=by show VP _ _ _ _ _ _ _ q0;rw[<-hq];exact aH.o.other ai.o.2.2.2.2.2.2.2.1 _ _
    replace HW:Hd (w.grownBy q0 (some b)):=by show w.grownBy q0 (some b);rw[<-hq];exact aW HW.o _ _
    try rw[hq]
    clear hq b1 bf g0 hwr
    cases hw1:eu l (j0+1) with
    | true =>
     have HZ:Hd (R=(0,j0+1+1,⟨1,x1,0,0,[]⟩)):=by show R=_;rw[HRk.o,if_pos hw1]
     have jc:Hd (∀w,GR g b w->VS b s (j0+1) 0 d0 w->Calls prog 150 #[.pointer (some ⟨g,0,none⟩)] w fun e w'=>e=.returned (.bool true)/\VS b s (j0+1+1) 0 d0 w'/\w.grownBy w' (some b)):=fun w h1 h2=>by have:=CW.o (j0+1) d0 w qi.o h1 h2;rw[hw1]at this;exact this
     clear hw1;refine(jc.o _ HG.o HV.o).mono ?_;rintro e v1 ⟨rfl,hv,hg⟩;replace HV:=ae hv;replace HG:=ae (HG.o.growb hg ai.o.2.2.2.2.1);replace aF:=ae (aF.o.grow hg ai.o.2.2.2.2.2.2.1);replace aH:=ae (aH.o.grow hg ai.o.2.2.2.2.2.2.2.1);replace HW:=ae (ag HW.o hg);clear hv hg;obtain⟨a0,a1,a2,a3,a4,a5⟩:=aF.o.cells;have af:=aF.o.f;obtain⟨c0,c1,c2,c3,c4,c5⟩:=aH.o.cells;have cf:=aH.o.f;obtain⟨n1,n2,n3,n4,n5,n6,n7,n8,n9,n10⟩:=ai.o;clear n9 n10;go_wp2;have hrow:=rZ (w:=v1) aF.o 1 x1 0 0 ⟨#[]⟩ ⟨#[]⟩;exact bodyPost_ret (results_cell_row rfl _ _ A _ _ (0,0) _ rfl hrow underlying166 rfl (by kernel_rfl)) rfl (by rw[HZ.o];exact⟨1,x1,0,0,⟨#[]⟩,⟨#[]⟩,j0+1+1,d0,rfl,su HV.o ai.o.1 _ _ _ _ _ _,sD HW.o ai.o.2.2.2.2.2.2.2.2.1 _ _ _ _ _ _,fun _=>⟨rfl,rfl,rfl,rfl,rfl,rfl⟩,fun h=>absurd rfl h⟩)
    | false =>
     have Tv:Hd (R=if(rdNum l (j0+1)).1=0 then jS l (rdNum l (j0+1)).2.2 x1 (rdNum l (j0+1)).2.1 else((rdNum l (j0+1)).1,(rdNum l (j0+1)).2.2,pa0)):=by show R=_;rw[HRk.o,if_neg (by rw[hw1];decide)]
     have jc:Hd (∀w,GR g b w->VS b s (j0+1) 0 d0 w->Calls prog 150 #[.pointer (some ⟨g,0,none⟩)] w fun e w'=>e=.returned (.bool false)/\VS b s (j0+1) 0 d0 w'/\w.grownBy w' (some b)):=fun w h1 h2=>by have:=CW.o (j0+1) d0 w qi.o h1 h2;rw[hw1]at this;exact this
     have wK:=ae (fun w (h:VS b s (j0+1) 0 d0 w)=>CN.o (j0+1) d0 w qi.o h);clear hw1 HRk;refine(jc.o _ HG.o HV.o).mono ?_;rintro e v1 ⟨rfl,hv,hg⟩;replace HV:=ae hv;replace HG:=ae (HG.o.growb hg ai.o.2.2.2.2.1);replace aF:=ae (aF.o.grow hg ai.o.2.2.2.2.2.2.1);replace aH:=ae (aH.o.grow hg ai.o.2.2.2.2.2.2.2.1);replace HW:=ae (ag HW.o hg);clear hv hg;have g0:v1.cell? ⟨g,0,none⟩=some (.pointer (some ⟨b,0,none⟩)):=HG.o;go_wp2_with (go_at_call 69;refine(wK.o _ HV.o).mono ?_);intro e z1 qA;obtain⟨x2,j1,E1,d1,rfl,hv,hg,hE,hok,herr⟩:=KW.o _ _ _ _ qA;replace HV:=ae hv;replace HG:=ae (HG.o.growb hg ai.o.2.2.2.2.1);replace aF:=ae (aF.o.grow hg ai.o.2.2.2.2.2.2.1);replace aH:=ae (aH.o.grow hg ai.o.2.2.2.2.2.2.2.1);replace HW:=ae (ag HW.o hg);clear hv hg;have DL:Hd (E1=(rdNum l (j0+1)).1/\(E1=0->x2=(rdNum l (j0+1)).2.1/\j1=(rdNum l (j0+1)).2.2/\j1<=s.size)/\(E1≠0->d1=(rdNum l (j0+1)).2.2)):=⟨hE,hok,herr⟩
     clear qA hE hok herr g0;obtain⟨c0,c1,c2,c3,c4,c5⟩:=aH.o.cells;have cf:=aH.o.f;have g0:z1.cell? ⟨g,0,none⟩=some (.pointer (some ⟨b,0,none⟩)):=HG.o;have n4:=ai.o.2.2.2.1
     by_cases hz1:E1=0
     ·subst hz1;have Tz:=ae ((DL.o.2.1 rfl).2.2);have TA:Hd (R=jS l j1 x1 x2):=by
       show R=_;have h1:=DL.o.1;obtain⟨e1,e2,_⟩:=DL.o.2.1 rfl;rw[Tv.o,if_pos h1.symm,<-e1,<-e2]
      cases hc1:decide (l[j1]?=some 46) with
      | false =>
       have hc':=of_decide_eq_false hc1;have HZ:Hd (R=(0,j1,⟨2,x1,x2,0,[]⟩)):=by show R=_;rw[TA.o];unfold jS;rw[if_neg hc']
       have oJ:Hd (∀w,GR g b w->VS b s j1 0 d1 w->Calls prog 95 #[.pointer (some ⟨g,0,none⟩),.string ⟨#[46]⟩] w fun e w'=>e=.returned (.bool (false))/\∃n,w'=w.drewN n):=fun w h1 h2=>by have:=CI.o j1 d1 w Tz.o h1 h2;rw[hc1]at this;exact this
       clear hc1 hc';go_wp2_with (go_at_call 95;refine(oJ.o _ ((HG.o.other ai.o.2.2.2.1 _ _).other ai.o.2.2.2.1 _ _) ((HV.o.other ai.o.2.1 _ _).other ai.o.2.1 _ _)).mono ?_);rintro e y1 ⟨rfl,n,hn⟩;replace HV:Hd (VS b s j1 0 d1 y1):=by show VS _ _ _ _ _ y1;rw[hn];exact((HV.o.other ai.o.2.1 _ _).other ai.o.2.1 _ _).drew _
       replace HG:Hd (GR g b y1):=by show GR g b y1;rw[hn];exact(HG.o.other ai.o.2.2.2.1 _ _).other ai.o.2.2.2.1 _ _
       replace aF:Hd (VP A 0 0 0 0 ⟨#[]⟩ ⟨#[]⟩ y1):=by show VP A _ _ _ _ _ _ y1;rw[hn];exact(aF.o.other ai.o.2.2.2.2.2.1 _ _).other ai.o.2.2.2.2.2.1 _ _
       replace aH:Hd (VP (A+1) 2 x1 x2 0 ⟨#[]⟩ ⟨#[]⟩ y1):=by show VP _ _ _ _ _ _ _ y1;rw[hn];exact(aH.o.set1 _).setN _
       replace HW:Hd (w.grownBy y1 (some b)):=by show w.grownBy y1 (some b);rw[hn];exact aG (bu (bu HW.o ai.o.2.2.2.2.2.2.2.2.2 _ _) ai.o.2.2.2.2.2.2.2.2.2 _ _) _
       clear hn c0 c1 c2 c3 c4 c5 cf g0 n4;obtain⟨a0,a1,a2,a3,a4,a5⟩:=aF.o.cells;have af:=aF.o.f;obtain⟨c0,c1,c2,c3,c4,c5⟩:=aH.o.cells;have cf:=aH.o.f;obtain⟨n1,n2,n3,n4,n5,n6,n7,n8,n9,n10⟩:=ai.o;clear n9 n10;go_wp2;have hrow:=rZ (w:=y1) aF.o 2 x1 x2 0 ⟨#[]⟩ ⟨#[]⟩;exact bodyPost_ret (results_cell_row rfl _ _ A _ _ (0,0) _ rfl hrow underlying166 rfl (by kernel_rfl)) rfl (by rw[HZ.o];exact⟨2,x1,x2,0,⟨#[]⟩,⟨#[]⟩,j1,d1,rfl,su HV.o ai.o.1 _ _ _ _ _ _,sD HW.o ai.o.2.2.2.2.2.2.2.2.1 _ _ _ _ _ _,fun _=>⟨rfl,rfl,rfl,rfl,rfl,rfl⟩,fun h=>absurd rfl h⟩)
      | true =>
       have hc':=of_decide_eq_true hc1;have HRk:Hd (R=if eu l (j1+1)=true then(0,j1+1+1,⟨2,x1,x2,0,[]⟩) else if(rdNum l (j1+1)).1=0 then pa3 l (rdNum l (j1+1)).2.2 x1 x2 (rdNum l (j1+1)).2.1 else((rdNum l (j1+1)).1,(rdNum l (j1+1)).2.2,pa0)):=by show R=_;rw[TA.o];unfold jS;rw[if_pos hc']
       have HJ2:=ae (vS.o _ hc');have hwr:IntKind.i64.wrap ((j1:Int)+1)=((j1+1:Nat):Int):=by rw[IntKind.wrap_i64];have:=HJ2.o;have:=jB.o;omega
       have oJ:Hd (∀w,GR g b w->VS b s j1 0 d1 w->Calls prog 95 #[.pointer (some ⟨g,0,none⟩),.string ⟨#[46]⟩] w fun e w'=>e=.returned (.bool (true))/\∃n,w'=w.drewN n):=fun w h1 h2=>by have:=CI.o j1 d1 w Tz.o h1 h2;rw[hc1]at this;exact this
       clear hc1 hc';go_wp2_with (go_at_call 95;refine(oJ.o _ ((HG.o.other ai.o.2.2.2.1 _ _).other ai.o.2.2.2.1 _ _) ((HV.o.other ai.o.2.1 _ _).other ai.o.2.1 _ _)).mono ?_);rintro e y1 ⟨rfl,n,hn⟩;replace HV:Hd (VS b s j1 0 d1 y1):=by show VS _ _ _ _ _ y1;rw[hn];exact((HV.o.other ai.o.2.1 _ _).other ai.o.2.1 _ _).drew _
       replace HG:Hd (GR g b y1):=by show GR g b y1;rw[hn];exact(HG.o.other ai.o.2.2.2.1 _ _).other ai.o.2.2.2.1 _ _
       replace aF:Hd (VP A 0 0 0 0 ⟨#[]⟩ ⟨#[]⟩ y1):=by show VP A _ _ _ _ _ _ y1;rw[hn];exact(aF.o.other ai.o.2.2.2.2.2.1 _ _).other ai.o.2.2.2.2.2.1 _ _
       replace aH:Hd (VP (A+1) 2 x1 x2 0 ⟨#[]⟩ ⟨#[]⟩ y1):=by show VP _ _ _ _ _ _ _ y1;rw[hn];exact(aH.o.set1 _).setN _
       replace HW:Hd (w.grownBy y1 (some b)):=by show w.grownBy y1 (some b);rw[hn];exact aG (bu (bu HW.o ai.o.2.2.2.2.2.2.2.2.2 _ _) ai.o.2.2.2.2.2.2.2.2.2 _ _) _
       clear hn c0 c1 c2 c3 c4 c5 cf g0 n4;have b1:=HV.o.c1;have bf:=HV.o.f1;have g0:y1.cell? ⟨g,0,none⟩=some (.pointer (some ⟨b,0,none⟩)):=HG.o;go_wp2_with (fail);obtain⟨q1,hq⟩:=zN (y1.setCell ⟨b,1,none⟩ (.int .i64 ((j1:Int)+1)));replace HV:Hd (VS b s (j1+1) 0 d1 q1):=by show VS _ _ _ _ _ q1;rw[<-hq,show((j1:Int)+1)=((j1+1:Nat):Int) by omega];exact HV.o.set1 _
       replace HG:Hd (GR g b q1):=by show GR g b q1;rw[<-hq];exact HG.o.other ai.o.2.2.2.2.1 _ _
       replace aF:Hd (VP A 0 0 0 0 ⟨#[]⟩ ⟨#[]⟩ q1):=by show VP A _ _ _ _ _ _ q1;rw[<-hq];exact aF.o.other ai.o.2.2.2.2.2.2.1 _ _
       replace aH:Hd (VP (A+1) 2 x1 x2 0 ⟨#[]⟩ ⟨#[]⟩ q1):=by show VP _ _ _ _ _ _ _ q1;rw[<-hq];exact aH.o.other ai.o.2.2.2.2.2.2.2.1 _ _
       replace HW:Hd (w.grownBy q1 (some b)):=by show w.grownBy q1 (some b);rw[<-hq];exact aW HW.o _ _
       try rw[hq]
       clear hq b1 bf g0 hwr
       cases hw2:eu l (j1+1) with
       | true =>
        have HZ:Hd (R=(0,j1+1+1,⟨2,x1,x2,0,[]⟩)):=by show R=_;rw[HRk.o,if_pos hw2]
        have jc:Hd (∀w,GR g b w->VS b s (j1+1) 0 d1 w->Calls prog 150 #[.pointer (some ⟨g,0,none⟩)] w fun e w'=>e=.returned (.bool true)/\VS b s (j1+1+1) 0 d1 w'/\w.grownBy w' (some b)):=fun w h1 h2=>by have:=CW.o (j1+1) d1 w HJ2.o h1 h2;rw[hw2]at this;exact this
        clear hw2;refine(jc.o _ HG.o HV.o).mono ?_;rintro e v2 ⟨rfl,hv,hg⟩;replace HV:=ae hv;replace HG:=ae (HG.o.growb hg ai.o.2.2.2.2.1);replace aF:=ae (aF.o.grow hg ai.o.2.2.2.2.2.2.1);replace aH:=ae (aH.o.grow hg ai.o.2.2.2.2.2.2.2.1);replace HW:=ae (ag HW.o hg);clear hv hg;obtain⟨a0,a1,a2,a3,a4,a5⟩:=aF.o.cells;have af:=aF.o.f;obtain⟨c0,c1,c2,c3,c4,c5⟩:=aH.o.cells;have cf:=aH.o.f;obtain⟨n1,n2,n3,n4,n5,n6,n7,n8,n9,n10⟩:=ai.o;clear n9 n10;go_wp2;have hrow:=rZ (w:=v2) aF.o 2 x1 x2 0 ⟨#[]⟩ ⟨#[]⟩;exact bodyPost_ret (results_cell_row rfl _ _ A _ _ (0,0) _ rfl hrow underlying166 rfl (by kernel_rfl)) rfl (by rw[HZ.o];exact⟨2,x1,x2,0,⟨#[]⟩,⟨#[]⟩,j1+1+1,d1,rfl,su HV.o ai.o.1 _ _ _ _ _ _,sD HW.o ai.o.2.2.2.2.2.2.2.2.1 _ _ _ _ _ _,fun _=>⟨rfl,rfl,rfl,rfl,rfl,rfl⟩,fun h=>absurd rfl h⟩)
       | false =>
        have TD:Hd (R=if(rdNum l (j1+1)).1=0 then pa3 l (rdNum l (j1+1)).2.2 x1 x2 (rdNum l (j1+1)).2.1 else((rdNum l (j1+1)).1,(rdNum l (j1+1)).2.2,pa0)):=by show R=_;rw[HRk.o,if_neg (by rw[hw2];decide)]
        have jc:Hd (∀w,GR g b w->VS b s (j1+1) 0 d1 w->Calls prog 150 #[.pointer (some ⟨g,0,none⟩)] w fun e w'=>e=.returned (.bool false)/\VS b s (j1+1) 0 d1 w'/\w.grownBy w' (some b)):=fun w h1 h2=>by have:=CW.o (j1+1) d1 w HJ2.o h1 h2;rw[hw2]at this;exact this
        have wK:=ae (fun w (h:VS b s (j1+1) 0 d1 w)=>CN.o (j1+1) d1 w HJ2.o h);clear hw2 HRk;refine(jc.o _ HG.o HV.o).mono ?_;rintro e v2 ⟨rfl,hv,hg⟩;replace HV:=ae hv;replace HG:=ae (HG.o.growb hg ai.o.2.2.2.2.1);replace aF:=ae (aF.o.grow hg ai.o.2.2.2.2.2.2.1);replace aH:=ae (aH.o.grow hg ai.o.2.2.2.2.2.2.2.1);replace HW:=ae (ag HW.o hg);clear hv hg;have g0:v2.cell? ⟨g,0,none⟩=some (.pointer (some ⟨b,0,none⟩)):=HG.o;go_wp2_with (go_at_call 69;refine(wK.o _ HV.o).mono ?_);intro e z2 qA;obtain⟨x3,j2,E2,d2,rfl,hv,hg,hE,hok,herr⟩:=KW.o _ _ _ _ qA;replace HV:=ae hv;replace HG:=ae (HG.o.growb hg ai.o.2.2.2.2.1);replace aF:=ae (aF.o.grow hg ai.o.2.2.2.2.2.2.1);replace aH:=ae (aH.o.grow hg ai.o.2.2.2.2.2.2.2.1);replace HW:=ae (ag HW.o hg);clear hv hg;have DN:Hd (E2=(rdNum l (j1+1)).1/\(E2=0->x3=(rdNum l (j1+1)).2.1/\j2=(rdNum l (j1+1)).2.2/\j2<=s.size)/\(E2≠0->d2=(rdNum l (j1+1)).2.2)):=⟨hE,hok,herr⟩
        clear qA hE hok herr g0;obtain⟨c0,c1,c2,c3,c4,c5⟩:=aH.o.cells;have cf:=aH.o.f;have g0:z2.cell? ⟨g,0,none⟩=some (.pointer (some ⟨b,0,none⟩)):=HG.o;have n4:=ai.o.2.2.2.1
        by_cases hz2:E2=0
        ·subst hz2;have HQ2:=ae ((DN.o.2.1 rfl).2.2);have ac3:Hd (R=pa3 l j2 x1 x2 x3):=by
          show R=_;have h1:=DN.o.1;obtain⟨e1,e2,_⟩:=DN.o.2.1 rfl;rw[TD.o,if_pos h1.symm,<-e1,<-e2]
         have CTx:=ae (fun w (h1:VS b s j2 0 d2 w) (h2:VP (A+1) 3 x1 x2 x3 ⟨#[]⟩ ⟨#[]⟩ w)=>CT.o (A+1) j2 d2 3 x1 x2 x3 w HQ2.o h1 h2 ai.o.2.1);go_wp2_with (go_at_call 71;refine(CTx.o _ ((HV.o.other ai.o.2.1 _ _).other ai.o.2.1 _ _) ((aH.o.set2 _).setN _)).mono ?_);rintro e y2 ⟨rfl,htp⟩;obtain⟨jt,Et,ct,P,Q,hv,hvp,hg2,hE,hok,herr⟩:=bK.o _ _ _ _ _ _ _ _ htp;replace HV:=ae hv;replace aF:=ae (G2.vp ((aF.o.other ai.o.2.2.2.2.2.1 _ _).other ai.o.2.2.2.2.2.1 _ _) hg2 ai.o.2.2.2.2.2.2.1 ai.o.2.2.2.2.2.1);replace aH:=ae hvp;replace HW:=ae (G2.gb (bu (bu HW.o ai.o.2.2.2.2.2.2.2.2.2 _ _) ai.o.2.2.2.2.2.2.2.2.2 _ _) ai.o.2.2.2.2.2.2.2.2.2 hg2);have HZ:Hd (Et=R.1/\(Et=0->jt=R.2.1/\R.2.2=⟨3,x1,x2,x3,(aN l j2).2.2.1⟩/\P=⟨(aN l j2).2.2.1.toArray⟩)/\(¬Et=0->ct=R.2.1)):=by
          rw[ac3.o];unfold pa3
          by_cases h0:Et=0
          ·obtain⟨p1,p2,p3,p4⟩:=hok h0;rw[if_pos (hE.symm.trans h0)];exact⟨h0,fun _=>⟨p3,rfl,p1⟩,fun h=>absurd h0 h⟩
          ·rw[if_neg (fun h=>h0 (hE.trans h))];exact⟨hE,fun h=>absurd h h0,fun _=>herr h0⟩
         clear hv hvp hg2 hE hok herr htp c0 c1 c2 c3 c4 c5 cf g0 n4;obtain⟨a0,a1,a2,a3,a4,a5⟩:=aF.o.cells;have af:=aF.o.f;obtain⟨c0,c1,c2,c3,c4,c5⟩:=aH.o.cells;have cf:=aH.o.f;obtain⟨n1,n2,n3,n4,n5,n6,n7,n8,n9,n10⟩:=ai.o;clear n9 n10;go_wp2;have hrow:=rZ (w:=y2) aF.o 3 x1 x2 x3 P Q;exact bodyPost_ret (results_cell_row rfl _ _ A _ _ (0,0) _ rfl hrow underlying166 rfl (by kernel_rfl)) rfl (by
          refine⟨3,x1,x2,x3,P,Q,jt,ct,rfl,?_,sD HW.o ai.o.2.2.2.2.2.2.2.2.1 _ _ _ _ _ _,?_,?_⟩
          ·rw[<-HZ.o.1];exact su HV.o ai.o.1 _ _ _ _ _ _
          ·intro h0;obtain⟨p1,p2,p3⟩:=HZ.o.2.1 (HZ.o.1.trans h0);rw[p2];exact⟨p1,rfl,rfl,rfl,rfl,p3⟩
          ·intro h0;exact HZ.o.2.2 (fun h=>h0 (HZ.o.1.symm.trans h)))
        ·have HZ:Hd (R=(E2,d2,pa0)):=by
          show R=_;have h1:=DN.o.1;rw[TD.o,if_neg (by rw[<-h1];exact hz2),<-h1,<-DN.o.2.2 hz2]
         have fH:=ae hz2;clear hz2;have oJ:=ae (fun w (h2:VS b s j2 E2 d2 w)=>CTL.o (A+1) j2 E2 d2 w fH.o h2);go_wp2_with (go_at_call 71;refine(oJ.o _ ((HV.o.other ai.o.2.1 _ _).other ai.o.2.1 _ _)).mono ?_);rintro e y2 ⟨rfl,n,hn⟩;replace HV:Hd (VS b s j2 E2 d2 y2):=by show VS _ _ _ _ _ y2;rw[hn];exact((HV.o.other ai.o.2.1 _ _).other ai.o.2.1 _ _).drew _
         replace aF:Hd (VP A 0 0 0 0 ⟨#[]⟩ ⟨#[]⟩ y2):=by show VP A _ _ _ _ _ _ y2;rw[hn];exact(aF.o.other ai.o.2.2.2.2.2.1 _ _).other ai.o.2.2.2.2.2.1 _ _
         replace aH:Hd (VP (A+1) 3 x1 x2 x3 ⟨#[]⟩ ⟨#[]⟩ y2):=by show VP _ _ _ _ _ _ _ y2;rw[hn];exact(aH.o.set2 _).setN _
         replace HW:Hd (w.grownBy y2 (some b)):=by show w.grownBy y2 (some b);rw[hn];exact aG (bu (bu HW.o ai.o.2.2.2.2.2.2.2.2.2 _ _) ai.o.2.2.2.2.2.2.2.2.2 _ _) _
         clear hn c0 c1 c2 c3 c4 c5 cf g0 n4;obtain⟨a0,a1,a2,a3,a4,a5⟩:=aF.o.cells;have af:=aF.o.f;obtain⟨c0,c1,c2,c3,c4,c5⟩:=aH.o.cells;have cf:=aH.o.f;obtain⟨n1,n2,n3,n4,n5,n6,n7,n8,n9,n10⟩:=ai.o;clear n9 n10;go_wp2;have hrow:=rZ (w:=y2) aF.o 3 x1 x2 x3 ⟨#[]⟩ ⟨#[]⟩;exact bodyPost_ret (results_cell_row rfl _ _ A _ _ (0,0) _ rfl hrow underlying166 rfl (by kernel_rfl)) rfl (by rw[HZ.o];exact⟨3,x1,x2,x3,⟨#[]⟩,⟨#[]⟩,j2,d2,rfl,su HV.o ai.o.1 _ _ _ _ _ _,sD HW.o ai.o.2.2.2.2.2.2.2.2.1 _ _ _ _ _ _,fun h=>absurd h fH.o,fun _=>rfl⟩)
     ·have HZ:Hd (R=(E1,d1,pa0)):=by
       show R=_;have h1:=DL.o.1;rw[Tv.o,if_neg (by rw[<-h1];exact hz1),<-h1,<-DL.o.2.2 hz1]
      have fH:=ae hz1;clear hz1;have oJ:=ae (fun w (h1:GR g b w) (h2:VS b s j1 E1 d1 w)=>Gj.o j1 E1 d1 w fH.o h1 h2);go_wp2_with (go_at_call 95;refine(oJ.o _ ((HG.o.other ai.o.2.2.2.1 _ _).other ai.o.2.2.2.1 _ _) ((HV.o.other ai.o.2.1 _ _).other ai.o.2.1 _ _)).mono ?_);rintro e y1 ⟨rfl,n,hn⟩;replace HV:Hd (VS b s j1 E1 d1 y1):=by show VS _ _ _ _ _ y1;rw[hn];exact((HV.o.other ai.o.2.1 _ _).other ai.o.2.1 _ _).drew _
      replace aF:Hd (VP A 0 0 0 0 ⟨#[]⟩ ⟨#[]⟩ y1):=by show VP A _ _ _ _ _ _ y1;rw[hn];exact(aF.o.other ai.o.2.2.2.2.2.1 _ _).other ai.o.2.2.2.2.2.1 _ _
      replace aH:Hd (VP (A+1) 2 x1 x2 0 ⟨#[]⟩ ⟨#[]⟩ y1):=by show VP _ _ _ _ _ _ _ y1;rw[hn];exact(aH.o.set1 _).setN _
      replace HW:Hd (w.grownBy y1 (some b)):=by show w.grownBy y1 (some b);rw[hn];exact aG (bu (bu HW.o ai.o.2.2.2.2.2.2.2.2.2 _ _) ai.o.2.2.2.2.2.2.2.2.2 _ _) _
      clear hn c0 c1 c2 c3 c4 c5 cf g0 n4;obtain⟨a0,a1,a2,a3,a4,a5⟩:=aF.o.cells;have af:=aF.o.f;obtain⟨c0,c1,c2,c3,c4,c5⟩:=aH.o.cells;have cf:=aH.o.f;obtain⟨n1,n2,n3,n4,n5,n6,n7,n8,n9,n10⟩:=ai.o;clear n9 n10;go_wp2;have hrow:=rZ (w:=y1) aF.o 2 x1 x2 0 ⟨#[]⟩ ⟨#[]⟩;exact bodyPost_ret (results_cell_row rfl _ _ A _ _ (0,0) _ rfl hrow underlying166 rfl (by kernel_rfl)) rfl (by rw[HZ.o];exact⟨2,x1,x2,0,⟨#[]⟩,⟨#[]⟩,j1,d1,rfl,su HV.o ai.o.1 _ _ _ _ _ _,sD HW.o ai.o.2.2.2.2.2.2.2.2.1 _ _ _ _ _ _,fun h=>absurd h fH.o,fun _=>rfl⟩)
  ·have HZ:Hd (R=(E0,d0,pa0)):=by
    show R=_;have h1:=DK.o.1;rw[Tn.o,if_neg (by rw[<-h1];exact hz0),<-h1,<-DK.o.2.2 hz0]
   have fH:=ae hz0;clear hz0;have oJ:=ae (fun w (h1:GR g b w) (h2:VS b s j0 E0 d0 w)=>Gj.o j0 E0 d0 w fH.o h1 h2);go_wp2_with (go_at_call 95;refine(oJ.o _ ((HG.o.other ai.o.2.2.2.1 _ _).other ai.o.2.2.2.1 _ _) ((HV.o.other ai.o.2.1 _ _).other ai.o.2.1 _ _)).mono ?_);rintro e y0 ⟨rfl,n,hn⟩;replace HV:Hd (VS b s j0 E0 d0 y0):=by show VS _ _ _ _ _ y0;rw[hn];exact((HV.o.other ai.o.2.1 _ _).other ai.o.2.1 _ _).drew _
   replace aF:Hd (VP A 0 0 0 0 ⟨#[]⟩ ⟨#[]⟩ y0):=by show VP A _ _ _ _ _ _ y0;rw[hn];exact(aF.o.other ai.o.2.2.2.2.2.1 _ _).other ai.o.2.2.2.2.2.1 _ _
   replace aH:Hd (VP (A+1) 1 x1 0 0 ⟨#[]⟩ ⟨#[]⟩ y0):=by show VP _ _ _ _ _ _ _ y0;rw[hn];exact(aH.o.set0 _).setN _
   replace HW:Hd (w.grownBy y0 (some b)):=by show w.grownBy y0 (some b);rw[hn];exact aG (bu (bu HW.o ai.o.2.2.2.2.2.2.2.2.2 _ _) ai.o.2.2.2.2.2.2.2.2.2 _ _) _
   clear hn c0 c1 c2 c3 c4 c5 cf g0 n4;obtain⟨a0,a1,a2,a3,a4,a5⟩:=aF.o.cells;have af:=aF.o.f;obtain⟨c0,c1,c2,c3,c4,c5⟩:=aH.o.cells;have cf:=aH.o.f;obtain⟨n1,n2,n3,n4,n5,n6,n7,n8,n9,n10⟩:=ai.o;clear n9 n10;go_wp2;have hrow:=rZ (w:=y0) aF.o 1 x1 0 0 ⟨#[]⟩ ⟨#[]⟩;exact bodyPost_ret (results_cell_row rfl _ _ A _ _ (0,0) _ rfl hrow underlying166 rfl (by kernel_rfl)) rfl (by rw[HZ.o];exact⟨1,x1,0,0,⟨#[]⟩,⟨#[]⟩,j0,d0,rfl,su HV.o ai.o.1 _ _ _ _ _ _,sD HW.o ai.o.2.2.2.2.2.2.2.2.1 _ _ _ _ _ _,fun h=>absurd h fH.o,fun _=>rfl⟩)
open Go.RowKit
def dsT(k:Nat):List UInt8:=match k with|0=>[61]|1=>[62,61]|2=>[60,61]|3=>[62]|4=>[60]|5=>[94]|6=>[126]|_=>[]
def dN(l:List UInt8)(i k:Nat):Bool:=Lib.hasPrefix (l.drop i) (dsT k)
theorem ac4(l:List UInt8)(i:Nat)  (h1:dN l i 1=true):ax l i=(1,i+2):=by
 have g1:(decide (l[i]?=some 62) && decide (l[i+1]?=some 61))=true:=by rw[<-fQ];exact h1
 simp only[Bool.and_eq_true,decide_eq_true_eq]at g1;unfold ax
 repeat' split
 all_goals simp_all
theorem ac5(l:List UInt8)(i:Nat)(h1:dN l i 1=false)(h2:dN l i 2=true):ax l i=(2,i+2):=by
 have g1:(decide (l[i]?=some 62) && decide (l[i+1]?=some 61))=false:=by rw[<-fQ];exact h1
 have g2:(decide (l[i]?=some 60) && decide (l[i+1]?=some 61))=true:=by rw[<-fQ];exact h2
 simp only[Bool.and_eq_true,Bool.and_eq_false_iff,decide_eq_true_eq,decide_eq_false_iff_not]at g1 g2;unfold ax
 repeat' split
 all_goals simp_all
theorem ac6(l:List UInt8)(i:Nat)(h1:dN l i 1=false)(h2:dN l i 2=false)(h3:dN l i 3=true):ax l i=(3,i+1):=by
 have g1:(decide (l[i]?=some 62) && decide (l[i+1]?=some 61))=false:=by rw[<-fQ];exact h1
 have g2:(decide (l[i]?=some 60) && decide (l[i+1]?=some 61))=false:=by rw[<-fQ];exact h2
 have g3:decide (l[i]?=some 62)=true:=by rw[<-dI];exact h3
 simp only[Bool.and_eq_false_iff,decide_eq_true_eq,decide_eq_false_iff_not]at g1 g2 g3;unfold ax
 repeat' split
 all_goals simp_all
theorem ac7(l:List UInt8)(i:Nat)(h1:dN l i 1=false)(h2:dN l i 2=false)(h3:dN l i 3=false)(h4:dN l i 4=true):ax l i=(4,i+1):=by
 have g1:(decide (l[i]?=some 62) && decide (l[i+1]?=some 61))=false:=by rw[<-fQ];exact h1
 have g2:(decide (l[i]?=some 60) && decide (l[i+1]?=some 61))=false:=by rw[<-fQ];exact h2
 have g3:decide (l[i]?=some 62)=false:=by rw[<-dI];exact h3
 have g4:decide (l[i]?=some 60)=true:=by rw[<-dI];exact h4
 simp only[Bool.and_eq_false_iff,decide_eq_true_eq,decide_eq_false_iff_not]at g1 g2 g3 g4;unfold ax
 repeat' split
 all_goals simp_all
theorem ac8(l:List UInt8)(i:Nat)(h1:dN l i 1=false)(h2:dN l i 2=false)(h3:dN l i 3=false)(h4:dN l i 4=false)(h5:dN l i 5=true):ax l i=(5,i+1):=by
 have g1:(decide (l[i]?=some 62) && decide (l[i+1]?=some 61))=false:=by rw[<-fQ];exact h1
 have g2:(decide (l[i]?=some 60) && decide (l[i+1]?=some 61))=false:=by rw[<-fQ];exact h2
 have g3:decide (l[i]?=some 62)=false:=by rw[<-dI];exact h3
 have g4:decide (l[i]?=some 60)=false:=by rw[<-dI];exact h4
 have g5:decide (l[i]?=some 94)=true:=by rw[<-dI];exact h5
 simp only[Bool.and_eq_false_iff,decide_eq_true_eq,decide_eq_false_iff_not]at g1 g2 g3 g4 g5;unfold ax
 repeat' split
 all_goals simp_all
theorem ac9(l:List UInt8)(i:Nat)(h1:dN l i 1=false)(h2:dN l i 2=false)(h3:dN l i 3=false)(h4:dN l i 4=false)(h5:dN l i 5=false)(h6:dN l i 6=true):ax l i=(6,i+1):=by
 have g1:(decide (l[i]?=some 62) && decide (l[i+1]?=some 61))=false:=by rw[<-fQ];exact h1
 have g2:(decide (l[i]?=some 60) && decide (l[i+1]?=some 61))=false:=by rw[<-fQ];exact h2
 have g3:decide (l[i]?=some 62)=false:=by rw[<-dI];exact h3
 have g4:decide (l[i]?=some 60)=false:=by rw[<-dI];exact h4
 have g5:decide (l[i]?=some 94)=false:=by rw[<-dI];exact h5
 have g6:decide (l[i]?=some 126)=true:=by rw[<-dI];exact h6
 simp only[Bool.and_eq_false_iff,decide_eq_true_eq,decide_eq_false_iff_not]at g1 g2 g3 g4 g5 g6;unfold ax
 repeat' split
 all_goals simp_all
theorem ada(l:List UInt8)(i:Nat)(h1:dN l i 1=false)(h2:dN l i 2=false)(h3:dN l i 3=false)(h4:dN l i 4=false)(h5:dN l i 5=false)(h6:dN l i 6=false)(h0:dN l i 0=true):ax l i=(0,i+1):=by
 have g1:(decide (l[i]?=some 62) && decide (l[i+1]?=some 61))=false:=by rw[<-fQ];exact h1
 have g2:(decide (l[i]?=some 60) && decide (l[i+1]?=some 61))=false:=by rw[<-fQ];exact h2
 have g3:decide (l[i]?=some 62)=false:=by rw[<-dI];exact h3
 have g4:decide (l[i]?=some 60)=false:=by rw[<-dI];exact h4
 have g5:decide (l[i]?=some 94)=false:=by rw[<-dI];exact h5
 have g6:decide (l[i]?=some 126)=false:=by rw[<-dI];exact h6
 have g0:decide (l[i]?=some 61)=true:=by rw[<-dI];exact h0
 simp only[Bool.and_eq_false_iff,decide_eq_true_eq,decide_eq_false_iff_not]at g1 g2 g3 g4 g5 g6 g0;unfold ax
 repeat' split
 all_goals simp_all
theorem adb(l:List UInt8)(i:Nat)(h1:dN l i 1=false)(h2:dN l i 2=false)(h3:dN l i 3=false)(h4:dN l i 4=false)(h5:dN l i 5=false)(h6:dN l i 6=false)(h0:dN l i 0=false):ax l i=(-1,i):=by
 have g1:(decide (l[i]?=some 62) && decide (l[i+1]?=some 61))=false:=by rw[<-fQ];exact h1
 have g2:(decide (l[i]?=some 60) && decide (l[i+1]?=some 61))=false:=by rw[<-fQ];exact h2
 have g3:decide (l[i]?=some 62)=false:=by rw[<-dI];exact h3
 have g4:decide (l[i]?=some 60)=false:=by rw[<-dI];exact h4
 have g5:decide (l[i]?=some 94)=false:=by rw[<-dI];exact h5
 have g6:decide (l[i]?=some 126)=false:=by rw[<-dI];exact h6
 have g0:decide (l[i]?=some 61)=false:=by rw[<-dI];exact h0
 simp only[Bool.and_eq_false_iff,decide_eq_false_iff_not]at g1 g2 g3 g4 g5 g6 g0;unfold ax
 repeat' split
 all_goals simp_all
def adc:Array Value:=#[.string ⟨#[61]⟩,.string ⟨#[62,61]⟩,.string ⟨#[60,61]⟩,.string ⟨#[62]⟩,.string ⟨#[60]⟩,.string ⟨#[94]⟩,.string ⟨#[126]⟩]
def DR(D:Nat)(w:World):Prop:=w.heap[D]?=some (.cells adc 9 (0,0))
theorem ade(g b:Nat)(s:ByteArray)(i:Nat)(a:Nat)(w:World)(hi:i<=s.size)(hgb:g≠b)(hg:GR g b w)(h:VS b s i 0 a w)(hs:s.size<2 ^ 60) :
  Calls prog 120 #[.pointer (some ⟨g,0,none⟩)] w fun e w'=>e=.returned (.int .i64 (ax s.data.toList i).1)/\VS b s (ax s.data.toList i).2 0 a w'/\w.grownBy w' (some b):=by
 have CI:Hd (∀(k:Nat) (T:ByteArray) (w:World),T.data.toList=dsT k->T.size<2 ^ 61->GR g b w->VS b s i 0 a w->Calls prog 95 #[.pointer (some ⟨g,0,none⟩),.string T] w fun e w'=>e=.returned (.bool (dN s.data.toList i k))/\∃n,w'=w.drewN n):=fun k T w hT ht h1 h2=>by
  have:=KG g b s T i a w hi h1 h2 (by omega) ht;rw[hT]at this;exact this
 obtain⟨l,hl⟩:=zN (s.data.toList);rw[hl]at CI ⊢;obtain⟨sg,j,hsg⟩:∃sg j,ax l i=(sg,j):=⟨_,_,rfl⟩;have dE:=ae hsg;rw[hsg];simp only[];have HG:=ae hg;have HV:=ae h;have HB0:Hd (b<w.heap.size/\g<w.heap.size/\g≠b):=⟨(aB h),GR.lt hg,hgb⟩;have jB:Hd (i<=s.size/\s.size<2 ^ 60):=⟨hi,hs⟩;clear hl hsg h hg hgb hs hi;go_enter func120,ntmps120;go_wp2_with (fail);obtain⟨D,hD⟩:=zN (w.heap.size);obtain⟨W,hW⟩:=zN (w.alloc (.cells #[.string ⟨#[61]⟩,.string ⟨#[62,61]⟩,.string ⟨#[60,61]⟩,.string ⟨#[62]⟩,.string ⟨#[60]⟩,.string ⟨#[94]⟩,.string ⟨#[126]⟩] 9));have hgW:w.grownBy W none:=by rw[<-hW];exact aj (ak w none) _
 have HD:Hd (DR D W):=by show W.heap[D]?=_;rw[<-hW,<-hD];exact heap_alloc_new w _
 have lY:Hd (b≠D/\g≠D/\D≠b):=by have:=HB0.o;refine⟨?_,?_,?_⟩<;>omega
 replace HG:=ae (HG.o.grow hgW);replace HV:Hd (VS b s i 0 a W):=by show W.heap[b]?=_;rw[hgW.block b HB0.o.1 (by simp)];exact HV.o
 have HW:Hd (w.grownBy W (some b)):=bH hgW _
 try rw[hW]
 try rw[hD]
 clear hgW hW hD;go_loopw [4] (fun vk wr=>∃k:Nat,vk=.int .i64 k/\1<=k/\k<=8/\(∀m,1<=m->m<k->dN l i (m % 7)=false)/\VS b s i 0 a wr/\GR g b wr/\DR D wr/\w.grownBy wr (some b)) (fun vk _=>8-(intOf vk).toNat)
 case atStart=>exact⟨1,rfl,by omega,by omega,fun m h1 h2=>by omega,HV.o,HG.o,HD.o,HW.o⟩
 case round =>
  obtain⟨k,rfl,hk1,hk8,hno,hv,hgr,hdr,hgw⟩:=hrel;clear HV HG HD HW;have HV:=ae hv;have HG:=ae hgr;have HD:=ae hdr;have HW:=ae hgw;have aU:=ae hno;clear hv hgr hdr hgw hno;have hkk:k=1\/k=2\/k=3\/k=4\/k=5\/k=6\/k=7\/k=8:=by omega
  clear hk1 hk8
  rcases hkk with rfl|rfl|rfl|rfl|rfl|rfl|rfl|rfl
  ·have d0:wr.cell? ⟨D,1,none⟩=some (.string ⟨#[62,61]⟩):=by rw[ah (show _=_ from HD.o)];rfl
   cases hp:dN l i 1 with
   | true =>
    have iG:Hd (∀w,GR g b w->VS b s i 0 a w->Calls prog 95 #[.pointer (some ⟨g,0,none⟩),.string ⟨#[62,61]⟩] w fun e w'=>e=.returned (.bool (true))/\∃n,w'=w.drewN n):=fun w h1 h2=>by have:=CI.o 1 ⟨#[62,61]⟩ w rfl (by show 2 < _;decide) h1 h2;rw[hp]at this;exact this
    have HP:=ae hp;clear hp;go_wp2_with (go_at_call 95;refine(iG.o _ HG.o HV.o).mono ?_);rintro e u1 ⟨rfl,n,hn⟩;replace HV:Hd (VS b s i 0 a u1):=by show VS _ _ _ _ _ u1;rw[hn];exact HV.o.drew _
    replace HG:Hd (GR g b u1):=by show GR g b u1;rw[hn];exact HG.o
    replace HD:Hd (DR D u1):=by show DR D u1;rw[hn];exact HD.o
    replace HW:Hd (w.grownBy u1 (some b)):=by show w.grownBy u1 (some b);rw[hn];exact aG HW.o _
    clear hn d0;have eH:=ae (ac4 l i  HP.o);obtain⟨rfl,rfl⟩:sg=1/\j=i+2:=by have:=dE.o.symm.trans eH.o;simpa using this
    have e0:u1.cell? ⟨g,0,none⟩=some (.pointer (some ⟨b,0,none⟩)):=HG.o;have e1:=HV.o.c1;have ef:=HV.o.f1;have e2:u1.cell? ⟨D,1,none⟩=some (.string ⟨#[62,61]⟩):=by rw[ah (show _=_ from HD.o)];rfl
    have hwr:IntKind.i64.wrap ((i:Int)+2)=(i:Int)+2:=by rw[IntKind.wrap_i64];have:=jB.o;omega
    go_wp2_with (fail)
    go_region
    have eX:Hd (VS b s (i+2) 0 a (u1.setCell ⟨b,1,none⟩ (.int .i64 ((i:Int)+2))).drew):=by show VS b s (i+2) 0 a (u1.setCell ⟨b,1,none⟩ (.int .i64 ((i:Int)+2)));rw[show((i:Int)+2)=((i+2:Nat):Int) by omega];exact HV.o.set1 _
    have oK:Hd (w.grownBy (u1.setCell ⟨b,1,none⟩ (.int .i64 ((i:Int)+2))).drew (some b)):=tu (aW HW.o _ _);clear e0 e1 e2 ef hwr;go_wp2;go_ret;exact⟨rfl,eX.o,oK.o⟩
   | false =>
    have iG:Hd (∀w,GR g b w->VS b s i 0 a w->Calls prog 95 #[.pointer (some ⟨g,0,none⟩),.string ⟨#[62,61]⟩] w fun e w'=>e=.returned (.bool (false))/\∃n,w'=w.drewN n):=fun w h1 h2=>by have:=CI.o 1 ⟨#[62,61]⟩ w rfl (by show 2 < _;decide) h1 h2;rw[hp]at this;exact this
    have HP:=ae hp;clear hp;go_wp2_with (go_at_call 95;refine(iG.o _ HG.o HV.o).mono ?_);rintro e u1 ⟨rfl,n,hn⟩;replace HV:Hd (VS b s i 0 a u1):=by show VS _ _ _ _ _ u1;rw[hn];exact HV.o.drew _
    replace HG:Hd (GR g b u1):=by show GR g b u1;rw[hn];exact HG.o
    replace HD:Hd (DR D u1):=by show DR D u1;rw[hn];exact HD.o
    replace HW:Hd (w.grownBy u1 (some b)):=by show w.grownBy u1 (some b);rw[hn];exact aG HW.o _
    clear hn d0;go_wp2;go_roundw
    case rel=>exact⟨2,rfl,by omega,by omega,fun m h1 h2=>by rcases Nat.lt_succ_iff_lt_or_eq.1 h2 with h|h;exact aU.o m h1 h;rw[h];exact HP.o,HV.o,HG.o,HD.o,HW.o⟩
    case measure=>simp[intOf]
  ·have d0:wr.cell? ⟨D,2,none⟩=some (.string ⟨#[60,61]⟩):=by rw[ah (show _=_ from HD.o)];rfl
   cases hp:dN l i 2 with
   | true =>
    have iG:Hd (∀w,GR g b w->VS b s i 0 a w->Calls prog 95 #[.pointer (some ⟨g,0,none⟩),.string ⟨#[60,61]⟩] w fun e w'=>e=.returned (.bool (true))/\∃n,w'=w.drewN n):=fun w h1 h2=>by have:=CI.o 2 ⟨#[60,61]⟩ w rfl (by show 2 < _;decide) h1 h2;rw[hp]at this;exact this
    have HP:=ae hp;clear hp;go_wp2_with (go_at_call 95;refine(iG.o _ HG.o HV.o).mono ?_);rintro e u1 ⟨rfl,n,hn⟩;replace HV:Hd (VS b s i 0 a u1):=by show VS _ _ _ _ _ u1;rw[hn];exact HV.o.drew _
    replace HG:Hd (GR g b u1):=by show GR g b u1;rw[hn];exact HG.o
    replace HD:Hd (DR D u1):=by show DR D u1;rw[hn];exact HD.o
    replace HW:Hd (w.grownBy u1 (some b)):=by show w.grownBy u1 (some b);rw[hn];exact aG HW.o _
    clear hn d0;have eH:=ae (ac5 l i (aU.o 1 (by omega) (by omega)) HP.o);obtain⟨rfl,rfl⟩:sg=2/\j=i+2:=by have:=dE.o.symm.trans eH.o;simpa using this
    have e0:u1.cell? ⟨g,0,none⟩=some (.pointer (some ⟨b,0,none⟩)):=HG.o;have e1:=HV.o.c1;have ef:=HV.o.f1;have e2:u1.cell? ⟨D,2,none⟩=some (.string ⟨#[60,61]⟩):=by rw[ah (show _=_ from HD.o)];rfl
    have hwr:IntKind.i64.wrap ((i:Int)+2)=(i:Int)+2:=by rw[IntKind.wrap_i64];have:=jB.o;omega
    go_wp2_with (fail)
    go_region
    have eX:Hd (VS b s (i+2) 0 a (u1.setCell ⟨b,1,none⟩ (.int .i64 ((i:Int)+2))).drew):=by show VS b s (i+2) 0 a (u1.setCell ⟨b,1,none⟩ (.int .i64 ((i:Int)+2)));rw[show((i:Int)+2)=((i+2:Nat):Int) by omega];exact HV.o.set1 _
    have oK:Hd (w.grownBy (u1.setCell ⟨b,1,none⟩ (.int .i64 ((i:Int)+2))).drew (some b)):=tu (aW HW.o _ _);clear e0 e1 e2 ef hwr;go_wp2;go_ret;exact⟨rfl,eX.o,oK.o⟩
   | false =>
    have iG:Hd (∀w,GR g b w->VS b s i 0 a w->Calls prog 95 #[.pointer (some ⟨g,0,none⟩),.string ⟨#[60,61]⟩] w fun e w'=>e=.returned (.bool (false))/\∃n,w'=w.drewN n):=fun w h1 h2=>by have:=CI.o 2 ⟨#[60,61]⟩ w rfl (by show 2 < _;decide) h1 h2;rw[hp]at this;exact this
    have HP:=ae hp;clear hp;go_wp2_with (go_at_call 95;refine(iG.o _ HG.o HV.o).mono ?_);rintro e u1 ⟨rfl,n,hn⟩;replace HV:Hd (VS b s i 0 a u1):=by show VS _ _ _ _ _ u1;rw[hn];exact HV.o.drew _
    replace HG:Hd (GR g b u1):=by show GR g b u1;rw[hn];exact HG.o
    replace HD:Hd (DR D u1):=by show DR D u1;rw[hn];exact HD.o
    replace HW:Hd (w.grownBy u1 (some b)):=by show w.grownBy u1 (some b);rw[hn];exact aG HW.o _
    clear hn d0;go_wp2;go_roundw
    case rel=>exact⟨3,rfl,by omega,by omega,fun m h1 h2=>by rcases Nat.lt_succ_iff_lt_or_eq.1 h2 with h|h;exact aU.o m h1 h;rw[h];exact HP.o,HV.o,HG.o,HD.o,HW.o⟩
    case measure=>simp[intOf]
  ·have d0:wr.cell? ⟨D,3,none⟩=some (.string ⟨#[62]⟩):=by rw[ah (show _=_ from HD.o)];rfl
   cases hp:dN l i 3 with
   | true =>
    have iG:Hd (∀w,GR g b w->VS b s i 0 a w->Calls prog 95 #[.pointer (some ⟨g,0,none⟩),.string ⟨#[62]⟩] w fun e w'=>e=.returned (.bool (true))/\∃n,w'=w.drewN n):=fun w h1 h2=>by have:=CI.o 3 ⟨#[62]⟩ w rfl (by show 1 < _;decide) h1 h2;rw[hp]at this;exact this
    have HP:=ae hp;clear hp;go_wp2_with (go_at_call 95;refine(iG.o _ HG.o HV.o).mono ?_);rintro e u1 ⟨rfl,n,hn⟩;replace HV:Hd (VS b s i 0 a u1):=by show VS _ _ _ _ _ u1;rw[hn];exact HV.o.drew _
    replace HG:Hd (GR g b u1):=by show GR g b u1;rw[hn];exact HG.o
    replace HD:Hd (DR D u1):=by show DR D u1;rw[hn];exact HD.o
    replace HW:Hd (w.grownBy u1 (some b)):=by show w.grownBy u1 (some b);rw[hn];exact aG HW.o _
    clear hn d0;have eH:=ae (ac6 l i (aU.o 1 (by omega) (by omega)) (aU.o 2 (by omega) (by omega)) HP.o);obtain⟨rfl,rfl⟩:sg=3/\j=i+1:=by have:=dE.o.symm.trans eH.o;simpa using this
    have e0:u1.cell? ⟨g,0,none⟩=some (.pointer (some ⟨b,0,none⟩)):=HG.o;have e1:=HV.o.c1;have ef:=HV.o.f1;have e2:u1.cell? ⟨D,3,none⟩=some (.string ⟨#[62]⟩):=by rw[ah (show _=_ from HD.o)];rfl
    have hwr:IntKind.i64.wrap ((i:Int)+1)=(i:Int)+1:=by rw[IntKind.wrap_i64];have:=jB.o;omega
    go_wp2_with (fail)
    go_region
    have eX:Hd (VS b s (i+1) 0 a (u1.setCell ⟨b,1,none⟩ (.int .i64 ((i:Int)+1))).drew):=by show VS b s (i+1) 0 a (u1.setCell ⟨b,1,none⟩ (.int .i64 ((i:Int)+1)));rw[show((i:Int)+1)=((i+1:Nat):Int) by omega];exact HV.o.set1 _
    have oK:Hd (w.grownBy (u1.setCell ⟨b,1,none⟩ (.int .i64 ((i:Int)+1))).drew (some b)):=tu (aW HW.o _ _);clear e0 e1 e2 ef hwr;go_wp2;go_ret;exact⟨rfl,eX.o,oK.o⟩
   | false =>
    have iG:Hd (∀w,GR g b w->VS b s i 0 a w->Calls prog 95 #[.pointer (some ⟨g,0,none⟩),.string ⟨#[62]⟩] w fun e w'=>e=.returned (.bool (false))/\∃n,w'=w.drewN n):=fun w h1 h2=>by have:=CI.o 3 ⟨#[62]⟩ w rfl (by show 1 < _;decide) h1 h2;rw[hp]at this;exact this
    have HP:=ae hp;clear hp;go_wp2_with (go_at_call 95;refine(iG.o _ HG.o HV.o).mono ?_);rintro e u1 ⟨rfl,n,hn⟩;replace HV:Hd (VS b s i 0 a u1):=by show VS _ _ _ _ _ u1;rw[hn];exact HV.o.drew _
    replace HG:Hd (GR g b u1):=by show GR g b u1;rw[hn];exact HG.o
    replace HD:Hd (DR D u1):=by show DR D u1;rw[hn];exact HD.o
    replace HW:Hd (w.grownBy u1 (some b)):=by show w.grownBy u1 (some b);rw[hn];exact aG HW.o _
    clear hn d0;go_wp2;go_roundw
    case rel=>exact⟨4,rfl,by omega,by omega,fun m h1 h2=>by rcases Nat.lt_succ_iff_lt_or_eq.1 h2 with h|h;exact aU.o m h1 h;rw[h];exact HP.o,HV.o,HG.o,HD.o,HW.o⟩
    case measure=>simp[intOf]
  ·have d0:wr.cell? ⟨D,4,none⟩=some (.string ⟨#[60]⟩):=by rw[ah (show _=_ from HD.o)];rfl
   cases hp:dN l i 4 with
   | true =>
    have iG:Hd (∀w,GR g b w->VS b s i 0 a w->Calls prog 95 #[.pointer (some ⟨g,0,none⟩),.string ⟨#[60]⟩] w fun e w'=>e=.returned (.bool (true))/\∃n,w'=w.drewN n):=fun w h1 h2=>by have:=CI.o 4 ⟨#[60]⟩ w rfl (by show 1 < _;decide) h1 h2;rw[hp]at this;exact this
    have HP:=ae hp;clear hp;go_wp2_with (go_at_call 95;refine(iG.o _ HG.o HV.o).mono ?_);rintro e u1 ⟨rfl,n,hn⟩;replace HV:Hd (VS b s i 0 a u1):=by show VS _ _ _ _ _ u1;rw[hn];exact HV.o.drew _
    replace HG:Hd (GR g b u1):=by show GR g b u1;rw[hn];exact HG.o
    replace HD:Hd (DR D u1):=by show DR D u1;rw[hn];exact HD.o
    replace HW:Hd (w.grownBy u1 (some b)):=by show w.grownBy u1 (some b);rw[hn];exact aG HW.o _
    clear hn d0;have eH:=ae (ac7 l i (aU.o 1 (by omega) (by omega)) (aU.o 2 (by omega) (by omega)) (aU.o 3 (by omega) (by omega)) HP.o);obtain⟨rfl,rfl⟩:sg=4/\j=i+1:=by have:=dE.o.symm.trans eH.o;simpa using this
    have e0:u1.cell? ⟨g,0,none⟩=some (.pointer (some ⟨b,0,none⟩)):=HG.o;have e1:=HV.o.c1;have ef:=HV.o.f1;have e2:u1.cell? ⟨D,4,none⟩=some (.string ⟨#[60]⟩):=by rw[ah (show _=_ from HD.o)];rfl
    have hwr:IntKind.i64.wrap ((i:Int)+1)=(i:Int)+1:=by rw[IntKind.wrap_i64];have:=jB.o;omega
    go_wp2_with (fail)
    go_region
    have eX:Hd (VS b s (i+1) 0 a (u1.setCell ⟨b,1,none⟩ (.int .i64 ((i:Int)+1))).drew):=by show VS b s (i+1) 0 a (u1.setCell ⟨b,1,none⟩ (.int .i64 ((i:Int)+1)));rw[show((i:Int)+1)=((i+1:Nat):Int) by omega];exact HV.o.set1 _
    have oK:Hd (w.grownBy (u1.setCell ⟨b,1,none⟩ (.int .i64 ((i:Int)+1))).drew (some b)):=tu (aW HW.o _ _);clear e0 e1 e2 ef hwr;go_wp2;go_ret;exact⟨rfl,eX.o,oK.o⟩
   | false =>
    have iG:Hd (∀w,GR g b w->VS b s i 0 a w->Calls prog 95 #[.pointer (some ⟨g,0,none⟩),.string ⟨#[60]⟩] w fun e w'=>e=.returned (.bool (false))/\∃n,w'=w.drewN n):=fun w h1 h2=>by have:=CI.o 4 ⟨#[60]⟩ w rfl (by show 1 < _;decide) h1 h2;rw[hp]at this;exact this
    have HP:=ae hp;clear hp;go_wp2_with (go_at_call 95;refine(iG.o _ HG.o HV.o).mono ?_);rintro e u1 ⟨rfl,n,hn⟩;replace HV:Hd (VS b s i 0 a u1):=by show VS _ _ _ _ _ u1;rw[hn];exact HV.o.drew _
    replace HG:Hd (GR g b u1):=by show GR g b u1;rw[hn];exact HG.o
    replace HD:Hd (DR D u1):=by show DR D u1;rw[hn];exact HD.o
    replace HW:Hd (w.grownBy u1 (some b)):=by show w.grownBy u1 (some b);rw[hn];exact aG HW.o _
    clear hn d0;go_wp2;go_roundw
    case rel=>exact⟨5,rfl,by omega,by omega,fun m h1 h2=>by rcases Nat.lt_succ_iff_lt_or_eq.1 h2 with h|h;exact aU.o m h1 h;rw[h];exact HP.o,HV.o,HG.o,HD.o,HW.o⟩
    case measure=>simp[intOf]
  ·have d0:wr.cell? ⟨D,5,none⟩=some (.string ⟨#[94]⟩):=by rw[ah (show _=_ from HD.o)];rfl
   cases hp:dN l i 5 with
   | true =>
    have iG:Hd (∀w,GR g b w->VS b s i 0 a w->Calls prog 95 #[.pointer (some ⟨g,0,none⟩),.string ⟨#[94]⟩] w fun e w'=>e=.returned (.bool (true))/\∃n,w'=w.drewN n):=fun w h1 h2=>by have:=CI.o 5 ⟨#[94]⟩ w rfl (by show 1 < _;decide) h1 h2;rw[hp]at this;exact this
    have HP:=ae hp;clear hp;go_wp2_with (go_at_call 95;refine(iG.o _ HG.o HV.o).mono ?_);rintro e u1 ⟨rfl,n,hn⟩;replace HV:Hd (VS b s i 0 a u1):=by show VS _ _ _ _ _ u1;rw[hn];exact HV.o.drew _
    replace HG:Hd (GR g b u1):=by show GR g b u1;rw[hn];exact HG.o
    replace HD:Hd (DR D u1):=by show DR D u1;rw[hn];exact HD.o
    replace HW:Hd (w.grownBy u1 (some b)):=by show w.grownBy u1 (some b);rw[hn];exact aG HW.o _
    clear hn d0;have eH:=ae (ac8 l i (aU.o 1 (by omega) (by omega)) (aU.o 2 (by omega) (by omega)) (aU.o 3 (by omega) (by omega)) (aU.o 4 (by omega) (by omega)) HP.o);obtain⟨rfl,rfl⟩:sg=5/\j=i+1:=by have:=dE.o.symm.trans eH.o;simpa using this
    have e0:u1.cell? ⟨g,0,none⟩=some (.pointer (some ⟨b,0,none⟩)):=HG.o;have e1:=HV.o.c1;have ef:=HV.o.f1;have e2:u1.cell? ⟨D,5,none⟩=some (.string ⟨#[94]⟩):=by rw[ah (show _=_ from HD.o)];rfl
    have hwr:IntKind.i64.wrap ((i:Int)+1)=(i:Int)+1:=by rw[IntKind.wrap_i64];have:=jB.o;omega
    go_wp2_with (fail)
    go_region
    have eX:Hd (VS b s (i+1) 0 a (u1.setCell ⟨b,1,none⟩ (.int .i64 ((i:Int)+1))).drew):=by show VS b s (i+1) 0 a (u1.setCell ⟨b,1,none⟩ (.int .i64 ((i:Int)+1)));rw[show((i:Int)+1)=((i+1:Nat):Int) by omega];exact HV.o.set1 _
    have oK:Hd (w.grownBy (u1.setCell ⟨b,1,none⟩ (.int .i64 ((i:Int)+1))).drew (some b)):=tu (aW HW.o _ _);clear e0 e1 e2 ef hwr;go_wp2;go_ret;exact⟨rfl,eX.o,oK.o⟩
   | false =>
    have iG:Hd (∀w,GR g b w->VS b s i 0 a w->Calls prog 95 #[.pointer (some ⟨g,0,none⟩),.string ⟨#[94]⟩] w fun e w'=>e=.returned (.bool (false))/\∃n,w'=w.drewN n):=fun w h1 h2=>by have:=CI.o 5 ⟨#[94]⟩ w rfl (by show 1 < _;decide) h1 h2;rw[hp]at this;exact this
    have HP:=ae hp;clear hp;go_wp2_with (go_at_call 95;refine(iG.o _ HG.o HV.o).mono ?_);rintro e u1 ⟨rfl,n,hn⟩;replace HV:Hd (VS b s i 0 a u1):=by show VS _ _ _ _ _ u1;rw[hn];exact HV.o.drew _
    replace HG:Hd (GR g b u1):=by show GR g b u1;rw[hn];exact HG.o
    replace HD:Hd (DR D u1):=by show DR D u1;rw[hn];exact HD.o
    replace HW:Hd (w.grownBy u1 (some b)):=by show w.grownBy u1 (some b);rw[hn];exact aG HW.o _
    clear hn d0;go_wp2;go_roundw
    case rel=>exact⟨6,rfl,by omega,by omega,fun m h1 h2=>by rcases Nat.lt_succ_iff_lt_or_eq.1 h2 with h|h;exact aU.o m h1 h;rw[h];exact HP.o,HV.o,HG.o,HD.o,HW.o⟩
    case measure=>simp[intOf]
  ·have d0:wr.cell? ⟨D,6,none⟩=some (.string ⟨#[126]⟩):=by rw[ah (show _=_ from HD.o)];rfl
   cases hp:dN l i 6 with
   | true =>
    have iG:Hd (∀w,GR g b w->VS b s i 0 a w->Calls prog 95 #[.pointer (some ⟨g,0,none⟩),.string ⟨#[126]⟩] w fun e w'=>e=.returned (.bool (true))/\∃n,w'=w.drewN n):=fun w h1 h2=>by have:=CI.o 6 ⟨#[126]⟩ w rfl (by show 1 < _;decide) h1 h2;rw[hp]at this;exact this
    have HP:=ae hp;clear hp;go_wp2_with (go_at_call 95;refine(iG.o _ HG.o HV.o).mono ?_);rintro e u1 ⟨rfl,n,hn⟩;replace HV:Hd (VS b s i 0 a u1):=by show VS _ _ _ _ _ u1;rw[hn];exact HV.o.drew _
    replace HG:Hd (GR g b u1):=by show GR g b u1;rw[hn];exact HG.o
    replace HD:Hd (DR D u1):=by show DR D u1;rw[hn];exact HD.o
    replace HW:Hd (w.grownBy u1 (some b)):=by show w.grownBy u1 (some b);rw[hn];exact aG HW.o _
    clear hn d0;have eH:=ae (ac9 l i (aU.o 1 (by omega) (by omega)) (aU.o 2 (by omega) (by omega)) (aU.o 3 (by omega) (by omega)) (aU.o 4 (by omega) (by omega)) (aU.o 5 (by omega) (by omega)) HP.o);obtain⟨rfl,rfl⟩:sg=6/\j=i+1:=by have:=dE.o.symm.trans eH.o;simpa using this
    have e0:u1.cell? ⟨g,0,none⟩=some (.pointer (some ⟨b,0,none⟩)):=HG.o;have e1:=HV.o.c1;have ef:=HV.o.f1;have e2:u1.cell? ⟨D,6,none⟩=some (.string ⟨#[126]⟩):=by rw[ah (show _=_ from HD.o)];rfl
    have hwr:IntKind.i64.wrap ((i:Int)+1)=(i:Int)+1:=by rw[IntKind.wrap_i64];have:=jB.o;omega
    go_wp2_with (fail)
    go_region
    have eX:Hd (VS b s (i+1) 0 a (u1.setCell ⟨b,1,none⟩ (.int .i64 ((i:Int)+1))).drew):=by show VS b s (i+1) 0 a (u1.setCell ⟨b,1,none⟩ (.int .i64 ((i:Int)+1)));rw[show((i:Int)+1)=((i+1:Nat):Int) by omega];exact HV.o.set1 _
    have oK:Hd (w.grownBy (u1.setCell ⟨b,1,none⟩ (.int .i64 ((i:Int)+1))).drew (some b)):=tu (aW HW.o _ _);clear e0 e1 e2 ef hwr;go_wp2;go_ret;exact⟨rfl,eX.o,oK.o⟩
   | false =>
    have iG:Hd (∀w,GR g b w->VS b s i 0 a w->Calls prog 95 #[.pointer (some ⟨g,0,none⟩),.string ⟨#[126]⟩] w fun e w'=>e=.returned (.bool (false))/\∃n,w'=w.drewN n):=fun w h1 h2=>by have:=CI.o 6 ⟨#[126]⟩ w rfl (by show 1 < _;decide) h1 h2;rw[hp]at this;exact this
    have HP:=ae hp;clear hp;go_wp2_with (go_at_call 95;refine(iG.o _ HG.o HV.o).mono ?_);rintro e u1 ⟨rfl,n,hn⟩;replace HV:Hd (VS b s i 0 a u1):=by show VS _ _ _ _ _ u1;rw[hn];exact HV.o.drew _
    replace HG:Hd (GR g b u1):=by show GR g b u1;rw[hn];exact HG.o
    replace HD:Hd (DR D u1):=by show DR D u1;rw[hn];exact HD.o
    replace HW:Hd (w.grownBy u1 (some b)):=by show w.grownBy u1 (some b);rw[hn];exact aG HW.o _
    clear hn d0;go_wp2;go_roundw
    case rel=>exact⟨7,rfl,by omega,by omega,fun m h1 h2=>by rcases Nat.lt_succ_iff_lt_or_eq.1 h2 with h|h;exact aU.o m h1 h;rw[h];exact HP.o,HV.o,HG.o,HD.o,HW.o⟩
    case measure=>simp[intOf]
  ·have d0:wr.cell? ⟨D,0,none⟩=some (.string ⟨#[61]⟩):=by rw[ah (show _=_ from HD.o)];rfl
   cases hp:dN l i 0 with
   | true =>
    have iG:Hd (∀w,GR g b w->VS b s i 0 a w->Calls prog 95 #[.pointer (some ⟨g,0,none⟩),.string ⟨#[61]⟩] w fun e w'=>e=.returned (.bool (true))/\∃n,w'=w.drewN n):=fun w h1 h2=>by have:=CI.o 0 ⟨#[61]⟩ w rfl (by show 1 < _;decide) h1 h2;rw[hp]at this;exact this
    have HP:=ae hp;clear hp;go_wp2_with (go_at_call 95;refine(iG.o _ HG.o HV.o).mono ?_);rintro e u1 ⟨rfl,n,hn⟩;replace HV:Hd (VS b s i 0 a u1):=by show VS _ _ _ _ _ u1;rw[hn];exact HV.o.drew _
    replace HG:Hd (GR g b u1):=by show GR g b u1;rw[hn];exact HG.o
    replace HD:Hd (DR D u1):=by show DR D u1;rw[hn];exact HD.o
    replace HW:Hd (w.grownBy u1 (some b)):=by show w.grownBy u1 (some b);rw[hn];exact aG HW.o _
    clear hn d0;have eH:=ae (ada l i (aU.o 1 (by omega) (by omega)) (aU.o 2 (by omega) (by omega)) (aU.o 3 (by omega) (by omega)) (aU.o 4 (by omega) (by omega)) (aU.o 5 (by omega) (by omega)) (aU.o 6 (by omega) (by omega)) HP.o);obtain⟨rfl,rfl⟩:sg=0/\j=i+1:=by have:=dE.o.symm.trans eH.o;simpa using this
    have e0:u1.cell? ⟨g,0,none⟩=some (.pointer (some ⟨b,0,none⟩)):=HG.o;have e1:=HV.o.c1;have ef:=HV.o.f1;have e2:u1.cell? ⟨D,0,none⟩=some (.string ⟨#[61]⟩):=by rw[ah (show _=_ from HD.o)];rfl
    have hwr:IntKind.i64.wrap ((i:Int)+1)=(i:Int)+1:=by rw[IntKind.wrap_i64];have:=jB.o;omega
    go_wp2_with (fail)
    go_region
    have eX:Hd (VS b s (i+1) 0 a (u1.setCell ⟨b,1,none⟩ (.int .i64 ((i:Int)+1))).drew):=by show VS b s (i+1) 0 a (u1.setCell ⟨b,1,none⟩ (.int .i64 ((i:Int)+1)));rw[show((i:Int)+1)=((i+1:Nat):Int) by omega];exact HV.o.set1 _
    have oK:Hd (w.grownBy (u1.setCell ⟨b,1,none⟩ (.int .i64 ((i:Int)+1))).drew (some b)):=tu (aW HW.o _ _);clear e0 e1 e2 ef hwr;go_wp2;go_ret;exact⟨rfl,eX.o,oK.o⟩
   | false =>
    have iG:Hd (∀w,GR g b w->VS b s i 0 a w->Calls prog 95 #[.pointer (some ⟨g,0,none⟩),.string ⟨#[61]⟩] w fun e w'=>e=.returned (.bool (false))/\∃n,w'=w.drewN n):=fun w h1 h2=>by have:=CI.o 0 ⟨#[61]⟩ w rfl (by show 1 < _;decide) h1 h2;rw[hp]at this;exact this
    have HP:=ae hp;clear hp;go_wp2_with (go_at_call 95;refine(iG.o _ HG.o HV.o).mono ?_);rintro e u1 ⟨rfl,n,hn⟩;replace HV:Hd (VS b s i 0 a u1):=by show VS _ _ _ _ _ u1;rw[hn];exact HV.o.drew _
    replace HG:Hd (GR g b u1):=by show GR g b u1;rw[hn];exact HG.o
    replace HD:Hd (DR D u1):=by show DR D u1;rw[hn];exact HD.o
    replace HW:Hd (w.grownBy u1 (some b)):=by show w.grownBy u1 (some b);rw[hn];exact aG HW.o _
    clear hn d0;go_wp2;go_roundw
    case rel=>exact⟨8,rfl,by omega,by omega,fun m h1 h2=>by rcases Nat.lt_succ_iff_lt_or_eq.1 h2 with h|h;exact aU.o m h1 h;rw[h];exact HP.o,HV.o,HG.o,HD.o,HW.o⟩
    case measure=>simp[intOf]
  ·have eH:=ae (adb l i (aU.o 1 (by omega) (by omega)) (aU.o 2 (by omega) (by omega)) (aU.o 3 (by omega) (by omega)) (aU.o 4 (by omega) (by omega)) (aU.o 5 (by omega) (by omega)) (aU.o 6 (by omega) (by omega)) (aU.o 7 (by omega) (by omega)));obtain⟨rfl,rfl⟩:sg=-1/\j=i:=by have:=dE.o.symm.trans eH.o;simpa using this
   go_wp2;go_ret;exact⟨rfl,HV.o,HW.o⟩
end Go.Proofs.YteciokcdpadmpaaGreatDoor
