import Derived.Test.YtiinliaoojfjaaaGreatDoorF34
set_option linter.all false
set_option maxRecDepth 100000
set_option maxHeartbeats 0
open Go.Proofs.Tryz
namespace Go.Proofs.YtiinliaoojfjaaaGreatDoor
open Go.RowKit
def I7(w:World)(A:Nat)(m y1 y2 y3:Int)(x4 x5:ByteArray):World:=(((((w.setCell ⟨A,0,none⟩ (.int .i64 m)).setCell ⟨A,1,none⟩ (.int .i64 y1)).setCell ⟨A,2,none⟩ (.int .i64 y2)).setCell ⟨A,3,none⟩ (.int .i64 y3)).setCell ⟨A,4,none⟩ (.string x4)).setCell ⟨A,5,none⟩ (.string x5)
theorem uH{w:World}{A:Nat}{n z1 z2 z3:Int}{z4 z5:ByteArray}(h:VP A n z1 z2 z3 z4 z5 w)(m y1 y2 y3:Int)(x4 x5:ByteArray):VP A m y1 y2 y3 x4 x5 (I7 w A m y1 y2 y3 x4 x5):=by
 unfold VP at h ⊢;simp[I7,World.setCell,Array.getElem?_modify,h]
theorem uI{b A:Nat}{s:ByteArray}{j:Nat}{E:Int}{a:Nat}{w:World}(h:VS b s j E a w)(hn:b≠A)(m y1 y2 y3:Int)(x4 x5:ByteArray):VS b s j E a (I7 w A m y1 y2 y3 x4 x5):=(((((h.other hn _ _).other hn _ _).other hn _ _).other hn _ _).other hn _ _).other hn _ _
theorem uJ{b A:Nat}{w W:World}(h:w.grownBy W (some b))(hA:w.heap.size<=A)(m y1 y2 y3:Int)(x4 x5:ByteArray):w.grownBy (I7 W A m y1 y2 y3 x4 x5) (some b):=bJ (bJ (bJ (bJ (bJ (bJ h hA _ _) hA _ _) hA _ _) hA _ _) hA _ _) hA _ _
theorem G2.gb{b v:Nat}{w u u':World}(h:w.grownBy u (some b))(hv:w.heap.size<=v)(hg:G2 b v u u'):w.grownBy u' (some b) :=
 ⟨hg.os.trans h.os,hg.tape.trans h.tape,hg.output.trans h.output,Nat.le_trans h.size hg.size,fun k hk hn=>(hg.block k (Nat.lt_of_lt_of_le hk h.size) (by simpa using hn) (by omega)).trans (h.block k hk hn)⟩
theorem G2.vp{b v A:Nat}{u u':World}{n z1 z2 z3:Int}{z4 z5:ByteArray}(h:VP A n z1 z2 z3 z4 z5 u)(hg:G2 b v u u')(h1:A≠b)(h2:A≠v):VP A n z1 z2 z3 z4 z5 u':=by
 unfold VP at h ⊢;rw[hg.block A ((aC h)) h1 h2];exact h
theorem G2.gr{b v g:Nat}{u u':World}(h:GR g b u)(hg:G2 b v u u')(h1:g≠b)(h2:g≠v)(hl:g<u.heap.size):GR g b u':=by
 unfold GR at h ⊢;unfold World.cell? at h ⊢;rw[hg.block g hl h1 h2];exact h
theorem GR.lt{g b:Nat}{w:World}(h:GR g b w):g<w.heap.size:=cell_lt h
def WN(b:Nat)(s:ByteArray)(R:Int × Nat × Pa)(w:World)(e:Ending)(w':World):Prop :=
 ∃(m y1 y2 y3:Int) (P Q:ByteArray) (j:Nat) (c:Nat),e=.returned (.agg #[.int .i64 m,.int .i64 y1,.int .i64 y2,.int .i64 y3,.string P,.string Q])/\VS b s j R.1 c w'/\w.grownBy w' (some b)/\(R.1=0->j=R.2.1/\m=(R.2.2.n:Int)/\y1=R.2.2.a/\y2=R.2.2.b/\y3=R.2.2.c/\P=⟨R.2.2.pre.toArray⟩)/\(¬R.1=0->c=R.2.1)
def WO(b:Nat)(s:ByteArray)(E:Int)(a:Nat)(w:World)(e:Ending)(w':World):Prop :=
 ∃(m y1 y2 y3:Int) (P Q:ByteArray) (j:Nat),e=.returned (.agg #[.int .i64 m,.int .i64 y1,.int .i64 y2,.int .i64 y3,.string P,.string Q])/\VS b s j E a w'/\w.grownBy w' (some b)/\j<=s.size
theorem ags(g b:Nat)(s:ByteArray)(i:Nat)(E:Int)(a:Nat)(w:World)(hE:¬E=0)(hi:i<=s.size)(hgb:g≠b)(hg:GR g b w)(h:VS b s i E a w)(hs:s.size<2 ^ 61) :
  Calls prog 76 #[.pointer (some ⟨g,0,none⟩)] w (WO b s E a w):=by
 have HG:=ae hg;have HV:=ae h;have HB0:Hd (b<w.heap.size/\g<w.heap.size/\g≠b):=⟨(aC h),GR.lt hg,hgb⟩;have CW:=ae (fun w (h1:GR g b w) (h2:VS b s i E a w)=>afw g b s i E a w hE h1 h2);have CN:=ae (fun w (h1:VS b s i E a w)=>afr b s i E hE a w hi h1 (by omega));have CI:=ae (fun j t w (h1:GR g b w) (h2:VS b s j E a w)=>Fv g b s t j E a w hE h1 h2);clear h hg hgb hE hs hi;go_enter func76,ntmps76;go_wp2_with (fail);obtain⟨A,hA⟩:=zN (w.heap.size);obtain⟨W,hW⟩:=zN ((w.alloc (.cells #[.int .i64 0,.int .i64 0,.int .i64 0,.int .i64 0,.string ⟨#[]⟩,.string ⟨#[]⟩] 105)).alloc (.cells #[.int .i64 0,.int .i64 0,.int .i64 0,.int .i64 0,.string ⟨#[]⟩,.string ⟨#[]⟩] 105));have hgW:w.grownBy W none:=by rw[<-hW];exact ak (ak (ai w none) _) _
 have aG:Hd (VP A 0 0 0 0 ⟨#[]⟩ ⟨#[]⟩ W):=by
  show VP A 0 0 0 0 _ _ W;unfold VP;rw[<-hW,<-hA,Lib.alloc_old _ _ _ (by simp)];exact heap_alloc_new w _
 have aJ:Hd (VP (A+1) 0 0 0 0 ⟨#[]⟩ ⟨#[]⟩ W):=by
  show VP (A+1) 0 0 0 0 _ _ W;unfold VP;rw[<-hW,<-hA];exact nT w _ _
 have ay:Hd (b≠A/\b≠A+1/\g≠A/\g≠A+1/\g≠b/\A≠A+1/\A≠b/\A+1≠b/\w.heap.size<=A/\w.heap.size<=A+1):=by have:=HB0.o;refine⟨?_,?_,?_,?_,?_,?_,?_,?_,?_,?_⟩<;>omega
 replace HG:=ae (HG.o.grow hgW);replace HV:Hd (VS b s i E a W):=by show W.heap[b]?=_;rw[hgW.block b HB0.o.1 (by simp)];exact HV.o
 have HW:Hd (w.grownBy W (some b)):=dA hgW _
 try rw[hW]
 try rw[hA]
 clear hgW hW hA;go_wp2_with (go_at_call 107;refine(CW.o _ HG.o HV.o).mono ?_);rintro e u1 ⟨rfl,n,hn⟩;replace HV:Hd (VS b s (i) E a u1):=by show VS _ _ _ _ _ u1;rw[hn];exact HV.o.drew _
 replace HG:Hd (GR g b u1):=by show GR g b u1;rw[hn];exact HG.o
 replace aG:Hd (VP A 0 0 0 0 ⟨#[]⟩ ⟨#[]⟩ u1):=by show VP A _ _ _ _ _ _ u1;rw[hn];exact aG.o
 replace aJ:Hd (VP (A+1) 0 0 0 0 ⟨#[]⟩ ⟨#[]⟩ u1):=by show VP _ _ _ _ _ _ _ u1;rw[hn];exact aJ.o
 replace HW:Hd (w.grownBy u1 (some b)):=by show w.grownBy u1 (some b);rw[hn];exact aH HW.o _
 clear hn;have g0:u1.cell? ⟨g,0,none⟩=some (.pointer (some ⟨b,0,none⟩)):=HG.o;go_wp2_with (go_at_call 45;refine(CN.o _ HV.o).mono ?_);rintro e u2 ⟨v,j,rfl,hv,hg,hj⟩;have HJ:=ae hj;replace HV:=ae hv;replace HG:=ae (HG.o.growb hg ay.o.2.2.2.2.1);replace aG:=ae (aG.o.grow hg ay.o.2.2.2.2.2.2.1);replace aJ:=ae (aJ.o.grow hg ay.o.2.2.2.2.2.2.2.1);replace HW:=ae (ag HW.o hg);clear hv hg;clear hj g0;obtain⟨c0,c1,c2,c3,c4,c5⟩:=aJ.o.cells;have cf:=aJ.o.f;go_wp2_with (go_at_call 44;refine(CI.o j _ _ ((HG.o.other ay.o.2.2.2.1 _ _).other ay.o.2.2.2.1 _ _) ((HV.o.other ay.o.2.1 _ _).other ay.o.2.1 _ _)).mono ?_);rintro e u3 ⟨rfl,n,hn⟩;replace HV:Hd (VS b s j E a u3):=by show VS _ _ _ _ _ u3;rw[hn];exact(((HV.o.other ay.o.2.1 _ _).other ay.o.2.1 _ _)).drew _
 replace aG:Hd (VP A 0 0 0 0 ⟨#[]⟩ ⟨#[]⟩ u3):=by show VP A _ _ _ _ _ _ u3;rw[hn];exact(aG.o.other ay.o.2.2.2.2.2.1 _ _).other ay.o.2.2.2.2.2.1 _ _
 replace aJ:Hd (VP (A+1) 1 v 0 0 ⟨#[]⟩ ⟨#[]⟩ u3):=by show VP _ _ _ _ _ _ _ u3;rw[hn];exact(aJ.o.set0 _).setN _
 replace HW:Hd (w.grownBy u3 (some b)):=by show w.grownBy u3 (some b);rw[hn];exact aH (bJ (bJ HW.o ay.o.2.2.2.2.2.2.2.2.2 _ _) ay.o.2.2.2.2.2.2.2.2.2 _ _) _
 clear hn c0 c1 c2 c3 c4 c5 cf;obtain⟨a0,a1,a2,a3,a4,a5⟩:=aG.o.cells;have af:=aG.o.f;obtain⟨c0,c1,c2,c3,c4,c5⟩:=aJ.o.cells;have cf:=aJ.o.f;obtain⟨n1,n2,n3,n4,n5,n6,n7,n8,n9,n10⟩:=ay.o;clear n9 n10;go_wp2;have hrow:=uH (w:=u3) aG.o 1 v 0 0 ⟨#[]⟩ ⟨#[]⟩;exact bodyPost_ret (results_cell_row rfl _ _ A _ _ (0,0) _ rfl hrow underlying105 rfl (by kernel_rfl)) rfl ⟨1,v,0,0,⟨#[]⟩,⟨#[]⟩,j,rfl,uI HV.o ay.o.1 _ _ _ _ _ _,uJ HW.o ay.o.2.2.2.2.2.2.2.2.1 _ _ _ _ _ _,HJ.o⟩
theorem agt(g b:Nat)(s:ByteArray)(i:Nat)(a:Nat)(w:World)(hi:i<=s.size)(hgb:g≠b)(hg:GR g b w)(h:VS b s i 0 a w)(hs:s.size<2 ^ 61) :
  Calls prog 76 #[.pointer (some ⟨g,0,none⟩)] w (WN b s (au s.data.toList i) w):=by
 have HG:=ae hg;have HV:=ae h;have HB0:Hd (b<w.heap.size/\g<w.heap.size/\g≠b):=⟨(aC h),GR.lt hg,hgb⟩;have CW:=ae (fun i a w (hi:i<=s.size) (h1:GR g b w) (h2:VS b s i 0 a w)=>afx g b s i a w hi hgb h1 h2 hs);have CN:=ae (fun i a w (hi:i<=s.size) (h1:VS b s i 0 a w)=>Tn b s i a w hi h1 (by omega));have CI:=ae (fun i c w (hi:i<=s.size) (h1:GR g b w) (h2:VS b s i 0 c w)=>IX g b s i 46 c w hi h1 h2 hs);have I8:Hd (∀(i:Nat) (E:Int) (c:Nat) w,¬E=0->GR g b w->VS b s i E c w->Calls prog 44 #[.pointer (some ⟨g,0,none⟩),.string ⟨#[46]⟩] w fun e w'=>e=.returned (.bool (false))/\∃n,w'=w.drewN n):=fun i E c w hE h1 h2=>Fv g b s _ i E c w hE h1 h2
 have CT:=ae (fun(v:Nat) (i:Nat) (c:Nat) (m:Int) (y1:Int) (y2:Int) (y3:Int) w (hi:i<=s.size) (h1:VS b s i 0 c w) (h2:VP v m y1 y2 y3 ⟨#[]⟩ ⟨#[]⟩ w) (h3:b≠v)=>afz b v s i c m y1 y2 y3 w hi h1 h2 h3 (by omega));have CTL:Hd (∀(v:Nat) (i:Nat) (E:Int) (c:Nat) w,¬E=0->VS b s i E c w->Calls prog 47 #[.pointer (some ⟨b,0,none⟩),.pointer (some ⟨v,1,none⟩)] w fun e w'=>e=.returned (.tuple #[])/\∃n,w'=w.drewN n):=fun v i E c w hE h1=>afy b v s i E hE c w h1
 obtain⟨l,hl⟩:=zN (s.data.toList);have hll:l.length=s.size:=by rw[<-hl];simp
 have bM:=ae hll;rw[hl]at CW CI ⊢;have Oi:Hd (∀i w e w',Lh b s i w e w'->∃(v:Int) (j:Nat) (E:Int) (c:Nat),e=.returned (.int .i64 v)/\VS b s j E c w'/\w.grownBy w' (some b)/\E=(rdNum l i).1/\(E=0->v=(rdNum l i).2.1/\j=(rdNum l i).2.2/\j<=s.size)/\(E≠0->c=(rdNum l i).2.2)):=fun i w e w' h=>by rw[<-hl];exact h
 have jZ:Hd (∀(v i:Nat) (m y1 y2 y3:Int) (w w':World),V6 b v s i m y1 y2 y3 w w'->∃(j:Nat) (E:Int) (c:Nat) (P B:ByteArray),VS b s j E c w'/\VP v m y1 y2 y3 P B w'/\G2 b v w w'/\E=(aN l i).1/\(E=0->P=⟨(aN l i).2.2.1.toArray⟩/\B=⟨(aN l i).2.2.2.toArray⟩/\j=(aN l i).2.1/\j<=s.size)/\(E≠0->c=(aN l i).2.1)):=fun v i m y1 y2 y3 w w' h=>by rw[<-hl];exact h
 obtain⟨R,hR⟩:=zN (au l i);rw[hR];have HRk:Hd (R=if dW l i=true then(0,i+1,pa0) else if(rdNum l i).1=0 then kE l (rdNum l i).2.2 (rdNum l i).2.1 else((rdNum l i).1,(rdNum l i).2.2,pa0)):=hR.symm;have sO:Hd (∀i,l[i]?=some 46->i+1<=s.size):=fun i hc=>by have:=kU hc;rw[hll]at this;exact this
 have mV:=ae hi;have nN:=ae hs;clear hl hll hR h hg hgb hs hi;go_enter func76,ntmps76;go_wp2_with (fail);obtain⟨A,hA⟩:=zN (w.heap.size);obtain⟨W,hW⟩:=zN ((w.alloc (.cells #[.int .i64 0,.int .i64 0,.int .i64 0,.int .i64 0,.string ⟨#[]⟩,.string ⟨#[]⟩] 105)).alloc (.cells #[.int .i64 0,.int .i64 0,.int .i64 0,.int .i64 0,.string ⟨#[]⟩,.string ⟨#[]⟩] 105));have hgW:w.grownBy W none:=by rw[<-hW];exact ak (ak (ai w none) _) _
 have aG:Hd (VP A 0 0 0 0 ⟨#[]⟩ ⟨#[]⟩ W):=by
  show VP A 0 0 0 0 _ _ W;unfold VP;rw[<-hW,<-hA,Lib.alloc_old _ _ _ (by simp)];exact heap_alloc_new w _
 have aJ:Hd (VP (A+1) 0 0 0 0 ⟨#[]⟩ ⟨#[]⟩ W):=by
  show VP (A+1) 0 0 0 0 _ _ W;unfold VP;rw[<-hW,<-hA];exact nT w _ _
 have ay:Hd (b≠A/\b≠A+1/\g≠A/\g≠A+1/\g≠b/\A≠A+1/\A≠b/\A+1≠b/\w.heap.size<=A/\w.heap.size<=A+1):=by have:=HB0.o;refine⟨?_,?_,?_,?_,?_,?_,?_,?_,?_,?_⟩<;>omega
 replace HG:=ae (HG.o.grow hgW);replace HV:Hd (VS b s i 0 a W):=by show W.heap[b]?=_;rw[hgW.block b HB0.o.1 (by simp)];exact HV.o
 have HW:Hd (w.grownBy W (some b)):=dA hgW _
 try rw[hW]
 try rw[hA]
 clear hgW hW hA;have iH:=ae mV.o
 cases hw0:dW l (i) with
 | true =>
  have HZ:Hd (R=(0,i+1,⟨0,0,0,0,[]⟩)):=by show R=_;rw[HRk.o,if_pos hw0];rfl
  have jg:Hd (∀w,GR g b w->VS b s (i) 0 a w->Calls prog 107 #[.pointer (some ⟨g,0,none⟩)] w fun e w'=>e=.returned (.bool true)/\VS b s (i+1) 0 a w'/\w.grownBy w' (some b)):=fun w h1 h2=>by have:=CW.o (i) a w iH.o h1 h2;rw[hw0]at this;exact this
  clear hw0;go_wp2_with (go_at_call 107;refine(jg.o _ HG.o HV.o).mono ?_);rintro e v0 ⟨rfl,hv,hg⟩;replace HV:=ae hv;replace HG:=ae (HG.o.growb hg ay.o.2.2.2.2.1);replace aG:=ae (aG.o.grow hg ay.o.2.2.2.2.2.2.1);replace aJ:=ae (aJ.o.grow hg ay.o.2.2.2.2.2.2.2.1);replace HW:=ae (ag HW.o hg);clear hv hg;obtain⟨a0,a1,a2,a3,a4,a5⟩:=aG.o.cells;have af:=aG.o.f;obtain⟨c0,c1,c2,c3,c4,c5⟩:=aJ.o.cells;have cf:=aJ.o.f;obtain⟨n1,n2,n3,n4,n5,n6,n7,n8,n9,n10⟩:=ay.o;clear n9 n10;go_wp2;have hrow:=uH (w:=v0) aG.o 0 0 0 0 ⟨#[]⟩ ⟨#[]⟩;exact bodyPost_ret (results_cell_row rfl _ _ A _ _ (0,0) _ rfl hrow underlying105 rfl (by kernel_rfl)) rfl (by rw[HZ.o];exact⟨0,0,0,0,⟨#[]⟩,⟨#[]⟩,i+1,a,rfl,uI HV.o ay.o.1 _ _ _ _ _ _,uJ HW.o ay.o.2.2.2.2.2.2.2.2.1 _ _ _ _ _ _,fun _=>⟨rfl,rfl,rfl,rfl,rfl,rfl⟩,fun h=>absurd rfl h⟩)
 | false =>
  have WP:Hd (R=if(rdNum l (i)).1=0 then kE l (rdNum l (i)).2.2 (rdNum l (i)).2.1 else((rdNum l (i)).1,(rdNum l (i)).2.2,pa0)):=by show R=_;rw[HRk.o,if_neg (by rw[hw0];decide)]
  have jg:Hd (∀w,GR g b w->VS b s (i) 0 a w->Calls prog 107 #[.pointer (some ⟨g,0,none⟩)] w fun e w'=>e=.returned (.bool false)/\VS b s (i) 0 a w'/\w.grownBy w' (some b)):=fun w h1 h2=>by have:=CW.o (i) a w iH.o h1 h2;rw[hw0]at this;exact this
  have yw:=ae (fun w (h:VS b s (i) 0 a w)=>CN.o (i) a w iH.o h);clear hw0 HRk;go_wp2_with (go_at_call 107;refine(jg.o _ HG.o HV.o).mono ?_);rintro e v0 ⟨rfl,hv,hg⟩;replace HV:=ae hv;replace HG:=ae (HG.o.growb hg ay.o.2.2.2.2.1);replace aG:=ae (aG.o.grow hg ay.o.2.2.2.2.2.2.1);replace aJ:=ae (aJ.o.grow hg ay.o.2.2.2.2.2.2.2.1);replace HW:=ae (ag HW.o hg);clear hv hg;have g0:v0.cell? ⟨g,0,none⟩=some (.pointer (some ⟨b,0,none⟩)):=HG.o;go_wp2_with (go_at_call 45;refine(yw.o _ HV.o).mono ?_);intro e z0 sH;obtain⟨x1,j0,E0,d0,rfl,hv,hg,hE,hok,herr⟩:=Oi.o _ _ _ _ sH;replace HV:=ae hv;replace HG:=ae (HG.o.growb hg ay.o.2.2.2.2.1);replace aG:=ae (aG.o.grow hg ay.o.2.2.2.2.2.2.1);replace aJ:=ae (aJ.o.grow hg ay.o.2.2.2.2.2.2.2.1);replace HW:=ae (ag HW.o hg);clear hv hg;have FU:Hd (E0=(rdNum l (i)).1/\(E0=0->x1=(rdNum l (i)).2.1/\j0=(rdNum l (i)).2.2/\j0<=s.size)/\(E0≠0->d0=(rdNum l (i)).2.2)):=⟨hE,hok,herr⟩
  clear sH hE hok herr g0;obtain⟨c0,c1,c2,c3,c4,c5⟩:=aJ.o.cells;have cf:=aJ.o.f;have g0:z0.cell? ⟨g,0,none⟩=some (.pointer (some ⟨b,0,none⟩)):=HG.o;have n4:=ay.o.2.2.2.1
  by_cases hz0:E0=0
  ·subst hz0;have WQ:=ae ((FU.o.2.1 rfl).2.2);have WS:Hd (R=kE l j0 x1):=by
    show R=_;have h1:=FU.o.1;obtain⟨e1,e2,_⟩:=FU.o.2.1 rfl;rw[WP.o,if_pos h1.symm,<-e1,<-e2]
   cases hc0:decide (l[j0]?=some 46) with
   | false =>
    have hc':=of_decide_eq_false hc0;have HZ:Hd (R=(0,j0,⟨1,x1,0,0,[]⟩)):=by show R=_;rw[WS.o];unfold kE;rw[if_neg hc']
    have qx:Hd (∀w,GR g b w->VS b s j0 0 d0 w->Calls prog 44 #[.pointer (some ⟨g,0,none⟩),.string ⟨#[46]⟩] w fun e w'=>e=.returned (.bool (false))/\∃n,w'=w.drewN n):=fun w h1 h2=>by have:=CI.o j0 d0 w WQ.o h1 h2;rw[hc0]at this;exact this
    clear hc0 hc';go_wp2_with (go_at_call 44;refine(qx.o _ ((HG.o.other ay.o.2.2.2.1 _ _).other ay.o.2.2.2.1 _ _) ((HV.o.other ay.o.2.1 _ _).other ay.o.2.1 _ _)).mono ?_);rintro e y0 ⟨rfl,n,hn⟩;replace HV:Hd (VS b s j0 0 d0 y0):=by show VS _ _ _ _ _ y0;rw[hn];exact((HV.o.other ay.o.2.1 _ _).other ay.o.2.1 _ _).drew _
    replace HG:Hd (GR g b y0):=by show GR g b y0;rw[hn];exact(HG.o.other ay.o.2.2.2.1 _ _).other ay.o.2.2.2.1 _ _
    replace aG:Hd (VP A 0 0 0 0 ⟨#[]⟩ ⟨#[]⟩ y0):=by show VP A _ _ _ _ _ _ y0;rw[hn];exact(aG.o.other ay.o.2.2.2.2.2.1 _ _).other ay.o.2.2.2.2.2.1 _ _
    replace aJ:Hd (VP (A+1) 1 x1 0 0 ⟨#[]⟩ ⟨#[]⟩ y0):=by show VP _ _ _ _ _ _ _ y0;rw[hn];exact(aJ.o.set0 _).setN _
    replace HW:Hd (w.grownBy y0 (some b)):=by show w.grownBy y0 (some b);rw[hn];exact aH (bJ (bJ HW.o ay.o.2.2.2.2.2.2.2.2.2 _ _) ay.o.2.2.2.2.2.2.2.2.2 _ _) _
    clear hn c0 c1 c2 c3 c4 c5 cf g0 n4;obtain⟨a0,a1,a2,a3,a4,a5⟩:=aG.o.cells;have af:=aG.o.f;obtain⟨c0,c1,c2,c3,c4,c5⟩:=aJ.o.cells;have cf:=aJ.o.f;obtain⟨n1,n2,n3,n4,n5,n6,n7,n8,n9,n10⟩:=ay.o;clear n9 n10;go_wp2;have hrow:=uH (w:=y0) aG.o 1 x1 0 0 ⟨#[]⟩ ⟨#[]⟩;exact bodyPost_ret (results_cell_row rfl _ _ A _ _ (0,0) _ rfl hrow underlying105 rfl (by kernel_rfl)) rfl (by rw[HZ.o];exact⟨1,x1,0,0,⟨#[]⟩,⟨#[]⟩,j0,d0,rfl,uI HV.o ay.o.1 _ _ _ _ _ _,uJ HW.o ay.o.2.2.2.2.2.2.2.2.1 _ _ _ _ _ _,fun _=>⟨rfl,rfl,rfl,rfl,rfl,rfl⟩,fun h=>absurd rfl h⟩)
   | true =>
    have hc':=of_decide_eq_true hc0;have HRk:Hd (R=if dW l (j0+1)=true then(0,j0+1+1,⟨1,x1,0,0,[]⟩) else if(rdNum l (j0+1)).1=0 then kD l (rdNum l (j0+1)).2.2 x1 (rdNum l (j0+1)).2.1 else((rdNum l (j0+1)).1,(rdNum l (j0+1)).2.2,pa0)):=by show R=_;rw[WS.o];unfold kE;rw[if_pos hc']
    have rP:=ae (sO.o _ hc');have hwr:IntKind.i64.wrap ((j0:Int)+1)=((j0+1:Nat):Int):=by rw[IntKind.wrap_i64];have:=rP.o;have:=nN.o;omega
    have qx:Hd (∀w,GR g b w->VS b s j0 0 d0 w->Calls prog 44 #[.pointer (some ⟨g,0,none⟩),.string ⟨#[46]⟩] w fun e w'=>e=.returned (.bool (true))/\∃n,w'=w.drewN n):=fun w h1 h2=>by have:=CI.o j0 d0 w WQ.o h1 h2;rw[hc0]at this;exact this
    clear hc0 hc';go_wp2_with (go_at_call 44;refine(qx.o _ ((HG.o.other ay.o.2.2.2.1 _ _).other ay.o.2.2.2.1 _ _) ((HV.o.other ay.o.2.1 _ _).other ay.o.2.1 _ _)).mono ?_);rintro e y0 ⟨rfl,n,hn⟩;replace HV:Hd (VS b s j0 0 d0 y0):=by show VS _ _ _ _ _ y0;rw[hn];exact((HV.o.other ay.o.2.1 _ _).other ay.o.2.1 _ _).drew _
    replace HG:Hd (GR g b y0):=by show GR g b y0;rw[hn];exact(HG.o.other ay.o.2.2.2.1 _ _).other ay.o.2.2.2.1 _ _
    replace aG:Hd (VP A 0 0 0 0 ⟨#[]⟩ ⟨#[]⟩ y0):=by show VP A _ _ _ _ _ _ y0;rw[hn];exact(aG.o.other ay.o.2.2.2.2.2.1 _ _).other ay.o.2.2.2.2.2.1 _ _
    replace aJ:Hd (VP (A+1) 1 x1 0 0 ⟨#[]⟩ ⟨#[]⟩ y0):=by show VP _ _ _ _ _ _ _ y0;rw[hn];exact(aJ.o.set0 _).setN _
    replace HW:Hd (w.grownBy y0 (some b)):=by show w.grownBy y0 (some b);rw[hn];exact aH (bJ (bJ HW.o ay.o.2.2.2.2.2.2.2.2.2 _ _) ay.o.2.2.2.2.2.2.2.2.2 _ _) _
    clear hn c0 c1 c2 c3 c4 c5 cf g0 n4;have b1:=HV.o.c1;have bf:=HV.o.f1;have g0:y0.cell? ⟨g,0,none⟩=some (.pointer (some ⟨b,0,none⟩)):=HG.o;go_wp2_with (fail);obtain⟨q0,hq⟩:=zN (y0.setCell ⟨b,1,none⟩ (.int .i64 ((j0:Int)+1)));replace HV:Hd (VS b s (j0+1) 0 d0 q0):=by show VS _ _ _ _ _ q0;rw[<-hq,show((j0:Int)+1)=((j0+1:Nat):Int) by omega];exact HV.o.set1 _
    replace HG:Hd (GR g b q0):=by show GR g b q0;rw[<-hq];exact HG.o.other ay.o.2.2.2.2.1 _ _
    replace aG:Hd (VP A 0 0 0 0 ⟨#[]⟩ ⟨#[]⟩ q0):=by show VP A _ _ _ _ _ _ q0;rw[<-hq];exact aG.o.other ay.o.2.2.2.2.2.2.1 _ _
    replace aJ:Hd (VP (A+1) 1 x1 0 0 ⟨#[]⟩ ⟨#[]⟩ q0):=by show VP _ _ _ _ _ _ _ q0;rw[<-hq];exact aJ.o.other ay.o.2.2.2.2.2.2.2.1 _ _
    replace HW:Hd (w.grownBy q0 (some b)):=by show w.grownBy q0 (some b);rw[<-hq];exact bI HW.o _ _
    try rw[hq]
    clear hq b1 bf g0 hwr
    cases hw1:dW l (j0+1) with
    | true =>
     have HZ:Hd (R=(0,j0+1+1,⟨1,x1,0,0,[]⟩)):=by show R=_;rw[HRk.o,if_pos hw1]
     have jg:Hd (∀w,GR g b w->VS b s (j0+1) 0 d0 w->Calls prog 107 #[.pointer (some ⟨g,0,none⟩)] w fun e w'=>e=.returned (.bool true)/\VS b s (j0+1+1) 0 d0 w'/\w.grownBy w' (some b)):=fun w h1 h2=>by have:=CW.o (j0+1) d0 w rP.o h1 h2;rw[hw1]at this;exact this
     clear hw1;refine(jg.o _ HG.o HV.o).mono ?_;rintro e v1 ⟨rfl,hv,hg⟩;replace HV:=ae hv;replace HG:=ae (HG.o.growb hg ay.o.2.2.2.2.1);replace aG:=ae (aG.o.grow hg ay.o.2.2.2.2.2.2.1);replace aJ:=ae (aJ.o.grow hg ay.o.2.2.2.2.2.2.2.1);replace HW:=ae (ag HW.o hg);clear hv hg;obtain⟨a0,a1,a2,a3,a4,a5⟩:=aG.o.cells;have af:=aG.o.f;obtain⟨c0,c1,c2,c3,c4,c5⟩:=aJ.o.cells;have cf:=aJ.o.f;obtain⟨n1,n2,n3,n4,n5,n6,n7,n8,n9,n10⟩:=ay.o;clear n9 n10;go_wp2;have hrow:=uH (w:=v1) aG.o 1 x1 0 0 ⟨#[]⟩ ⟨#[]⟩;exact bodyPost_ret (results_cell_row rfl _ _ A _ _ (0,0) _ rfl hrow underlying105 rfl (by kernel_rfl)) rfl (by rw[HZ.o];exact⟨1,x1,0,0,⟨#[]⟩,⟨#[]⟩,j0+1+1,d0,rfl,uI HV.o ay.o.1 _ _ _ _ _ _,uJ HW.o ay.o.2.2.2.2.2.2.2.2.1 _ _ _ _ _ _,fun _=>⟨rfl,rfl,rfl,rfl,rfl,rfl⟩,fun h=>absurd rfl h⟩)
    | false =>
     have WT:Hd (R=if(rdNum l (j0+1)).1=0 then kD l (rdNum l (j0+1)).2.2 x1 (rdNum l (j0+1)).2.1 else((rdNum l (j0+1)).1,(rdNum l (j0+1)).2.2,pa0)):=by show R=_;rw[HRk.o,if_neg (by rw[hw1];decide)]
     have jg:Hd (∀w,GR g b w->VS b s (j0+1) 0 d0 w->Calls prog 107 #[.pointer (some ⟨g,0,none⟩)] w fun e w'=>e=.returned (.bool false)/\VS b s (j0+1) 0 d0 w'/\w.grownBy w' (some b)):=fun w h1 h2=>by have:=CW.o (j0+1) d0 w rP.o h1 h2;rw[hw1]at this;exact this
     have yw:=ae (fun w (h:VS b s (j0+1) 0 d0 w)=>CN.o (j0+1) d0 w rP.o h);clear hw1 HRk;refine(jg.o _ HG.o HV.o).mono ?_;rintro e v1 ⟨rfl,hv,hg⟩;replace HV:=ae hv;replace HG:=ae (HG.o.growb hg ay.o.2.2.2.2.1);replace aG:=ae (aG.o.grow hg ay.o.2.2.2.2.2.2.1);replace aJ:=ae (aJ.o.grow hg ay.o.2.2.2.2.2.2.2.1);replace HW:=ae (ag HW.o hg);clear hv hg;have g0:v1.cell? ⟨g,0,none⟩=some (.pointer (some ⟨b,0,none⟩)):=HG.o;go_wp2_with (go_at_call 45;refine(yw.o _ HV.o).mono ?_);intro e z1 sH;obtain⟨x2,j1,E1,d1,rfl,hv,hg,hE,hok,herr⟩:=Oi.o _ _ _ _ sH;replace HV:=ae hv;replace HG:=ae (HG.o.growb hg ay.o.2.2.2.2.1);replace aG:=ae (aG.o.grow hg ay.o.2.2.2.2.2.2.1);replace aJ:=ae (aJ.o.grow hg ay.o.2.2.2.2.2.2.2.1);replace HW:=ae (ag HW.o hg);clear hv hg;have FV:Hd (E1=(rdNum l (j0+1)).1/\(E1=0->x2=(rdNum l (j0+1)).2.1/\j1=(rdNum l (j0+1)).2.2/\j1<=s.size)/\(E1≠0->d1=(rdNum l (j0+1)).2.2)):=⟨hE,hok,herr⟩
     clear sH hE hok herr g0;obtain⟨c0,c1,c2,c3,c4,c5⟩:=aJ.o.cells;have cf:=aJ.o.f;have g0:z1.cell? ⟨g,0,none⟩=some (.pointer (some ⟨b,0,none⟩)):=HG.o;have n4:=ay.o.2.2.2.1
     by_cases hz1:E1=0
     ·subst hz1;have WU:=ae ((FV.o.2.1 rfl).2.2);have WV:Hd (R=kD l j1 x1 x2):=by
       show R=_;have h1:=FV.o.1;obtain⟨e1,e2,_⟩:=FV.o.2.1 rfl;rw[WT.o,if_pos h1.symm,<-e1,<-e2]
      cases hc1:decide (l[j1]?=some 46) with
      | false =>
       have hc':=of_decide_eq_false hc1;have HZ:Hd (R=(0,j1,⟨2,x1,x2,0,[]⟩)):=by show R=_;rw[WV.o];unfold kD;rw[if_neg hc']
       have qx:Hd (∀w,GR g b w->VS b s j1 0 d1 w->Calls prog 44 #[.pointer (some ⟨g,0,none⟩),.string ⟨#[46]⟩] w fun e w'=>e=.returned (.bool (false))/\∃n,w'=w.drewN n):=fun w h1 h2=>by have:=CI.o j1 d1 w WU.o h1 h2;rw[hc1]at this;exact this
       clear hc1 hc';go_wp2_with (go_at_call 44;refine(qx.o _ ((HG.o.other ay.o.2.2.2.1 _ _).other ay.o.2.2.2.1 _ _) ((HV.o.other ay.o.2.1 _ _).other ay.o.2.1 _ _)).mono ?_);rintro e y1 ⟨rfl,n,hn⟩;replace HV:Hd (VS b s j1 0 d1 y1):=by show VS _ _ _ _ _ y1;rw[hn];exact((HV.o.other ay.o.2.1 _ _).other ay.o.2.1 _ _).drew _
       replace HG:Hd (GR g b y1):=by show GR g b y1;rw[hn];exact(HG.o.other ay.o.2.2.2.1 _ _).other ay.o.2.2.2.1 _ _
       replace aG:Hd (VP A 0 0 0 0 ⟨#[]⟩ ⟨#[]⟩ y1):=by show VP A _ _ _ _ _ _ y1;rw[hn];exact(aG.o.other ay.o.2.2.2.2.2.1 _ _).other ay.o.2.2.2.2.2.1 _ _
       replace aJ:Hd (VP (A+1) 2 x1 x2 0 ⟨#[]⟩ ⟨#[]⟩ y1):=by show VP _ _ _ _ _ _ _ y1;rw[hn];exact(aJ.o.set1 _).setN _
       replace HW:Hd (w.grownBy y1 (some b)):=by show w.grownBy y1 (some b);rw[hn];exact aH (bJ (bJ HW.o ay.o.2.2.2.2.2.2.2.2.2 _ _) ay.o.2.2.2.2.2.2.2.2.2 _ _) _
       clear hn c0 c1 c2 c3 c4 c5 cf g0 n4;obtain⟨a0,a1,a2,a3,a4,a5⟩:=aG.o.cells;have af:=aG.o.f;obtain⟨c0,c1,c2,c3,c4,c5⟩:=aJ.o.cells;have cf:=aJ.o.f;obtain⟨n1,n2,n3,n4,n5,n6,n7,n8,n9,n10⟩:=ay.o;clear n9 n10;go_wp2;have hrow:=uH (w:=y1) aG.o 2 x1 x2 0 ⟨#[]⟩ ⟨#[]⟩;exact bodyPost_ret (results_cell_row rfl _ _ A _ _ (0,0) _ rfl hrow underlying105 rfl (by kernel_rfl)) rfl (by rw[HZ.o];exact⟨2,x1,x2,0,⟨#[]⟩,⟨#[]⟩,j1,d1,rfl,uI HV.o ay.o.1 _ _ _ _ _ _,uJ HW.o ay.o.2.2.2.2.2.2.2.2.1 _ _ _ _ _ _,fun _=>⟨rfl,rfl,rfl,rfl,rfl,rfl⟩,fun h=>absurd rfl h⟩)
      | true =>
       have hc':=of_decide_eq_true hc1;have HRk:Hd (R=if dW l (j1+1)=true then(0,j1+1+1,⟨2,x1,x2,0,[]⟩) else if(rdNum l (j1+1)).1=0 then pa3 l (rdNum l (j1+1)).2.2 x1 x2 (rdNum l (j1+1)).2.1 else((rdNum l (j1+1)).1,(rdNum l (j1+1)).2.2,pa0)):=by show R=_;rw[WV.o];unfold kD;rw[if_pos hc']
       have HJ2:=ae (sO.o _ hc');have hwr:IntKind.i64.wrap ((j1:Int)+1)=((j1+1:Nat):Int):=by rw[IntKind.wrap_i64];have:=HJ2.o;have:=nN.o;omega
       have qx:Hd (∀w,GR g b w->VS b s j1 0 d1 w->Calls prog 44 #[.pointer (some ⟨g,0,none⟩),.string ⟨#[46]⟩] w fun e w'=>e=.returned (.bool (true))/\∃n,w'=w.drewN n):=fun w h1 h2=>by have:=CI.o j1 d1 w WU.o h1 h2;rw[hc1]at this;exact this
       clear hc1 hc';go_wp2_with (go_at_call 44;refine(qx.o _ ((HG.o.other ay.o.2.2.2.1 _ _).other ay.o.2.2.2.1 _ _) ((HV.o.other ay.o.2.1 _ _).other ay.o.2.1 _ _)).mono ?_);rintro e y1 ⟨rfl,n,hn⟩;replace HV:Hd (VS b s j1 0 d1 y1):=by show VS _ _ _ _ _ y1;rw[hn];exact((HV.o.other ay.o.2.1 _ _).other ay.o.2.1 _ _).drew _
       replace HG:Hd (GR g b y1):=by show GR g b y1;rw[hn];exact(HG.o.other ay.o.2.2.2.1 _ _).other ay.o.2.2.2.1 _ _
       replace aG:Hd (VP A 0 0 0 0 ⟨#[]⟩ ⟨#[]⟩ y1):=by show VP A _ _ _ _ _ _ y1;rw[hn];exact(aG.o.other ay.o.2.2.2.2.2.1 _ _).other ay.o.2.2.2.2.2.1 _ _
       replace aJ:Hd (VP (A+1) 2 x1 x2 0 ⟨#[]⟩ ⟨#[]⟩ y1):=by show VP _ _ _ _ _ _ _ y1;rw[hn];exact(aJ.o.set1 _).setN _
       replace HW:Hd (w.grownBy y1 (some b)):=by show w.grownBy y1 (some b);rw[hn];exact aH (bJ (bJ HW.o ay.o.2.2.2.2.2.2.2.2.2 _ _) ay.o.2.2.2.2.2.2.2.2.2 _ _) _
       clear hn c0 c1 c2 c3 c4 c5 cf g0 n4;have b1:=HV.o.c1;have bf:=HV.o.f1;have g0:y1.cell? ⟨g,0,none⟩=some (.pointer (some ⟨b,0,none⟩)):=HG.o;go_wp2_with (fail);obtain⟨q1,hq⟩:=zN (y1.setCell ⟨b,1,none⟩ (.int .i64 ((j1:Int)+1)));replace HV:Hd (VS b s (j1+1) 0 d1 q1):=by show VS _ _ _ _ _ q1;rw[<-hq,show((j1:Int)+1)=((j1+1:Nat):Int) by omega];exact HV.o.set1 _
       replace HG:Hd (GR g b q1):=by show GR g b q1;rw[<-hq];exact HG.o.other ay.o.2.2.2.2.1 _ _
       replace aG:Hd (VP A 0 0 0 0 ⟨#[]⟩ ⟨#[]⟩ q1):=by show VP A _ _ _ _ _ _ q1;rw[<-hq];exact aG.o.other ay.o.2.2.2.2.2.2.1 _ _
       replace aJ:Hd (VP (A+1) 2 x1 x2 0 ⟨#[]⟩ ⟨#[]⟩ q1):=by show VP _ _ _ _ _ _ _ q1;rw[<-hq];exact aJ.o.other ay.o.2.2.2.2.2.2.2.1 _ _
       replace HW:Hd (w.grownBy q1 (some b)):=by show w.grownBy q1 (some b);rw[<-hq];exact bI HW.o _ _
       try rw[hq]
       clear hq b1 bf g0 hwr
       cases hw2:dW l (j1+1) with
       | true =>
        have HZ:Hd (R=(0,j1+1+1,⟨2,x1,x2,0,[]⟩)):=by show R=_;rw[HRk.o,if_pos hw2]
        have jg:Hd (∀w,GR g b w->VS b s (j1+1) 0 d1 w->Calls prog 107 #[.pointer (some ⟨g,0,none⟩)] w fun e w'=>e=.returned (.bool true)/\VS b s (j1+1+1) 0 d1 w'/\w.grownBy w' (some b)):=fun w h1 h2=>by have:=CW.o (j1+1) d1 w HJ2.o h1 h2;rw[hw2]at this;exact this
        clear hw2;refine(jg.o _ HG.o HV.o).mono ?_;rintro e v2 ⟨rfl,hv,hg⟩;replace HV:=ae hv;replace HG:=ae (HG.o.growb hg ay.o.2.2.2.2.1);replace aG:=ae (aG.o.grow hg ay.o.2.2.2.2.2.2.1);replace aJ:=ae (aJ.o.grow hg ay.o.2.2.2.2.2.2.2.1);replace HW:=ae (ag HW.o hg);clear hv hg;obtain⟨a0,a1,a2,a3,a4,a5⟩:=aG.o.cells;have af:=aG.o.f;obtain⟨c0,c1,c2,c3,c4,c5⟩:=aJ.o.cells;have cf:=aJ.o.f;obtain⟨n1,n2,n3,n4,n5,n6,n7,n8,n9,n10⟩:=ay.o;clear n9 n10;go_wp2;have hrow:=uH (w:=v2) aG.o 2 x1 x2 0 ⟨#[]⟩ ⟨#[]⟩;exact bodyPost_ret (results_cell_row rfl _ _ A _ _ (0,0) _ rfl hrow underlying105 rfl (by kernel_rfl)) rfl (by rw[HZ.o];exact⟨2,x1,x2,0,⟨#[]⟩,⟨#[]⟩,j1+1+1,d1,rfl,uI HV.o ay.o.1 _ _ _ _ _ _,uJ HW.o ay.o.2.2.2.2.2.2.2.2.1 _ _ _ _ _ _,fun _=>⟨rfl,rfl,rfl,rfl,rfl,rfl⟩,fun h=>absurd rfl h⟩)
       | false =>
        have WW:Hd (R=if(rdNum l (j1+1)).1=0 then pa3 l (rdNum l (j1+1)).2.2 x1 x2 (rdNum l (j1+1)).2.1 else((rdNum l (j1+1)).1,(rdNum l (j1+1)).2.2,pa0)):=by show R=_;rw[HRk.o,if_neg (by rw[hw2];decide)]
        have jg:Hd (∀w,GR g b w->VS b s (j1+1) 0 d1 w->Calls prog 107 #[.pointer (some ⟨g,0,none⟩)] w fun e w'=>e=.returned (.bool false)/\VS b s (j1+1) 0 d1 w'/\w.grownBy w' (some b)):=fun w h1 h2=>by have:=CW.o (j1+1) d1 w HJ2.o h1 h2;rw[hw2]at this;exact this
        have yw:=ae (fun w (h:VS b s (j1+1) 0 d1 w)=>CN.o (j1+1) d1 w HJ2.o h);clear hw2 HRk;refine(jg.o _ HG.o HV.o).mono ?_;rintro e v2 ⟨rfl,hv,hg⟩;replace HV:=ae hv;replace HG:=ae (HG.o.growb hg ay.o.2.2.2.2.1);replace aG:=ae (aG.o.grow hg ay.o.2.2.2.2.2.2.1);replace aJ:=ae (aJ.o.grow hg ay.o.2.2.2.2.2.2.2.1);replace HW:=ae (ag HW.o hg);clear hv hg;have g0:v2.cell? ⟨g,0,none⟩=some (.pointer (some ⟨b,0,none⟩)):=HG.o;go_wp2_with (go_at_call 45;refine(yw.o _ HV.o).mono ?_);intro e z2 sH;obtain⟨x3,j2,E2,d2,rfl,hv,hg,hE,hok,herr⟩:=Oi.o _ _ _ _ sH;replace HV:=ae hv;replace HG:=ae (HG.o.growb hg ay.o.2.2.2.2.1);replace aG:=ae (aG.o.grow hg ay.o.2.2.2.2.2.2.1);replace aJ:=ae (aJ.o.grow hg ay.o.2.2.2.2.2.2.2.1);replace HW:=ae (ag HW.o hg);clear hv hg;have FW:Hd (E2=(rdNum l (j1+1)).1/\(E2=0->x3=(rdNum l (j1+1)).2.1/\j2=(rdNum l (j1+1)).2.2/\j2<=s.size)/\(E2≠0->d2=(rdNum l (j1+1)).2.2)):=⟨hE,hok,herr⟩
        clear sH hE hok herr g0;obtain⟨c0,c1,c2,c3,c4,c5⟩:=aJ.o.cells;have cf:=aJ.o.f;have g0:z2.cell? ⟨g,0,none⟩=some (.pointer (some ⟨b,0,none⟩)):=HG.o;have n4:=ay.o.2.2.2.1
        by_cases hz2:E2=0
        ·subst hz2;have HQ2:=ae ((FW.o.2.1 rfl).2.2);have agu:Hd (R=pa3 l j2 x1 x2 x3):=by
          show R=_;have h1:=FW.o.1;obtain⟨e1,e2,_⟩:=FW.o.2.1 rfl;rw[WW.o,if_pos h1.symm,<-e1,<-e2]
         have CTx:=ae (fun w (h1:VS b s j2 0 d2 w) (h2:VP (A+1) 3 x1 x2 x3 ⟨#[]⟩ ⟨#[]⟩ w)=>CT.o (A+1) j2 d2 3 x1 x2 x3 w HQ2.o h1 h2 ay.o.2.1);go_wp2_with (go_at_call 47;refine(CTx.o _ ((HV.o.other ay.o.2.1 _ _).other ay.o.2.1 _ _) ((aJ.o.set2 _).setN _)).mono ?_);rintro e y2 ⟨rfl,htp⟩;obtain⟨jt,Et,ct,P,Q,hv,hvp,hg2,hE,hok,herr⟩:=jZ.o _ _ _ _ _ _ _ _ htp;replace HV:=ae hv;replace aG:=ae (G2.vp ((aG.o.other ay.o.2.2.2.2.2.1 _ _).other ay.o.2.2.2.2.2.1 _ _) hg2 ay.o.2.2.2.2.2.2.1 ay.o.2.2.2.2.2.1);replace aJ:=ae hvp;replace HW:=ae (G2.gb (bJ (bJ HW.o ay.o.2.2.2.2.2.2.2.2.2 _ _) ay.o.2.2.2.2.2.2.2.2.2 _ _) ay.o.2.2.2.2.2.2.2.2.2 hg2);have HZ:Hd (Et=R.1/\(Et=0->jt=R.2.1/\R.2.2=⟨3,x1,x2,x3,(aN l j2).2.2.1⟩/\P=⟨(aN l j2).2.2.1.toArray⟩)/\(¬Et=0->ct=R.2.1)):=by
          rw[agu.o];unfold pa3
          by_cases h0:Et=0
          ·obtain⟨p1,p2,p3,p4⟩:=hok h0;rw[if_pos (hE.symm.trans h0)];exact⟨h0,fun _=>⟨p3,rfl,p1⟩,fun h=>absurd h0 h⟩
          ·rw[if_neg (fun h=>h0 (hE.trans h))];exact⟨hE,fun h=>absurd h h0,fun _=>herr h0⟩
         clear hv hvp hg2 hE hok herr htp c0 c1 c2 c3 c4 c5 cf g0 n4;obtain⟨a0,a1,a2,a3,a4,a5⟩:=aG.o.cells;have af:=aG.o.f;obtain⟨c0,c1,c2,c3,c4,c5⟩:=aJ.o.cells;have cf:=aJ.o.f;obtain⟨n1,n2,n3,n4,n5,n6,n7,n8,n9,n10⟩:=ay.o;clear n9 n10;go_wp2;have hrow:=uH (w:=y2) aG.o 3 x1 x2 x3 P Q;exact bodyPost_ret (results_cell_row rfl _ _ A _ _ (0,0) _ rfl hrow underlying105 rfl (by kernel_rfl)) rfl (by
          refine⟨3,x1,x2,x3,P,Q,jt,ct,rfl,?_,uJ HW.o ay.o.2.2.2.2.2.2.2.2.1 _ _ _ _ _ _,?_,?_⟩
          ·rw[<-HZ.o.1];exact uI HV.o ay.o.1 _ _ _ _ _ _
          ·intro h0;obtain⟨p1,p2,p3⟩:=HZ.o.2.1 (HZ.o.1.trans h0);rw[p2];exact⟨p1,rfl,rfl,rfl,rfl,p3⟩
          ·intro h0;exact HZ.o.2.2 (fun h=>h0 (HZ.o.1.symm.trans h)))
        ·have HZ:Hd (R=(E2,d2,pa0)):=by
          show R=_;have h1:=FW.o.1;rw[WW.o,if_neg (by rw[<-h1];exact hz2),<-h1,<-FW.o.2.2 hz2]
         have fM:=ae hz2;clear hz2;have qx:=ae (fun w (h2:VS b s j2 E2 d2 w)=>CTL.o (A+1) j2 E2 d2 w fM.o h2);go_wp2_with (go_at_call 47;refine(qx.o _ ((HV.o.other ay.o.2.1 _ _).other ay.o.2.1 _ _)).mono ?_);rintro e y2 ⟨rfl,n,hn⟩;replace HV:Hd (VS b s j2 E2 d2 y2):=by show VS _ _ _ _ _ y2;rw[hn];exact((HV.o.other ay.o.2.1 _ _).other ay.o.2.1 _ _).drew _
         replace aG:Hd (VP A 0 0 0 0 ⟨#[]⟩ ⟨#[]⟩ y2):=by show VP A _ _ _ _ _ _ y2;rw[hn];exact(aG.o.other ay.o.2.2.2.2.2.1 _ _).other ay.o.2.2.2.2.2.1 _ _
         replace aJ:Hd (VP (A+1) 3 x1 x2 x3 ⟨#[]⟩ ⟨#[]⟩ y2):=by show VP _ _ _ _ _ _ _ y2;rw[hn];exact(aJ.o.set2 _).setN _
         replace HW:Hd (w.grownBy y2 (some b)):=by show w.grownBy y2 (some b);rw[hn];exact aH (bJ (bJ HW.o ay.o.2.2.2.2.2.2.2.2.2 _ _) ay.o.2.2.2.2.2.2.2.2.2 _ _) _
         clear hn c0 c1 c2 c3 c4 c5 cf g0 n4;obtain⟨a0,a1,a2,a3,a4,a5⟩:=aG.o.cells;have af:=aG.o.f;obtain⟨c0,c1,c2,c3,c4,c5⟩:=aJ.o.cells;have cf:=aJ.o.f;obtain⟨n1,n2,n3,n4,n5,n6,n7,n8,n9,n10⟩:=ay.o;clear n9 n10;go_wp2;have hrow:=uH (w:=y2) aG.o 3 x1 x2 x3 ⟨#[]⟩ ⟨#[]⟩;exact bodyPost_ret (results_cell_row rfl _ _ A _ _ (0,0) _ rfl hrow underlying105 rfl (by kernel_rfl)) rfl (by rw[HZ.o];exact⟨3,x1,x2,x3,⟨#[]⟩,⟨#[]⟩,j2,d2,rfl,uI HV.o ay.o.1 _ _ _ _ _ _,uJ HW.o ay.o.2.2.2.2.2.2.2.2.1 _ _ _ _ _ _,fun h=>absurd h fM.o,fun _=>rfl⟩)
     ·have HZ:Hd (R=(E1,d1,pa0)):=by
       show R=_;have h1:=FV.o.1;rw[WT.o,if_neg (by rw[<-h1];exact hz1),<-h1,<-FV.o.2.2 hz1]
      have fM:=ae hz1;clear hz1;have qx:=ae (fun w (h1:GR g b w) (h2:VS b s j1 E1 d1 w)=>I8.o j1 E1 d1 w fM.o h1 h2);go_wp2_with (go_at_call 44;refine(qx.o _ ((HG.o.other ay.o.2.2.2.1 _ _).other ay.o.2.2.2.1 _ _) ((HV.o.other ay.o.2.1 _ _).other ay.o.2.1 _ _)).mono ?_);rintro e y1 ⟨rfl,n,hn⟩;replace HV:Hd (VS b s j1 E1 d1 y1):=by show VS _ _ _ _ _ y1;rw[hn];exact((HV.o.other ay.o.2.1 _ _).other ay.o.2.1 _ _).drew _
      replace aG:Hd (VP A 0 0 0 0 ⟨#[]⟩ ⟨#[]⟩ y1):=by show VP A _ _ _ _ _ _ y1;rw[hn];exact(aG.o.other ay.o.2.2.2.2.2.1 _ _).other ay.o.2.2.2.2.2.1 _ _
      replace aJ:Hd (VP (A+1) 2 x1 x2 0 ⟨#[]⟩ ⟨#[]⟩ y1):=by show VP _ _ _ _ _ _ _ y1;rw[hn];exact(aJ.o.set1 _).setN _
      replace HW:Hd (w.grownBy y1 (some b)):=by show w.grownBy y1 (some b);rw[hn];exact aH (bJ (bJ HW.o ay.o.2.2.2.2.2.2.2.2.2 _ _) ay.o.2.2.2.2.2.2.2.2.2 _ _) _
      clear hn c0 c1 c2 c3 c4 c5 cf g0 n4;obtain⟨a0,a1,a2,a3,a4,a5⟩:=aG.o.cells;have af:=aG.o.f;obtain⟨c0,c1,c2,c3,c4,c5⟩:=aJ.o.cells;have cf:=aJ.o.f;obtain⟨n1,n2,n3,n4,n5,n6,n7,n8,n9,n10⟩:=ay.o;clear n9 n10;go_wp2;have hrow:=uH (w:=y1) aG.o 2 x1 x2 0 ⟨#[]⟩ ⟨#[]⟩;exact bodyPost_ret (results_cell_row rfl _ _ A _ _ (0,0) _ rfl hrow underlying105 rfl (by kernel_rfl)) rfl (by rw[HZ.o];exact⟨2,x1,x2,0,⟨#[]⟩,⟨#[]⟩,j1,d1,rfl,uI HV.o ay.o.1 _ _ _ _ _ _,uJ HW.o ay.o.2.2.2.2.2.2.2.2.1 _ _ _ _ _ _,fun h=>absurd h fM.o,fun _=>rfl⟩)
  ·have HZ:Hd (R=(E0,d0,pa0)):=by
    show R=_;have h1:=FU.o.1;rw[WP.o,if_neg (by rw[<-h1];exact hz0),<-h1,<-FU.o.2.2 hz0]
   have fM:=ae hz0;clear hz0;have qx:=ae (fun w (h1:GR g b w) (h2:VS b s j0 E0 d0 w)=>I8.o j0 E0 d0 w fM.o h1 h2);go_wp2_with (go_at_call 44;refine(qx.o _ ((HG.o.other ay.o.2.2.2.1 _ _).other ay.o.2.2.2.1 _ _) ((HV.o.other ay.o.2.1 _ _).other ay.o.2.1 _ _)).mono ?_);rintro e y0 ⟨rfl,n,hn⟩;replace HV:Hd (VS b s j0 E0 d0 y0):=by show VS _ _ _ _ _ y0;rw[hn];exact((HV.o.other ay.o.2.1 _ _).other ay.o.2.1 _ _).drew _
   replace aG:Hd (VP A 0 0 0 0 ⟨#[]⟩ ⟨#[]⟩ y0):=by show VP A _ _ _ _ _ _ y0;rw[hn];exact(aG.o.other ay.o.2.2.2.2.2.1 _ _).other ay.o.2.2.2.2.2.1 _ _
   replace aJ:Hd (VP (A+1) 1 x1 0 0 ⟨#[]⟩ ⟨#[]⟩ y0):=by show VP _ _ _ _ _ _ _ y0;rw[hn];exact(aJ.o.set0 _).setN _
   replace HW:Hd (w.grownBy y0 (some b)):=by show w.grownBy y0 (some b);rw[hn];exact aH (bJ (bJ HW.o ay.o.2.2.2.2.2.2.2.2.2 _ _) ay.o.2.2.2.2.2.2.2.2.2 _ _) _
   clear hn c0 c1 c2 c3 c4 c5 cf g0 n4;obtain⟨a0,a1,a2,a3,a4,a5⟩:=aG.o.cells;have af:=aG.o.f;obtain⟨c0,c1,c2,c3,c4,c5⟩:=aJ.o.cells;have cf:=aJ.o.f;obtain⟨n1,n2,n3,n4,n5,n6,n7,n8,n9,n10⟩:=ay.o;clear n9 n10;go_wp2;have hrow:=uH (w:=y0) aG.o 1 x1 0 0 ⟨#[]⟩ ⟨#[]⟩;exact bodyPost_ret (results_cell_row rfl _ _ A _ _ (0,0) _ rfl hrow underlying105 rfl (by kernel_rfl)) rfl (by rw[HZ.o];exact⟨1,x1,0,0,⟨#[]⟩,⟨#[]⟩,j0,d0,rfl,uI HV.o ay.o.1 _ _ _ _ _ _,uJ HW.o ay.o.2.2.2.2.2.2.2.2.1 _ _ _ _ _ _,fun h=>absurd h fM.o,fun _=>rfl⟩)
open Go.RowKit
def dsT(k:Nat):List UInt8:=match k with|0=>[61]|1=>[62,61]|2=>[60,61]|3=>[62]|4=>[60]|5=>[94]|6=>[126]|_=>[]
def qZ(l:List UInt8)(i k:Nat):Bool:=Lib.hasPrefix (l.drop i) (dsT k)
theorem yx(l:List UInt8)(i:Nat):az l i=if qZ l i 1=true then(1,i+2) else if qZ l i 2=true then(2,i+2) else if qZ l i 3=true then(3,i+1) else if qZ l i 4=true then(4,i+1) else if qZ l i 5=true then(5,i+1) else if qZ l i 6=true then(6,i+1) else if qZ l i 0=true then(0,i+1) else(-1,i):=by
 have g4:fK l i 4=decide (l[i]?=some 61):=qO l i 61;have g5:fK l i 5=decide (l[i]?=some 94):=qO l i 94;have g6:fK l i 6=decide (l[i]?=some 126):=qO l i 126;rw[wE];show _=if fK l i 0=true then(1,i+2) else if fK l i 1=true then(2,i+2) else if fK l i 2=true then(3,i+1) else if fK l i 3=true then(4,i+1) else if fK l i 5=true then(5,i+1) else if fK l i 6=true then(6,i+1) else if fK l i 4=true then(0,i+1) else(-1,i);rw[g4,g5,g6]
 by_cases e:l[i]?=some 61
 ·simp[e]
 ·simp[e]
def WX:Array Value:=#[.string ⟨#[61]⟩,.string ⟨#[62,61]⟩,.string ⟨#[60,61]⟩,.string ⟨#[62]⟩,.string ⟨#[60]⟩,.string ⟨#[94]⟩,.string ⟨#[126]⟩]
theorem agv(k:Nat)(h1:1<=k)(h8:k<8):∃(n:Nat) (T:ByteArray),n<7/\k % 7=n/\Int.tmod (k:Int) 7=(n:Int)/\WX[n]?=some (.string T)/\T.data.toList=dsT n/\T.size<=2/\∀l i,(∀m,1<=m->m<k->qZ l i (m % 7)=false)->qZ l i n=true->az l i=((n:Int),i+T.size):=by
 rcases(by omega:k=1\/k=2\/k=3\/k=4\/k=5\/k=6\/k=7) with rfl|rfl|rfl|rfl|rfl|rfl|rfl
 ·exact⟨_,_,by decide,rfl,rfl,rfl,rfl,by decide,fun l i h p=>by rw[yx,if_pos p];rfl⟩
 ·exact⟨_,_,by decide,rfl,rfl,rfl,rfl,by decide,fun l i h p=>by rw[yx,if_neg (nf (h 1 (by omega) (by omega))),if_pos p];rfl⟩
 ·exact⟨_,_,by decide,rfl,rfl,rfl,rfl,by decide,fun l i h p=>by rw[yx,if_neg (nf (h 1 (by omega) (by omega))),if_neg (nf (h 2 (by omega) (by omega))),if_pos p];rfl⟩
 ·exact⟨_,_,by decide,rfl,rfl,rfl,rfl,by decide,fun l i h p=>by rw[yx,if_neg (nf (h 1 (by omega) (by omega))),if_neg (nf (h 2 (by omega) (by omega))),if_neg (nf (h 3 (by omega) (by omega))),if_pos p];rfl⟩
 ·exact⟨_,_,by decide,rfl,rfl,rfl,rfl,by decide,fun l i h p=>by rw[yx,if_neg (nf (h 1 (by omega) (by omega))),if_neg (nf (h 2 (by omega) (by omega))),if_neg (nf (h 3 (by omega) (by omega))),if_neg (nf (h 4 (by omega) (by omega))),if_pos p];rfl⟩
 ·exact⟨_,_,by decide,rfl,rfl,rfl,rfl,by decide,fun l i h p=>by rw[yx,if_neg (nf (h 1 (by omega) (by omega))),if_neg (nf (h 2 (by omega) (by omega))),if_neg (nf (h 3 (by omega) (by omega))),if_neg (nf (h 4 (by omega) (by omega))),if_neg (nf (h 5 (by omega) (by omega))),if_pos p];rfl⟩
 ·exact⟨_,_,by decide,rfl,rfl,rfl,rfl,by decide,fun l i h p=>by rw[yx,if_neg (nf (h 1 (by omega) (by omega))),if_neg (nf (h 2 (by omega) (by omega))),if_neg (nf (h 3 (by omega) (by omega))),if_neg (nf (h 4 (by omega) (by omega))),if_neg (nf (h 5 (by omega) (by omega))),if_neg (nf (h 6 (by omega) (by omega))),if_pos p];rfl⟩
def DR(D:Nat)(w:World):Prop:=w.heap[D]?=some (.cells WX 9 (0,0))
theorem agw(g b:Nat)(s:ByteArray)(i:Nat)(a:Nat)(w:World)(hi:i<=s.size)(hgb:g≠b)(hg:GR g b w)(h:VS b s i 0 a w)(hs:s.size<2 ^ 60) :
  Calls prog 75 #[.pointer (some ⟨g,0,none⟩)] w fun e w'=>e=.returned (.int .i64 (az s.data.toList i).1)/\VS b s (az s.data.toList i).2 0 a w'/\w.grownBy w' (some b):=by
 have CI:Hd (∀(k:Nat) (T:ByteArray) (w:World),T.data.toList=dsT k->T.size<2 ^ 61->GR g b w->VS b s i 0 a w->Calls prog 44 #[.pointer (some ⟨g,0,none⟩),.string T] w fun e w'=>e=.returned (.bool (qZ s.data.toList i k))/\∃n,w'=w.drewN n):=fun k T w hT ht h1 h2=>by
  have:=ND g b s T i a w hi h1 h2 (by omega) ht;rw[hT]at this;exact this
 obtain⟨l,hl⟩:=zN (s.data.toList);rw[hl]at CI ⊢;obtain⟨sg,j,hsg⟩:∃sg j,az l i=(sg,j):=⟨_,_,rfl⟩;have lX:=ae hsg;rw[hsg];simp only[];have HG:=ae hg;have HV:=ae h;have HB0:Hd (b<w.heap.size/\g<w.heap.size/\g≠b):=⟨(aC h),GR.lt hg,hgb⟩;have nN:Hd (i<=s.size/\s.size<2 ^ 60):=⟨hi,hs⟩;clear hl hsg h hg hgb hs hi;go_enter func75,ntmps75;go_wp2_with (fail);obtain⟨D,hD⟩:=zN (w.heap.size);obtain⟨W,hW⟩:=zN (w.alloc (.cells #[.string ⟨#[61]⟩,.string ⟨#[62,61]⟩,.string ⟨#[60,61]⟩,.string ⟨#[62]⟩,.string ⟨#[60]⟩,.string ⟨#[94]⟩,.string ⟨#[126]⟩] 9));have hgW:w.grownBy W none:=by rw[<-hW];exact ak (ai w none) _
 have HD:Hd (DR D W):=by show W.heap[D]?=_;rw[<-hW,<-hD];exact heap_alloc_new w _
 have nz:Hd (b≠D/\g≠D/\D≠b):=by have:=HB0.o;refine⟨?_,?_,?_⟩<;>omega
 replace HG:=ae (HG.o.grow hgW);replace HV:Hd (VS b s i 0 a W):=by show W.heap[b]?=_;rw[hgW.block b HB0.o.1 (by simp)];exact HV.o
 have HW:Hd (w.grownBy W (some b)):=dA hgW _
 try rw[hW]
 try rw[hD]
 clear hgW hW hD;go_loopw [4] (fun vk wr=>∃k:Nat,vk=.int .i64 k/\1<=k/\k<=8/\(∀m,1<=m->m<k->qZ l i (m % 7)=false)/\VS b s i 0 a wr/\GR g b wr/\DR D wr/\w.grownBy wr (some b)) (fun vk _=>8-(intOf vk).toNat)
 case atStart=>exact⟨1,rfl,by omega,by omega,fun m h1 h2=>by omega,HV.o,HG.o,HD.o,HW.o⟩
 case round =>
  obtain⟨k,rfl,hk1,hk8,hno,hv,hgr,hdr,hgw⟩:=hrel;clear HV HG HD HW;have HV:=ae hv;have HG:=ae hgr;have HD:=ae hdr;have HW:=ae hgw;have iQ:=ae hno;clear hv hgr hdr hgw hno
  by_cases h8:k=8
  ·subst h8;have kY:Hd (az l i=(-1,i)):=by
    show _=_;rw[yx,if_neg (nf (iQ.o 1 (by omega) (by omega))),if_neg (nf (iQ.o 2 (by omega) (by omega))),if_neg (nf (iQ.o 3 (by omega) (by omega))),if_neg (nf (iQ.o 4 (by omega) (by omega))),if_neg (nf (iQ.o 5 (by omega) (by omega))),if_neg (nf (iQ.o 6 (by omega) (by omega))),if_neg (nf (iQ.o 7 (by omega) (by omega)))]
   obtain⟨rfl,rfl⟩:sg=-1/\j=i:=by have:=lX.o.symm.trans kY.o;simpa using this
   go_wp2;go_ret;exact⟨rfl,HV.o,HW.o⟩
  ·obtain⟨n,T,hn7,hm1,hm2,hT0,hTs,hsz2,hsi⟩:=agv k hk1 (by omega);have N8:=ae hm1;have HT:=ae hTs;have Ny:=ae hsi;have HK:=ae (And.intro hk1 (show k<8 by omega));have d0:wr.cell? ⟨D,n,none⟩=some (.string T):=by rw[ah (show _=_ from HD.o)];exact hT0
   have HT0:=ae hT0;have aj0:(k:Int)<8:=by omega
   clear hTs hsi hT0 h8 hm1;obtain⟨q,hp⟩:=zN (qZ l i n);have CIk:Hd (∀w,GR g b w->VS b s i 0 a w->Calls prog 44 #[.pointer (some ⟨g,0,none⟩),.string T] w fun e w'=>e=.returned (.bool q)/\∃n,w'=w.drewN n):=fun w h1 h2=>by have:=CI.o n T w HT.o (by omega) h1 h2;rw[hp]at this;exact this
   have HP:=ae hp;clear hp;go_wp2_with (go_at_call 44;refine(CIk.o _ HG.o HV.o).mono ?_);rintro e u1 ⟨rfl,nn,hn⟩;replace HV:Hd (VS b s i 0 a u1):=by show VS _ _ _ _ _ u1;rw[hn];exact HV.o.drew _
   replace HG:Hd (GR g b u1):=by show GR g b u1;rw[hn];exact HG.o
   replace HD:Hd (DR D u1):=by show DR D u1;rw[hn];exact HD.o
   replace HW:Hd (w.grownBy u1 (some b)):=by show w.grownBy u1 (some b);rw[hn];exact aH HW.o _
   clear hn d0
   cases q with
   | true =>
    have kY:=ae (Ny.o l i iQ.o HP.o);obtain⟨rfl,rfl⟩:sg=n/\j=i+T.size:=by have:=lX.o.symm.trans kY.o;simpa using this
    have e0:u1.cell? ⟨g,0,none⟩=some (.pointer (some ⟨b,0,none⟩)):=HG.o;have e1:=HV.o.c1;have ef:=HV.o.f1;have e2:u1.cell? ⟨D,n,none⟩=some (.string T):=by rw[ah (show _=_ from HD.o)];exact HT0.o
    have hwr:IntKind.i64.wrap ((i:Int)+(T.size:Int))=(i:Int)+(T.size:Int):=by rw[IntKind.wrap_i64];have:=nN.o;omega
    go_wp2_with (fail)
    go_region
    have iZ:Hd (VS b s (i+T.size) 0 a (u1.setCell ⟨b,1,none⟩ (.int .i64 ((i:Int)+(T.size:Int)))).drew):=by show VS b s (i+T.size) 0 a (u1.setCell ⟨b,1,none⟩ (.int .i64 ((i:Int)+(T.size:Int))));rw[show((i:Int)+(T.size:Int))=((i+T.size:Nat):Int) by omega];exact HV.o.set1 _
    have HWF:Hd (w.grownBy (u1.setCell ⟨b,1,none⟩ (.int .i64 ((i:Int)+(T.size:Int)))).drew (some b)):=Kw (bI HW.o _ _);clear e0 e1 e2 ef hwr;go_wp2;go_ret;exact⟨rfl,iZ.o,HWF.o⟩
   | false =>
    go_wp2;go_roundw
    case rel=>exact⟨k+1,by go_num,by omega,by have:=HK.o;omega,fun m h1 h2=>by rcases Nat.lt_succ_iff_lt_or_eq.1 h2 with h|h;exact iQ.o m h1 h;rw[h,N8.o];exact HP.o,HV.o,HG.o,HD.o,HW.o⟩
    case measure=>have:=HK.o;simp[intOf];omega
end Go.Proofs.YtiinliaoojfjaaaGreatDoor
