import Derived.Test.YtnnbgjaphfhibaaGreatDoorN24
import Derived.Test.YtnnbgjaphfhibaaGreatDoorN17
import Derived.Test.YtnnbgjaphfhibaaGreatDoorN09
import Derived.Laws.AppendOwn
import Derived.Deep.RegionLaw
import Derived.Deep.AppendLies
import Derived.Test.YtnnbgjaphfhibaaGreatDoorN15
import Derived.Below
import Derived.Deep.RegionHeld3
import Derived.Test.YtnnbgjaphfhibaaGreatDoorN08
import Derived.Test.YtnnbgjaphfhibaaGreatDoorN18
import Derived.Maps.OwnSet
import Derived.Maps.OwnOps
import Derived.Maps.AppendAt
import Derived.Test.YtnnbgjaphfhibaaGreatDoorN07
set_option linter.unusedVariables false
set_option linter.unusedSimpArgs false
set_option maxRecDepth 100000
set_option maxHeartbeats 6400000
open Go.Proofs.Tryz
namespace Go.Proofs.YtnnbgjaphfhibaaGreatDoor
open Go.RowKit
structure RV(w:World)(A:Nat)(s:ByteArray)(j:Nat)(E:Int)(c:Nat)(y1 y2 y3:Int)(P B:ByteArray)(u:World):Prop where
 vs:VS (A+1) s j E c u
 vr:VR (A+2) y1 y2 y3 P B u
 vz:VR A 0 0 0 ⟨#[]⟩ ⟨#[]⟩ u
 gb:w.grownBy u none
 le:w.heap.size<=A
theorem RV.drew{w:World}{A:Nat}{s:ByteArray}{j:Nat}{E:Int}{c:Nat}{y1 y2 y3:Int}{P B:ByteArray}{u:World}(h:RV w A s j E c y1 y2 y3 P B u)(n:Nat):RV w A s j E c y1 y2 y3 P B (u.drewN n) :=
 ⟨h.vs.drew n,h.vr,h.vz,au h.gb n,h.le⟩
theorem RV.call{w:World}{A:Nat}{s:ByteArray}{j:Nat}{E:Int}{c:Nat}{y1 y2 y3:Int}{P B:ByteArray}{u u':World}(h:RV w A s j E c y1 y2 y3 P B u)(hg:u.grownBy u' (some (A+1))){j':Nat}{E':Int}{c':Nat}(hv:VS (A+1) s j' E' c' u'):RV w A s j' E' c' y1 y2 y3 P B u' :=
 ⟨hv,h.vr.grow hg (by omega),h.vz.grow hg (by omega),⟨hg.os.trans h.gb.os,hg.tape.trans h.gb.tape,hg.output.trans h.gb.output,Nat.le_trans h.gb.size hg.size,fun k hk _=>(hg.block k (Nat.lt_of_lt_of_le hk h.gb.size) (by have:=h.le;simp;omega)).trans (h.gb.block k hk (by simp))⟩,h.le⟩
theorem RV.two{w:World}{A:Nat}{s:ByteArray}{j:Nat}{E:Int}{c:Nat}{y1 y2 y3:Int}{P B:ByteArray}{u u':World}(h:RV w A s j E c y1 y2 y3 P B u)(hg:G2 (A+1) (A+2) u u'){j':Nat}{E':Int}{c':Nat}{P' B':ByteArray}(hv:VS (A+1) s j' E' c' u')(hr:VR (A+2) y1 y2 y3 P' B' u'):RV w A s j' E' c' y1 y2 y3 P' B' u' :=
 ⟨hv,hr,by have:=h.vz;unfold VR at this ⊢;rw[hg.block A ((kG this)) (by omega) (by omega)];exact this,⟨hg.os.trans h.gb.os,hg.tape.trans h.gb.tape,hg.output.trans h.gb.output,Nat.le_trans h.gb.size hg.size,fun k hk _=>(hg.block k (Nat.lt_of_lt_of_le hk h.gb.size) (by have:=h.le;omega) (by have:=h.le;omega)).trans (h.gb.block k hk (by simp))⟩,h.le⟩
theorem VR.set0{v:Nat}{y1 y2 y3:Int}{x4 x5:ByteArray}{w:World}(h:VR v y1 y2 y3 x4 x5 w)(z:Int):VR v z y2 y3 x4 x5 (w.setCell ⟨v,0,none⟩ (.int .i64 z)):=by
 unfold VR at h ⊢;simp[World.setCell,Array.getElem?_modify,h]
theorem VR.set1{v:Nat}{y1 y2 y3:Int}{x4 x5:ByteArray}{w:World}(h:VR v y1 y2 y3 x4 x5 w)(z:Int):VR v y1 z y3 x4 x5 (w.setCell ⟨v,1,none⟩ (.int .i64 z)):=by
 unfold VR at h ⊢;simp[World.setCell,Array.getElem?_modify,h]
theorem VR.set2{v:Nat}{y1 y2 y3:Int}{x4 x5:ByteArray}{w:World}(h:VR v y1 y2 y3 x4 x5 w)(z:Int):VR v y1 y2 z x4 x5 (w.setCell ⟨v,2,none⟩ (.int .i64 z)):=by
 unfold VR at h ⊢;simp[World.setCell,Array.getElem?_modify,h]
theorem RV.put0{w:World}{A:Nat}{s:ByteArray}{j:Nat}{E:Int}{c:Nat}{y1 y2 y3:Int}{P B:ByteArray}{u:World}(h:RV w A s j E c y1 y2 y3 P B u)(x:Int):RV w A s j E c x y2 y3 P B (u.setCell ⟨A+2,0,none⟩ (.int .i64 x)) :=
 ⟨h.vs.other (by omega) _ _,h.vr.set0 x,h.vz.other (by omega) _ _,uV h.gb (by have:=h.le;omega) _ _,h.le⟩
theorem RV.put1{w:World}{A:Nat}{s:ByteArray}{j:Nat}{E:Int}{c:Nat}{y1 y2 y3:Int}{P B:ByteArray}{u:World}(h:RV w A s j E c y1 y2 y3 P B u)(x:Int):RV w A s j E c y1 x y3 P B (u.setCell ⟨A+2,1,none⟩ (.int .i64 x)) :=
 ⟨h.vs.other (by omega) _ _,h.vr.set1 x,h.vz.other (by omega) _ _,uV h.gb (by have:=h.le;omega) _ _,h.le⟩
theorem RV.put2{w:World}{A:Nat}{s:ByteArray}{j:Nat}{E:Int}{c:Nat}{y1 y2 y3:Int}{P B:ByteArray}{u:World}(h:RV w A s j E c y1 y2 y3 P B u)(x:Int):RV w A s j E c y1 y2 x P B (u.setCell ⟨A+2,2,none⟩ (.int .i64 x)) :=
 ⟨h.vs.other (by omega) _ _,h.vr.set2 x,h.vz.other (by omega) _ _,uV h.gb (by have:=h.le;omega) _ _,h.le⟩
theorem RV.born(w:World)(s:ByteArray):RV w w.heap.size s 0 0 0 0 0 0 ⟨#[]⟩ ⟨#[]⟩ (((w.alloc (.cells #[.int .i64 0,.int .i64 0,.int .i64 0,.string ⟨#[]⟩,.string ⟨#[]⟩] 182)).alloc (.cells #[.string s,.int .i64 0,.int .i64 0,.int .i64 0] 237)).alloc (.cells #[.int .i64 0,.int .i64 0,.int .i64 0,.string ⟨#[]⟩,.string ⟨#[]⟩] 182)):=by
 refine⟨?_,?_,?_,dn (dn (dn (ak w none) _) _) _,Nat.le_refl _⟩
 ·unfold VS;rw[Lib.alloc_old _ _ _ (by simp)];exact Fz w _ _
 ·unfold VR;have:=Fz (w.alloc (.cells #[.int .i64 0,.int .i64 0,.int .i64 0,.string ⟨#[]⟩,.string ⟨#[]⟩] 182)) (.cells #[.string s,.int .i64 0,.int .i64 0,.int .i64 0] 237) (.cells #[.int .i64 0,.int .i64 0,.int .i64 0,.string ⟨#[]⟩,.string ⟨#[]⟩] 182);simpa using this
 ·unfold VR;rw[Lib.alloc_old _ _ _ (by simp;omega),Lib.alloc_old _ _ _ (by simp)];exact heap_alloc_new w _
theorem abM(s:ByteArray)(w:World)(hs:s.size<2 ^ 62) :
  Calls prog 125 #[.string s] w fun e w'=>e=.returned (.tuple #[Ro (jV s.data.toList).2.2,.int .i64 (jV s.data.toList).1,.int .i64 ((jV s.data.toList).2.1:Nat)])/\w.grownBy w' none:=by
 by_cases h100:100<s.size
 ·have hp:jV s.data.toList=(1,0,zeroV):=by unfold jV;rw[if_pos (by simpa using h100)]
  rw[hp];clear hp;go_enter func125,ntmps125;go_wp2;exact bodyPost_ret (oW (p:=2) (u:=3) (r:=4) rfl _ _ w.heap.size _ _ (0,0) _ rfl (heap_alloc_new w _) underlying182 rfl (by kernel_rfl)) rfl ⟨rfl,dn (ak w none) _⟩
 ·have hp:jV s.data.toList=dZ s.data.toList:=by unfold jV;rw[if_neg (by simpa using h100)]
  rw[hp];clear hp;obtain⟨l,hl⟩:∃l,l=s.data.toList:=⟨_,rfl⟩;have HL:Hd (l=s.data.toList/\l.length=s.size):=⟨hl,by rw[hl];simp⟩;have CN:Hd (∀b i a w,i<=s.size->VS b s i 0 a w->Calls prog 163 #[.pointer (some ⟨b,0,none⟩)] w (KA b s i w)):=fun b i a w hi h=>aaQ b s i a w hi h hs
  have MY:Hd (∀b i a w,l[i]?=some 46->VS b s i 0 a w->Calls prog 164 #[.pointer (some ⟨b,0,none⟩),.int .u8 46] w fun e w'=>e=.returned (.tuple #[])/\VS b s (i+1) 0 a w'/\w.grownBy w' (some b)):=fun b i a w hc h=>aaN b s i 0 a 46 w (by rw[<-hl];exact hc) h hs
  have MN:Hd (∀b i a w,i<=s.size->¬l[i]?=some 46->VS b s i 0 a w->Calls prog 164 #[.pointer (some ⟨b,0,none⟩),.int .u8 46] w fun e w'=>e=.returned (.tuple #[])/\VS b s i 2 i w'/\w.grownBy w' (some b)):=fun b i a w hi hc h=>aaO b s i a 46 w hi (by rw[<-hl];exact hc) h hs
  have CT:Hd (∀b v i a y1 y2 y3 w,i<=s.size->VS b s i 0 a w->VR v y1 y2 y3 ⟨#[]⟩ ⟨#[]⟩ w->b≠v->Calls prog 165 #[.pointer (some ⟨b,0,none⟩),.pointer (some ⟨v,0,none⟩)] w fun e w'=>e=.returned (.tuple #[])/\KJ b v s i y1 y2 y3 w w'):=fun b v i a y1 y2 y3 w hi h1 h2 h3=>aaT b v s i a y1 y2 y3 w hi h1 h2 h3 hs
  have HB:Hd (RV w w.heap.size s 0 0 0 0 0 0 ⟨#[]⟩ ⟨#[]⟩ (((w.alloc (.cells #[.int .i64 0,.int .i64 0,.int .i64 0,.string ⟨#[]⟩,.string ⟨#[]⟩] 182)).alloc (.cells #[.string s,.int .i64 0,.int .i64 0,.int .i64 0] 237)).alloc (.cells #[.int .i64 0,.int .i64 0,.int .i64 0,.string ⟨#[]⟩,.string ⟨#[]⟩] 182))):=RV.born w s;have qM:=Rn l;have hnr:=QE l;obtain⟨R,hR⟩:=zN (bQ l);obtain⟨X,hX⟩:=zN (dZ l);rw[hR]at qM hnr;rw[hX]at qM;rw[<-hl,hX];have HV:Hd (X=if R.1=0 then(if(bf l R.2.1).1=0 then(if(bf l R.2.1).2.1<l.length then(2,(bf l R.2.1).2.1,zeroV) else(0,0,⟨R.2.2.1,R.2.2.2.1,R.2.2.2.2,(bf l R.2.1).2.2.1,(bf l R.2.1).2.2.2⟩)) else((bf l R.2.1).1,(bf l R.2.1).2.1,zeroV)) else(R.1,R.2.1,zeroV)):=qM;have HR0:Hd (R=if(rdNum l 0).1=0 then o7 l (rdNum l 0).2.2 (rdNum l 0).2.1 else((rdNum l 0).1,(rdNum l 0).2.2,0,0,0)):=hnr
  have HS:Hd (s.size<2 ^ 62):=hs;clear hl qM hnr hR hX hs;go_enter func125,ntmps125;go_wp2_with (go_at_call 163;refine(CN.o _ 0 0 _ (Nat.zero_le _) HB.o.vs).mono ?_);rintro e u1 ⟨x1,j1,E1,c1,rfl,hvs,hg,hE,hok,herr⟩;obtain⟨A,hA⟩:=zN (w.heap.size);rw[hA]at HB hvs hg;rw[hA];have HA1:Hd (RV w A s j1 E1 c1 0 0 0 ⟨#[]⟩ ⟨#[]⟩ u1):=HB.o.call hg hvs;have lm:Hd (E1=(rdNum l 0).1/\(E1=0->x1=(rdNum l 0).2.1/\j1=(rdNum l 0).2.2/\j1<=s.size)/\(E1≠0->c1=(rdNum l 0).2.2)):=by rw[HL.o.1];exact⟨hE,hok,herr⟩
  clear hA hvs hg hE hok herr HB;obtain⟨U1,L8⟩:∃U,u1.setCell ⟨A+2,0,none⟩ (.int .i64 x1)=U:=⟨_,rfl⟩;have lg:Hd (RV w A s j1 E1 c1 x1 0 0 ⟨#[]⟩ ⟨#[]⟩ U1):=by show RV _ _ _ _ _ _ _ _ _ _ _ U1;rw[<-L8];exact HA1.o.put0 x1
  obtain⟨q0,q1,q2,q3,q4⟩:=HA1.o.vr.cells;have qf:=HA1.o.vr.f;have f0:=lg.o.vs.c0;have f1:=lg.o.vs.c1;have f2:=lg.o.vs.c2;have f3:=lg.o.vs.c3
  cases hz1:(E1 == 0) with
  | false =>
   have HZ:Hd (E1≠0):=by show E1≠0;simpa using hz1
   have FIN:Hd (X=(E1,c1,zeroV)):=by
    show X=_;have h9:¬(rdNum l 0).1=0:=fun e=>HZ.o (lm.o.1.trans e)
    have hr:=HR0.o;rw[if_neg h9,<-lm.o.1,<-lm.o.2.2 HZ.o]at hr;rw[HV.o,hr,if_neg HZ.o]
   go_wp2_with (go_at_call 165;refine(BF (A+1) (A+2) s j1 E1 HZ.o c1 _ lg.o.vs).mono ?_);rintro e t1 ⟨rfl,n,hn⟩;have HT:Hd (RV w A s j1 E1 c1 x1 0 0 ⟨#[]⟩ ⟨#[]⟩ t1):=by show RV _ _ _ _ _ _ _ _ _ _ _ t1;rw[hn];exact lg.o.drew n
   clear hn f0 f1 f2 f3;have f0:=HT.o.vs.c0;have f1:=HT.o.vs.c1;have f2:=HT.o.vs.c2;have f3:=HT.o.vs.c3;obtain⟨z0,z1,z2,z3,z4⟩:=HT.o.vz.cells;have zf:=HT.o.vz.f;go_wp2
   go_region
   go_wp2;refine bodyPost_ret (oW (p:=2) (u:=3) (r:=4) rfl _ _ A _ _ (0,0) _ rfl (vV HT.o.vz 0 0 0 ⟨#[]⟩ ⟨#[]⟩) underlying182 rfl (by kernel_rfl)) rfl ⟨?_,au (rH HT.o.gb HT.o.le 0 0 0 ⟨#[]⟩ ⟨#[]⟩) 1⟩;rw[FIN.o];rfl
  | true =>
   have h0:E1=0:=by simpa using hz1
   subst h0;clear hz1;have qL:Hd (j1<=s.size):=(lm.o.2.1 rfl).2.2;have HR1:Hd (R=o7 l j1 x1):=by
    show R=_;obtain⟨e1,e2,-⟩:=lm.o.2.1 rfl;have hr:=HR0.o;rw[if_pos lm.o.1.symm,<-e1,<-e2]at hr;exact hr
   clear lm HR0
   cases hc1:decide (l[j1]?=some 46) with
   | false =>
    have hc':=of_decide_eq_false hc1;have HZ:Hd ((2:Int)≠0):=by show(2:Int)≠0;decide
    have FIN:Hd (X=(2,j1,zeroV)):=by
     show X=_;have hr:=HR1.o;unfold o7 at hr;rw[if_neg hc']at hr;rw[HV.o,hr];rfl
    have CM:Hd (Calls prog 164 #[.pointer (some ⟨A+1,0,none⟩),.int .u8 46] U1 fun e w'=>e=.returned (.tuple #[])/\VS (A+1) s j1 2 j1 w'/\U1.grownBy w' (some (A+1))):=MN.o _ _ _ _ qL.o hc' lg.o.vs;clear hc1 hc';go_wp2_with (go_at_call 164;refine CM.o.mono ?_);rintro e v1 ⟨rfl,hvs,hg⟩;have HM:Hd (RV w A s j1 2 j1 x1 0 0 ⟨#[]⟩ ⟨#[]⟩ v1):=lg.o.call hg hvs;clear hvs hg f0 f1 f2 f3 q0 q1 q2 q3 q4 qf L8;have f0:=HM.o.vs.c0;have f1:=HM.o.vs.c1;have f2:=HM.o.vs.c2;have f3:=HM.o.vs.c3;go_wp2_with (go_at_call 165;refine(BF (A+1) (A+2) s j1 2 HZ.o j1 _ HM.o.vs).mono ?_);rintro e t1 ⟨rfl,n,hn⟩;have HT:Hd (RV w A s j1 2 j1 x1 0 0 ⟨#[]⟩ ⟨#[]⟩ t1):=by show RV _ _ _ _ _ _ _ _ _ _ _ t1;rw[hn];exact HM.o.drew n
    clear hn f0 f1 f2 f3;have f0:=HT.o.vs.c0;have f1:=HT.o.vs.c1;have f2:=HT.o.vs.c2;have f3:=HT.o.vs.c3;obtain⟨z0,z1,z2,z3,z4⟩:=HT.o.vz.cells;have zf:=HT.o.vz.f;go_wp2
    go_region
    go_wp2;refine bodyPost_ret (oW (p:=2) (u:=3) (r:=4) rfl _ _ A _ _ (0,0) _ rfl (vV HT.o.vz 0 0 0 ⟨#[]⟩ ⟨#[]⟩) underlying182 rfl (by kernel_rfl)) rfl ⟨?_,au (rH HT.o.gb HT.o.le 0 0 0 ⟨#[]⟩ ⟨#[]⟩) 1⟩;rw[FIN.o];rfl
   | true =>
    have hc':=of_decide_eq_true hc1;have HRn:Hd (R=if(rdNum l (j1+1)).1=0 then qC l (rdNum l (j1+1)).2.2 x1 (rdNum l (j1+1)).2.1 else((rdNum l (j1+1)).1,(rdNum l (j1+1)).2.2,0,0,0)):=by
     show R=_;have hr:=HR1.o;unfold o7 at hr;rw[if_pos hc']at hr;exact hr
    have o8:Hd (j1+1<=s.size):=by have:=(List.getElem?_eq_some_iff.1 hc').1;rw[HL.o.2]at this;exact this
    have CM:Hd (Calls prog 164 #[.pointer (some ⟨A+1,0,none⟩),.int .u8 46] U1 fun e w'=>e=.returned (.tuple #[])/\VS (A+1) s (j1+1) 0 c1 w'/\U1.grownBy w' (some (A+1))):=MY.o _ _ _ _ hc' lg.o.vs;clear hc1 hc';go_wp2_with (go_at_call 164;refine CM.o.mono ?_);rintro e v2 ⟨rfl,hvs,hg⟩;have lT:Hd (RV w A s (j1+1) 0 c1 x1 0 0 ⟨#[]⟩ ⟨#[]⟩ v2):=lg.o.call hg hvs;clear hvs hg f0 f1 f2 f3 q0 q1 q2 q3 q4 qf L8 HR1 CM;have f0:=lT.o.vs.c0;have f1:=lT.o.vs.c1;have f2:=lT.o.vs.c2;have f3:=lT.o.vs.c3;go_wp2_with (go_at_call 163;refine(CN.o _ (j1+1) c1 _ o8.o lT.o.vs).mono ?_);rintro e u2 ⟨x2,j2,E2,c2,rfl,hvs,hg,hE,hok,herr⟩;have HA2:Hd (RV w A s j2 E2 c2 x1 0 0 ⟨#[]⟩ ⟨#[]⟩ u2):=lT.o.call hg hvs;have iL:Hd (E2=(rdNum l (j1+1)).1/\(E2=0->x2=(rdNum l (j1+1)).2.1/\j2=(rdNum l (j1+1)).2.2/\j2<=s.size)/\(E2≠0->c2=(rdNum l (j1+1)).2.2)):=by rw[HL.o.1];exact⟨hE,hok,herr⟩
    clear hvs hg hE hok herr f0 f1 f2 f3;obtain⟨U2,L9⟩:∃U,u2.setCell ⟨A+2,1,none⟩ (.int .i64 x2)=U:=⟨_,rfl⟩;have sG:Hd (RV w A s j2 E2 c2 x1 x2 0 ⟨#[]⟩ ⟨#[]⟩ U2):=by show RV _ _ _ _ _ _ _ _ _ _ _ U2;rw[<-L9];exact HA2.o.put1 x2
    obtain⟨q0,q1,q2,q3,q4⟩:=HA2.o.vr.cells;have qf:=HA2.o.vr.f;have f0:=sG.o.vs.c0;have f1:=sG.o.vs.c1;have f2:=sG.o.vs.c2;have f3:=sG.o.vs.c3
    cases hz2:(E2 == 0) with
    | false =>
     have HZ:Hd (E2≠0):=by show E2≠0;simpa using hz2
     have FIN:Hd (X=(E2,c2,zeroV)):=by
      show X=_;have h9:¬(rdNum l (j1+1)).1=0:=fun e=>HZ.o (iL.o.1.trans e)
      have hr:=HRn.o;rw[if_neg h9,<-iL.o.1,<-iL.o.2.2 HZ.o]at hr;rw[HV.o,hr,if_neg HZ.o]
     go_wp2_with (go_at_call 165;refine(BF (A+1) (A+2) s j2 E2 HZ.o c2 _ sG.o.vs).mono ?_);rintro e t1 ⟨rfl,n,hn⟩;have HT:Hd (RV w A s j2 E2 c2 x1 x2 0 ⟨#[]⟩ ⟨#[]⟩ t1):=by show RV _ _ _ _ _ _ _ _ _ _ _ t1;rw[hn];exact sG.o.drew n
     clear hn f0 f1 f2 f3;have f0:=HT.o.vs.c0;have f1:=HT.o.vs.c1;have f2:=HT.o.vs.c2;have f3:=HT.o.vs.c3;obtain⟨z0,z1,z2,z3,z4⟩:=HT.o.vz.cells;have zf:=HT.o.vz.f;go_wp2
     go_region
     go_wp2;refine bodyPost_ret (oW (p:=2) (u:=3) (r:=4) rfl _ _ A _ _ (0,0) _ rfl (vV HT.o.vz 0 0 0 ⟨#[]⟩ ⟨#[]⟩) underlying182 rfl (by kernel_rfl)) rfl ⟨?_,au (rH HT.o.gb HT.o.le 0 0 0 ⟨#[]⟩ ⟨#[]⟩) 1⟩;rw[FIN.o];rfl
    | true =>
     have h0:E2=0:=by simpa using hz2
     subst h0;clear hz2;have HJ2:Hd (j2<=s.size):=(iL.o.2.1 rfl).2.2;have HR2:Hd (R=qC l j2 x1 x2):=by
      show R=_;obtain⟨e1,e2,-⟩:=iL.o.2.1 rfl;have hr:=HRn.o;rw[if_pos iL.o.1.symm,<-e1,<-e2]at hr;exact hr
     clear iL HRn
     cases hc2:decide (l[j2]?=some 46) with
     | false =>
      have hc':=of_decide_eq_false hc2;have HZ:Hd ((2:Int)≠0):=by show(2:Int)≠0;decide
      have FIN:Hd (X=(2,j2,zeroV)):=by
       show X=_;have hr:=HR2.o;unfold qC at hr;rw[if_neg hc']at hr;rw[HV.o,hr];rfl
      have CM:Hd (Calls prog 164 #[.pointer (some ⟨A+1,0,none⟩),.int .u8 46] U2 fun e w'=>e=.returned (.tuple #[])/\VS (A+1) s j2 2 j2 w'/\U2.grownBy w' (some (A+1))):=MN.o _ _ _ _ HJ2.o hc' sG.o.vs;clear hc2 hc';go_wp2_with (go_at_call 164;refine CM.o.mono ?_);rintro e v1 ⟨rfl,hvs,hg⟩;have HM:Hd (RV w A s j2 2 j2 x1 x2 0 ⟨#[]⟩ ⟨#[]⟩ v1):=sG.o.call hg hvs;clear hvs hg f0 f1 f2 f3 q0 q1 q2 q3 q4 qf L9;have f0:=HM.o.vs.c0;have f1:=HM.o.vs.c1;have f2:=HM.o.vs.c2;have f3:=HM.o.vs.c3;go_wp2_with (go_at_call 165;refine(BF (A+1) (A+2) s j2 2 HZ.o j2 _ HM.o.vs).mono ?_);rintro e t1 ⟨rfl,n,hn⟩;have HT:Hd (RV w A s j2 2 j2 x1 x2 0 ⟨#[]⟩ ⟨#[]⟩ t1):=by show RV _ _ _ _ _ _ _ _ _ _ _ t1;rw[hn];exact HM.o.drew n
      clear hn f0 f1 f2 f3;have f0:=HT.o.vs.c0;have f1:=HT.o.vs.c1;have f2:=HT.o.vs.c2;have f3:=HT.o.vs.c3;obtain⟨z0,z1,z2,z3,z4⟩:=HT.o.vz.cells;have zf:=HT.o.vz.f;go_wp2
      go_region
      go_wp2;refine bodyPost_ret (oW (p:=2) (u:=3) (r:=4) rfl _ _ A _ _ (0,0) _ rfl (vV HT.o.vz 0 0 0 ⟨#[]⟩ ⟨#[]⟩) underlying182 rfl (by kernel_rfl)) rfl ⟨?_,au (rH HT.o.gb HT.o.le 0 0 0 ⟨#[]⟩ ⟨#[]⟩) 1⟩;rw[FIN.o];rfl
     | true =>
      have hc':=of_decide_eq_true hc2;have HRn:Hd (R=if(rdNum l (j2+1)).1=0 then xB l (rdNum l (j2+1)).2.2 x1 x2 (rdNum l (j2+1)).2.1 else((rdNum l (j2+1)).1,(rdNum l (j2+1)).2.2,0,0,0)):=by
       show R=_;have hr:=HR2.o;unfold qC at hr;rw[if_pos hc']at hr;exact hr
      have o8:Hd (j2+1<=s.size):=by have:=(List.getElem?_eq_some_iff.1 hc').1;rw[HL.o.2]at this;exact this
      have CM:Hd (Calls prog 164 #[.pointer (some ⟨A+1,0,none⟩),.int .u8 46] U2 fun e w'=>e=.returned (.tuple #[])/\VS (A+1) s (j2+1) 0 c2 w'/\U2.grownBy w' (some (A+1))):=MY.o _ _ _ _ hc' sG.o.vs;clear hc2 hc';go_wp2_with (go_at_call 164;refine CM.o.mono ?_);rintro e v3 ⟨rfl,hvs,hg⟩;have lW:Hd (RV w A s (j2+1) 0 c2 x1 x2 0 ⟨#[]⟩ ⟨#[]⟩ v3):=sG.o.call hg hvs;clear hvs hg f0 f1 f2 f3 q0 q1 q2 q3 q4 qf L9 HR2 CM;have f0:=lW.o.vs.c0;have f1:=lW.o.vs.c1;have f2:=lW.o.vs.c2;have f3:=lW.o.vs.c3;go_wp2_with (go_at_call 163;refine(CN.o _ (j2+1) c2 _ o8.o lW.o.vs).mono ?_);rintro e u3 ⟨x3,j3,E3,c3,rfl,hvs,hg,hE,hok,herr⟩;have Mc:Hd (RV w A s j3 E3 c3 x1 x2 0 ⟨#[]⟩ ⟨#[]⟩ u3):=lW.o.call hg hvs;have jE:Hd (E3=(rdNum l (j2+1)).1/\(E3=0->x3=(rdNum l (j2+1)).2.1/\j3=(rdNum l (j2+1)).2.2/\j3<=s.size)/\(E3≠0->c3=(rdNum l (j2+1)).2.2)):=by rw[HL.o.1];exact⟨hE,hok,herr⟩
      clear hvs hg hE hok herr f0 f1 f2 f3;obtain⟨U3,Ux⟩:∃U,u3.setCell ⟨A+2,2,none⟩ (.int .i64 x3)=U:=⟨_,rfl⟩;have lS:Hd (RV w A s j3 E3 c3 x1 x2 x3 ⟨#[]⟩ ⟨#[]⟩ U3):=by show RV _ _ _ _ _ _ _ _ _ _ _ U3;rw[<-Ux];exact Mc.o.put2 x3
      obtain⟨q0,q1,q2,q3,q4⟩:=Mc.o.vr.cells;have qf:=Mc.o.vr.f;have f0:=lS.o.vs.c0;have f1:=lS.o.vs.c1;have f2:=lS.o.vs.c2;have f3:=lS.o.vs.c3
      cases hz3:(E3 == 0) with
      | false =>
       have HZ:Hd (E3≠0):=by show E3≠0;simpa using hz3
       have FIN:Hd (X=(E3,c3,zeroV)):=by
        show X=_;have h9:¬(rdNum l (j2+1)).1=0:=fun e=>HZ.o (jE.o.1.trans e)
        have hr:=HRn.o;rw[if_neg h9,<-jE.o.1,<-jE.o.2.2 HZ.o]at hr;rw[HV.o,hr,if_neg HZ.o]
       go_wp2_with (go_at_call 165;refine(BF (A+1) (A+2) s j3 E3 HZ.o c3 _ lS.o.vs).mono ?_);rintro e t1 ⟨rfl,n,hn⟩;have HT:Hd (RV w A s j3 E3 c3 x1 x2 x3 ⟨#[]⟩ ⟨#[]⟩ t1):=by show RV _ _ _ _ _ _ _ _ _ _ _ t1;rw[hn];exact lS.o.drew n
       clear hn f0 f1 f2 f3;have f0:=HT.o.vs.c0;have f1:=HT.o.vs.c1;have f2:=HT.o.vs.c2;have f3:=HT.o.vs.c3;obtain⟨z0,z1,z2,z3,z4⟩:=HT.o.vz.cells;have zf:=HT.o.vz.f;go_wp2
       go_region
       go_wp2;refine bodyPost_ret (oW (p:=2) (u:=3) (r:=4) rfl _ _ A _ _ (0,0) _ rfl (vV HT.o.vz 0 0 0 ⟨#[]⟩ ⟨#[]⟩) underlying182 rfl (by kernel_rfl)) rfl ⟨?_,au (rH HT.o.gb HT.o.le 0 0 0 ⟨#[]⟩ ⟨#[]⟩) 1⟩;rw[FIN.o];rfl
      | true =>
       have h0:E3=0:=by simpa using hz3
       subst h0;clear hz3;have KQ:Hd (j3<=s.size):=(jE.o.2.1 rfl).2.2;have HR3:Hd (R=xB l j3 x1 x2 x3):=by
        show R=_;obtain⟨e1,e2,-⟩:=jE.o.2.1 rfl;have hr:=HRn.o;rw[if_pos jE.o.1.symm,<-e1,<-e2]at hr;exact hr
       clear jE HRn;have FB:Hd (Calls prog 165 #[.pointer (some ⟨A+1,0,none⟩),.pointer (some ⟨A+2,0,none⟩)] U3 fun e w'=>e=.returned (.tuple #[])/\KJ (A+1) (A+2) s j3 x1 x2 x3 U3 w'):=CT.o _ _ _ _ _ _ _ _ KQ.o lS.o.vs lS.o.vr (by omega);go_wp2_with (go_at_call 165;refine FB.o.mono ?_);rintro e t1 ⟨rfl,j4,E4,c4,P4,B4,hvs,Uy,hg,hE,hok,herr⟩;have HT:Hd (RV w A s j4 E4 c4 x1 x2 x3 P4 B4 t1):=lS.o.two hg hvs Uy;have mW:Hd (E4=(bf l j3).1/\(E4=0->P4=⟨(bf l j3).2.2.1.toArray⟩/\B4=⟨(bf l j3).2.2.2.toArray⟩/\j4=(bf l j3).2.1/\j4<=s.size)/\(E4≠0->c4=(bf l j3).2.1)):=by rw[HL.o.1];exact⟨hE,hok,herr⟩
       have Md:Hd (X=if(bf l j3).1=0 then(if(bf l j3).2.1<l.length then(2,(bf l j3).2.1,zeroV) else(0,0,⟨x1,x2,x3,(bf l j3).2.2.1,(bf l j3).2.2.2⟩)) else((bf l j3).1,(bf l j3).2.1,zeroV)):=by
        show X=_;have hr:=HR3.o;unfold xB at hr;rw[HV.o,hr];rfl
       clear hvs Uy hg hE hok herr f0 f1 f2 f3 q0 q1 q2 q3 q4 qf Ux HV HR3
       cases xI:(E4 == 0) with
       | false =>
        have HZ:Hd (E4≠0):=by show E4≠0;simpa using xI
        have FIN:Hd (X=(E4,c4,zeroV)):=by
         show X=_;have h9:¬(bf l j3).1=0:=fun e=>HZ.o (mW.o.1.trans e)
         rw[Md.o,if_neg h9,<-mW.o.1,<-mW.o.2.2 HZ.o]
        have f0:=HT.o.vs.c0;have f1:=HT.o.vs.c1;have f2:=HT.o.vs.c2;have f3:=HT.o.vs.c3;obtain⟨z0,z1,z2,z3,z4⟩:=HT.o.vz.cells;have zf:=HT.o.vz.f;go_wp2
        go_region
        go_wp2;refine bodyPost_ret (oW (p:=2) (u:=3) (r:=4) rfl _ _ A _ _ (0,0) _ rfl (vV HT.o.vz 0 0 0 ⟨#[]⟩ ⟨#[]⟩) underlying182 rfl (by kernel_rfl)) rfl ⟨?_,au (rH HT.o.gb HT.o.le 0 0 0 ⟨#[]⟩ ⟨#[]⟩) 1⟩;rw[FIN.o];rfl
       | true =>
        have h0:E4=0:=by simpa using xI
        subst h0;clear xI;have uu:Hd (P4=⟨(bf l j3).2.2.1.toArray⟩/\B4=⟨(bf l j3).2.2.2.toArray⟩/\j4=(bf l j3).2.1/\j4<=s.size):=mW.o.2.1 rfl;have GU:Hd (X=if j4<l.length then(2,j4,zeroV) else(0,0,⟨x1,x2,x3,(bf l j3).2.2.1,(bf l j3).2.2.2⟩)):=by
         show X=_;rw[Md.o,if_pos mW.o.1.symm,<-uu.o.2.2.1]
        clear mW Md;have f0:=HT.o.vs.c0;have f1:=HT.o.vs.c1;have f2:=HT.o.vs.c2;have f3:=HT.o.vs.c3
        by_cases hlt:j4<s.size
        ·have hl2:((j4:Nat):Int)<(s.size:Int):=by omega
         have FIN:Hd (X=(2,j4,zeroV)):=by show X=_;rw[GU.o,if_pos (by rw[HL.o.2];exact hlt)]
         go_wp2_with (go_at_call 166;refine(ui (A+1) s j4 c4 2 j4 _ HT.o.vs).mono ?_);rintro e t2 ⟨rfl,hvs,hg⟩;have HT3:Hd (RV w A s j4 2 j4 x1 x2 x3 P4 B4 t2):=HT.o.call hg hvs;clear hvs hg f0 f1 f2 f3;have f0:=HT3.o.vs.c0;have f1:=HT3.o.vs.c1;have f2:=HT3.o.vs.c2;have f3:=HT3.o.vs.c3;obtain⟨z0,z1,z2,z3,z4⟩:=HT3.o.vz.cells;have zf:=HT3.o.vz.f;go_wp2
         go_region
         go_wp2;refine bodyPost_ret (oW (p:=2) (u:=3) (r:=4) rfl _ _ A _ _ (0,0) _ rfl (vV HT3.o.vz 0 0 0 ⟨#[]⟩ ⟨#[]⟩) underlying182 rfl (by kernel_rfl)) rfl ⟨?_,au (rH HT3.o.gb HT3.o.le 0 0 0 ⟨#[]⟩ ⟨#[]⟩) 1⟩;rw[FIN.o];rfl
        ·have hl2:¬((j4:Nat):Int)<(s.size:Int):=by omega
         have FIN:Hd (X=(0,0,⟨x1,x2,x3,(bf l j3).2.2.1,(bf l j3).2.2.2⟩)):=by show X=_;rw[GU.o,if_neg (by rw[HL.o.2];exact hlt)]
         clear hlt;obtain⟨z0,z1,z2,z3,z4⟩:=HT.o.vz.cells;have zf:=HT.o.vz.f;obtain⟨q0,q1,q2,q3,q4⟩:=HT.o.vr.cells;go_wp2;refine bodyPost_ret (oW (p:=2) (u:=3) (r:=4) rfl _ _ A _ _ (0,0) _ rfl (vV HT.o.vz x1 x2 x3 P4 B4) underlying182 rfl (by kernel_rfl)) rfl ⟨?_,rH HT.o.gb HT.o.le x1 x2 x3 P4 B4⟩;rw[FIN.o,uu.o.1,uu.o.2.1];rfl
open Go.RowKit
def okV(s:ByteArray):Bool:=decide ((jV s.data.toList).1=0)
theorem abN(s:ByteArray)(w:World)(hs:s.size<2 ^ 62):Calls prog 86 #[.string s] w fun e w'=>e=.returned (.bool (okV s))/\w.grownBy w' none:=by
 have CR:Hd (∀w,Calls prog 125 #[.string s] w fun e w'=>(∃(x1 x2 x3:Int) (x4 x5:ByteArray) (k:Int),e=.returned (.tuple #[.agg #[.int .i64 x1,.int .i64 x2,.int .i64 x3,.string x4,.string x5],.int .i64 (jV s.data.toList).1,.int .i64 k]))/\w.grownBy w' none):=fun w=>(abM s w hs).mono fun e w' ⟨h1,h2⟩=>⟨⟨_,_,_,_,_,_,h1⟩,h2⟩
 unfold okV;obtain⟨E,hE⟩:=zN ((jV s.data.toList).1);rw[hE]at CR ⊢;clear hE;have hd:decide (E=0)=(E == 0):=by rw[Bool.eq_iff_iff];simp
 rw[hd];clear hd;go_enter func86,ntmps86;go_wp2_with (go_at_call 125;refine(CR.o _).mono ?_);rintro e w1 ⟨⟨x1,x2,x3,x4,x5,k,rfl⟩,hg⟩
 cases hz:(E == 0) with
 | true =>
  go_wp2;go_ret;exact⟨bV hz.symm,ai hg (dn (ak w1 none) _)⟩
 | false =>
  go_wp2;go_ret;exact⟨bV hz.symm,ai hg (dn (ak w1 none) _)⟩
open Go.RowKit Go.Maps
def pK(s:ByteArray):Bool:=kY s.data.toList
def aW(L:List En)(n:ByteArray):Bool:=L.any fun e=>decide (e.nm=n)
theorem Me(L:List En)(n:ByteArray)(i:Nat)(hi:i<L.length):aW (L.take (i+1)) n=(aW (L.take i) n || decide (L[i].nm=n)):=by
 unfold aW;rw[List.take_succ_eq_append_getElem hi,List.any_append];simp
theorem MB(L:List En)(n:ByteArray)(i j:Nat)(hj:j<L.length)(hji:j<i)(h:L[j].nm=n):aW (L.take i) n=true:=by
 unfold aW;rw[List.any_eq_true];refine⟨L[j],List.mem_take_iff_getElem.2 ⟨j,by omega,rfl⟩,by simpa using h⟩
theorem abO(L:List En)(n:ByteArray)(i j:Nat)(hij:i<=j)(h:aW (L.take i) n=true):aW (L.take j) n=true:=by
 unfold aW at *;rw[List.any_eq_true]at *;obtain⟨x,hx,h2⟩:=h;refine⟨x,?_,h2⟩;obtain⟨k,hk,rfl⟩:=List.mem_take_iff_getElem.1 hx;exact List.mem_take_iff_getElem.2 ⟨k,by omega,rfl⟩
def kC(n:ByteArray):Lit:=.string n.data.toList
theorem abP{a b:ByteArray}(h:kC a=kC b):a=b:=by
 unfold kC at h;injection h with h
 exact ByteArray.ext (Array.ext' h)
def fZ(L:List En):Nat->DataW Unit
 | 0=>.map []
 | i+1=>match L[i]? with
  | some x=>if Maps.has (fZ L i) (kC x.nm)=true then fZ L i else(fZ L i).put (kC x.nm) (.lit (.int .i64 (i:Int)))
  | none=>fZ L i
theorem MC(L:List En)(i:Nat)(hi:i<L.length):fZ L (i+1)=if Maps.has (fZ L i) (kC L[i].nm)=true then fZ L i else(fZ L i).put (kC L[i].nm) (.lit (.int .i64 (i:Int))):=by
 simp[fZ,List.getElem?_eq_getElem hi]
theorem MF(L:List En):∀i,i<=L.length->IsMap (fZ L i)
 | 0,_=>isMap_empty
 | i+1,h=>by
  rw[MC L i (by omega)];split
  ·exact MF L i (by omega)
  ·exact(MF L i (by omega)).put _ _
theorem Uz(L:List En)(n:ByteArray):∀i,i<=L.length->Maps.has (fZ L i) (kC n)=aW (L.take i) n
 | 0,_=>by simp[fZ,aW,Maps.has]
 | i+1,h=>by
  have ih:=Uz L n i (by omega);have hm:=MF L i (by omega);rw[MC L i (by omega),Me L n i (by omega)]
  by_cases he:L[i].nm=n
  ·rw[he];split
   ·rename_i h1;rw[h1];simp
   ·rw[has_put_same hm (by trivial)];simp
  ·have hne:kC n≠kC L[i].nm:=fun e=>he (abP e).symm
   rw[decide_eq_false he,Bool.or_false];split
   ·exact ih
   ·rw[has_put_other hne];exact ih
theorem keyS:Keyed prog 9:=string_keyed underlying9
theorem GV(w:World):(zeroValue 3).run prog w=.ok (.int .i64 0) w:=by kernel_rfl
theorem UA(n:Int)(w:World):(Instr.makeMap 50 (some (.int .i64 n))).run prog w=.ok (.map (some w.heap.size)) (w.alloc (.map #[] 0)):=by kernel_rfl
theorem mX{w u u':World}{b:Nat}(h:w.grownBy u none)(hg:u.grownBy u' (some b))(hb:w.heap.size<=b):w.grownBy u' none :=
 ⟨hg.os.trans h.os,hg.tape.trans h.tape,hg.output.trans h.output,Nat.le_trans h.size hg.size,fun k hk hn=>(hg.block k (Nat.lt_of_lt_of_le hk h.size) (by simp;omega)).trans (h.block k hk hn)⟩
theorem abQ(a:Addr)(cap:Nat)(L:List En)(w:World)(hL:L.length<=1048576)(hcap:L.length<=cap)(hz:∀x∈L,x.nm.size<=maxLen)(h:∀i (hi:i<L.length),EnAt w (a.add (i*4)) L[i]) :
  Calls prog 17 #[.slice (some a) L.length cap] w fun e w'=>∃B,e=.returned (.map (some B))/\w'.ownsMap prog 9 (plainElem (H:=Unit) prog 3) B L.length (fZ L L.length)/\w.grownBy w' none:=by
 have HA:Hd (∀i (hi:i<L.length),EnAt w (a.add (i*4)) L[i]):=h;have HZ:Hd (∀x∈L,x.nm.size<=maxLen):=hz;clear h hz;obtain⟨B,hB⟩:=zN (w.heap.size);have HB:Hd (w.heap.size=B):=hB;have hmm:=UA (L.length:Int) w;go_enter func17,ntmps17;go_wp2
 try rw[hB]
 clear hB hmm;go_loopw [13] (fun vi wr=>∃i:Nat,vi=.int .i64 i/\i<=L.length/\wr.ownsMap prog 9 (plainElem (H:=Unit) prog 3) B i (fZ L i)/\w.grownBy wr none) (fun vi _=>L.length-(intOf vi).toNat)
 case atStart=>exact⟨0,rfl,Nat.zero_le _,HB.o ▸ World.ownsMap_made _ _ _ _,dn (ak w none) _⟩
 case round =>
  obtain⟨i,rfl,hi,hown,hg⟩:=hrel;have HG:Hd (w.grownBy wr none):=hg
  by_cases hlt:i<L.length
  ·obtain⟨x,hx⟩:=zN (L[i]);obtain⟨e0,e1,e2,sv,e3,hsv⟩:EnAt wr (a.add (i*4)) x:=by rw[<-hx];exact(HA.o i hlt).grow hg
   obtain⟨so,sc,rfl⟩:=A8 hsv;have hkey:keyOf prog 9 (.string x.nm)=some (kC x.nm):=Go.WideMaps.keyOf_string_mk underlying9 (HZ.o x (by rw[<-hx];exact List.getElem_mem _));have HN:Hd (fZ L (i+1)=if Maps.has (fZ L i) (kC x.nm)=true then fZ L i else(fZ L i).put (kC x.nm) (.lit (.int .i64 (i:Int)))):=by
    show _=_;rw[MC L i hlt,hx]
   obtain⟨q,hq⟩:=zN (Maps.has (fZ L i) (kC x.nm));rw[hq]at HN;have hown2:=hown.alloc (.cells #[.string x.nm,.string x.ve,.string x.dg,.slice so x.nd.length sc] 33);have hwi:(Lit.int .i64 (i:Int)).wf=true:=WalkArith.wf_i64 (by omega);clear hg hx hsv
   cases q with
   | true =>
    have ku:Hd (fZ L (i+1)=fZ L i):=by
     show _=_;rw[HN.o,if_pos rfl]
    go_wp2_with (first|(at_lookup;refine wpList_lookup_own_ok_int _ rfl _ _ 50 rfl 9 3 .i64 keyS underlying50 underlying3 (GV _) B i _ rfl hown2 _ _ rfl hkey ?_;intro c hat hwc;rw[hq])|go_in);exact⟨⟨i+1,by go_num,by omega,by rw[ku.o];exact hown2.mono (Nat.le_succ _),dn HG.o _⟩,by simp[intOf];omega⟩
   | false =>
    have ku:Hd (fZ L (i+1)=(fZ L i).put (kC x.nm) (.lit (.int .i64 (i:Int)))):=by
     show _=_;rw[HN.o,if_neg (by simp)]
    go_wp2_with (first|(at_lookup;refine wpList_lookup_own_ok_int _ rfl _ _ 50 rfl 9 3 .i64 keyS underlying50 underlying3 (GV _) B i _ rfl hown2 _ _ rfl hkey ?_;intro c hat hwc;rw[hq])|(at_mapUpdate;refine wpList_mapUpdate_own _ rfl _ _ _ 50 rfl 9 3 keyS underlying50 (plainElem (H:=Unit) prog 3) B i _ rfl hown2 (by unfold maxLen;omega) _ _ _ rfl rfl hkey _ [] (plainElem_int underlying3 hwi) ?_;intro w1 hown1 hgrow1)|go_in);exact⟨⟨i+1,by go_num,by omega,by rw[ku.o];exact hown1,mX (dn HG.o _) hgrow1 (Nat.le_of_eq HB.o)⟩,by simp[intOf];omega⟩
  ·have hil:i=L.length:=by omega
   have HM:Hd (wr.ownsMap prog 9 (plainElem (H:=Unit) prog 3) B L.length (fZ L L.length)):=by rw[hil]at hown;exact hown
   clear hg hil hi hown;go_wp2;refine bodyPost_ret (results_tmp (t:=2) rfl _ _ _) rfl ⟨B,rfl,HM.o,HG.o⟩
open Go.RowKit
def iy:List UInt8:=[100,105,103,101,115,116]
def fA:List UInt8:=[110,97,109,101]
def dV:List UInt8:=[110,101,101,100,115]
def iC:List UInt8:=[118,101,114,115,105,111,110]
def iY:List UInt8:=[112,97,99,107,97,103,101]
def jO:List UInt8:=[102,111,114,109,97,116]
inductive iI where
 | root:iI
 | tabs:iI
 | key:Nat->iI
 | val:Nat->iI
structure Dr where
 lk:Nat->Option iI
 fm:Bool
 tb:List Nat
 es:List En
 wt:List (ByteArray × Nat)
def keepD(d:Dr)(ks:List Nat)(k:iI):Dr:=⟨fun q=>if q∈ks then some k else d.lk q,d.fm,d.tb,d.es,d.wt⟩
def dh(x:Tn):ByteArray:=⟨x.tx.toArray⟩
def takeD(x:Tn)(is:ByteArray->Bool):Int:=if ¬x.kd=3 then 7 else if is (dh x)=true then 0 else 2
def en0:En:=⟨⟨#[]⟩,⟨#[]⟩,⟨#[]⟩,[]⟩
def bg(es:List En)(e:Nat):En:=es[e]?.getD en0
def setD(d:Dr)(e:Nat)(y:En):Dr:=⟨d.lk,d.fm,d.tb,d.es.set e y,d.wt⟩
def oJ(d:Dr)(x:Tn)(is:ByteArray->Bool)(e:Nat)(y:En):Except Int Dr:=if takeD x is=0 then .ok (setD d e y) else .error (takeD x is)
noncomputable def lX(d:Dr)(x:Tn)(e:Nat):Except Int Dr :=
 if x.ky=fA then
  if takeD x nameB=0 then if aW d.es (dh x)=true then .error 5 else .ok (setD d e ⟨dh x,(bg d.es e).ve,(bg d.es e).dg,(bg d.es e).nd⟩) else .error (takeD x nameB)
 else if x.ky=iC then oJ d x okV e ⟨(bg d.es e).nm,dh x,(bg d.es e).dg,(bg d.es e).nd⟩
 else if x.ky=iy then oJ d x pK e ⟨(bg d.es e).nm,(bg d.es e).ve,dh x,(bg d.es e).nd⟩
 else if x.ky=dV/\x.kd=1 then .ok (keepD d x.ks (.val e)) else .error 7
noncomputable def oL(d:Dr)(x:Tn)(e:Nat):Except Int Dr :=
 if takeD x nameB=0 then
  if(bg d.es e).nd.any (fun y=>decide (y=dh x))=true then .error 5
  else if(bg d.es e).nd.length=20 then .error 4
  else .ok ⟨d.lk,d.fm,d.tb,d.es.set e ⟨(bg d.es e).nm,(bg d.es e).ve,(bg d.es e).dg,(bg d.es e).nd++[dh x]⟩,d.wt++[(dh x,x.pl)]⟩
 else .error (takeD x nameB)
noncomputable def gm(d:Dr)(q:Nat)(x:Tn):iI->Except Int Dr
 | .root=>if x.ky=jO then(if ¬x.kd=4 then .error 7 else if ¬x.nu=1 then .error 3 else .ok ⟨d.lk,true,d.tb,d.es,d.wt⟩) else if x.ky=iY/\x.kd=2 then .ok (keepD d x.ks .tabs) else .error 7
 | .tabs=>if d.tb.length=50 then .error 4 else .ok (keepD ⟨d.lk,d.fm,d.tb++[q],d.es++[en0],d.wt⟩ x.ks (.key d.es.length))
 | .key e=>lX d x e
 | .val e=>oL d x e
noncomputable def stepD(ns:List Tn)(q:Nat)(d:Dr):Rs Dr:=match ns[q]? with
 | none=>.ok d
 | some x=>match d.lk q with
  | none=>.ok d
  | some k=>match gm d q x k with
   | .error c=>.error (c,x.pl)
   | .ok d'=>.ok d'
noncomputable def iJ(ns:List Tn):Nat->Dr->Rs Dr
 | 0,d=>.ok d
 | n+1,d=>match stepD ns (ns.length-(n+1)) d with
  | .error e=>.error e
  | .ok d'=>iJ ns n d'
theorem UB{ns:List Tn}{q:Nat}(d:Dr)(hq:q<ns.length):iJ ns (ns.length-q) d=match stepD ns q d with | .error e=>.error e | .ok d'=>iJ ns (ns.length-(q+1)) d':=by
 obtain⟨n,hn⟩:∃n,ns.length-q=n+1:=⟨ns.length-q-1,by omega⟩;rw[hn,show ns.length-(q+1)=n by omega];show(match stepD ns (ns.length-(n+1)) d with|Except.error e=>Except.error e|Except.ok d'=>iJ ns n d')=_;rw[show ns.length-(n+1)=q by omega]
def iD(ns:List Tn)(q:Nat):Nat:=match ns[q]? with|some x=>x.pl|none=>0
def mZ(ns:List Tn)(d:Dr):Int × Nat :=
 if d.fm=false then(6,0)
 else match d.tb.find? (fun q=>decide ((ae ns q).length<4)) with
  | some q=>(6,iD ns q)
  | none=>match d.wt.find? (fun y=>!aW d.es y.1) with
   | some y=>(6,y.2)
   | none=>(0,0)
def jP:Dr:=⟨fun _=>none,false,[],[],[]⟩
noncomputable def sH(ns:List Tn):Rs (List En):=match iJ ns ns.length (keepD jP (ae ns 0) .root) with
 | .error e=>.error e
 | .ok d=>if(mZ ns d).1=0 then .ok d.es else .error (mZ ns d)
theorem UC{ns:List Tn}{q:Nat}{d:Dr}(hq:q<ns.length)(hk:d.lk q=none):iJ ns (ns.length-q) d=iJ ns (ns.length-(q+1)) d:=by
 rw[UB d hq];unfold stepD;rw[List.getElem?_eq_getElem hq];simp only[];rw[hk]
theorem UD(es:List En)(z:En):bg (es++[z]) es.length=z:=by
 unfold bg;rw[List.getElem?_append_right (Nat.le_refl _),Nat.sub_self];rfl
theorem UE(es:List En)(z y:En):(es++[z]).set es.length y=es++[y]:=by
 rw[List.set_append_right _ _ (Nat.le_refl _),Nat.sub_self];rfl
end Go.Proofs.YtnnbgjaphfhibaaGreatDoor
