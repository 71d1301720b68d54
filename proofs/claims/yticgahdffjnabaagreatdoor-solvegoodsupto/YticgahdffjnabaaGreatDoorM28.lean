import Derived.Test.YticgahdffjnabaaGreatDoorM27
import Derived.Test.YticgahdffjnabaaGreatDoorM24
import Derived.Test.YticgahdffjnabaaGreatDoorM06
import Derived.Test.YticgahdffjnabaaGreatDoorM02
import Derived.Test.YticgahdffjnabaaGreatDoorM04
import Derived.Test.YticgahdffjnabaaGreatDoorM15
import Derived.Test.YticgahdffjnabaaGreatDoorM12
set_option linter.unusedVariables false
set_option maxHeartbeats 6400000
namespace Go.Proofs.YticgahdffjnabaaGreatDoor
open Go.RowKit
structure RV (w:World) (A:Nat) (s:ByteArray) (j:Nat) (E:Int) (c:Nat) (y1 y2 y3:Int) (P B:ByteArray) (u:World):Prop where
 vs:VS (A+1) s j E c u
 vr:VR (A+2) y1 y2 y3 P B u
 vz:VR A 0 0 0 ⟨#[]⟩ ⟨#[]⟩ u
 gb:w.grownBy u none
 le:w.heap.size<=A
theorem RV.drew {w:World} {A:Nat} {s:ByteArray} {j:Nat} {E:Int} {c:Nat} {y1 y2 y3:Int} {P B:ByteArray} {u:World} (h:RV w A s j E c y1 y2 y3 P B u) (n:Nat):RV w A s j E c y1 y2 y3 P B (u.drewN n) :=
 ⟨h.vs.drew n,h.vr,h.vz,gb_drew h.gb n,h.le⟩
theorem RV.call {w:World} {A:Nat} {s:ByteArray} {j:Nat} {E:Int} {c:Nat} {y1 y2 y3:Int} {P B:ByteArray} {u u':World} (h:RV w A s j E c y1 y2 y3 P B u) (hg:u.grownBy u' (some (A+1))) {j':Nat} {E':Int} {c':Nat} (hv:VS (A+1) s j' E' c' u'):RV w A s j' E' c' y1 y2 y3 P B u' :=
 ⟨hv,h.vr.grow hg (by omega),h.vz.grow hg (by omega),⟨hg.os.trans h.gb.os,hg.tape.trans h.gb.tape,hg.output.trans h.gb.output,Nat.le_trans h.gb.size hg.size,fun k hk _=>(hg.block k (Nat.lt_of_lt_of_le hk h.gb.size) (by have:=h.le;simp;omega)).trans (h.gb.block k hk (by simp))⟩,h.le⟩
theorem RV.two {w:World} {A:Nat} {s:ByteArray} {j:Nat} {E:Int} {c:Nat} {y1 y2 y3:Int} {P B:ByteArray} {u u':World} (h:RV w A s j E c y1 y2 y3 P B u) (hg:G2 (A+1) (A+2) u u') {j':Nat} {E':Int} {c':Nat} {P' B':ByteArray} (hv:VS (A+1) s j' E' c' u') (hr:VR (A+2) y1 y2 y3 P' B' u'):RV w A s j' E' c' y1 y2 y3 P' B' u' :=
 ⟨hv,hr,by have:=h.vz;unfold VR at this ⊢;rw [hg.block A ((hqL this)) (by omega) (by omega)];exact this,⟨hg.os.trans h.gb.os,hg.tape.trans h.gb.tape,hg.output.trans h.gb.output,Nat.le_trans h.gb.size hg.size,fun k hk _=>(hg.block k (Nat.lt_of_lt_of_le hk h.gb.size) (by have:=h.le;omega) (by have:=h.le;omega)).trans (h.gb.block k hk (by simp))⟩,h.le⟩
theorem VR.set0 {v:Nat} {y1 y2 y3:Int} {x4 x5:ByteArray} {w:World} (h:VR v y1 y2 y3 x4 x5 w) (z:Int):VR v z y2 y3 x4 x5 (w.setCell ⟨v,0,none⟩ (.int .i64 z)):=by
 unfold VR at h ⊢;simp [World.setCell,Array.getElem?_modify,h]
theorem VR.set1 {v:Nat} {y1 y2 y3:Int} {x4 x5:ByteArray} {w:World} (h:VR v y1 y2 y3 x4 x5 w) (z:Int):VR v y1 z y3 x4 x5 (w.setCell ⟨v,1,none⟩ (.int .i64 z)):=by
 unfold VR at h ⊢;simp [World.setCell,Array.getElem?_modify,h]
theorem VR.set2 {v:Nat} {y1 y2 y3:Int} {x4 x5:ByteArray} {w:World} (h:VR v y1 y2 y3 x4 x5 w) (z:Int):VR v y1 y2 z x4 x5 (w.setCell ⟨v,2,none⟩ (.int .i64 z)):=by
 unfold VR at h ⊢;simp [World.setCell,Array.getElem?_modify,h]
theorem RV.put0 {w:World} {A:Nat} {s:ByteArray} {j:Nat} {E:Int} {c:Nat} {y1 y2 y3:Int} {P B:ByteArray} {u:World} (h:RV w A s j E c y1 y2 y3 P B u) (x:Int):RV w A s j E c x y2 y3 P B (u.setCell ⟨A+2,0,none⟩ (.int .i64 x)) :=
 ⟨h.vs.other (by omega) _ _,h.vr.set0 x,h.vz.other (by omega) _ _,gb_new0 h.gb (by have:=h.le;omega) _ _,h.le⟩
theorem RV.put1 {w:World} {A:Nat} {s:ByteArray} {j:Nat} {E:Int} {c:Nat} {y1 y2 y3:Int} {P B:ByteArray} {u:World} (h:RV w A s j E c y1 y2 y3 P B u) (x:Int):RV w A s j E c y1 x y3 P B (u.setCell ⟨A+2,1,none⟩ (.int .i64 x)) :=
 ⟨h.vs.other (by omega) _ _,h.vr.set1 x,h.vz.other (by omega) _ _,gb_new0 h.gb (by have:=h.le;omega) _ _,h.le⟩
theorem RV.put2 {w:World} {A:Nat} {s:ByteArray} {j:Nat} {E:Int} {c:Nat} {y1 y2 y3:Int} {P B:ByteArray} {u:World} (h:RV w A s j E c y1 y2 y3 P B u) (x:Int):RV w A s j E c y1 y2 x P B (u.setCell ⟨A+2,2,none⟩ (.int .i64 x)) :=
 ⟨h.vs.other (by omega) _ _,h.vr.set2 x,h.vz.other (by omega) _ _,gb_new0 h.gb (by have:=h.le;omega) _ _,h.le⟩
theorem RV.born (w:World) (s:ByteArray):RV w w.heap.size s 0 0 0 0 0 0 ⟨#[]⟩ ⟨#[]⟩ (((w.alloc (.cells #[.int .i64 0,.int .i64 0,.int .i64 0,.string ⟨#[]⟩,.string ⟨#[]⟩] 89)).alloc (.cells #[.string s,.int .i64 0,.int .i64 0,.int .i64 0] 114)).alloc (.cells #[.int .i64 0,.int .i64 0,.int .i64 0,.string ⟨#[]⟩,.string ⟨#[]⟩] 89)):=by
 refine ⟨?_,?_,?_,gb_alloc (gb_alloc (gb_alloc (gb_refl w none) _) _) _,Nat.le_refl _⟩
 ·unfold VS;rw [Lib.alloc_old _ _ _ (by simp)];exact row2 w _ _
 ·unfold VR;have:=row2 (w.alloc (.cells #[.int .i64 0,.int .i64 0,.int .i64 0,.string ⟨#[]⟩,.string ⟨#[]⟩] 89)) (.cells #[.string s,.int .i64 0,.int .i64 0,.int .i64 0] 114) (.cells #[.int .i64 0,.int .i64 0,.int .i64 0,.string ⟨#[]⟩,.string ⟨#[]⟩] 89);simpa using this
 ·unfold VR;rw [Lib.alloc_old _ _ _ (by simp;omega),Lib.alloc_old _ _ _ (by simp)];exact heap_alloc_new w _
set_option maxRecDepth 100000 in
theorem readv_any (s:ByteArray) (w:World) (hs:s.size < 2 ^ 62) :
  Calls Tryz.prog 41 #[.string s] w fun e w'=>e=.returned (.tuple #[valV (parseV s.data.toList).2.2,.int .i64 (parseV s.data.toList).1,.int .i64 ((parseV s.data.toList).2.1:Nat)])/\w.grownBy w' none:=by
 by_cases h100:100 < s.size
 ·have hp:parseV s.data.toList=(1,0,zeroV):=by unfold parseV;rw [if_pos (by simpa using h100)]
  rw [hp];clear hp;go_enter Tryz.func41,Tryz.ntmps41;go_wp2;exact bodyPost_ret (res_row_tmp2 (p:=2) (u:=3) (r:=4) rfl _ _ w.heap.size _ _ (0,0) _ rfl (heap_alloc_new w _) Tryz.underlying89 rfl (by kernel_rfl)) rfl ⟨rfl,gb_alloc (gb_refl w none) _⟩
 ·have hp:parseV s.data.toList=rdVer s.data.toList:=by unfold parseV;rw [if_neg (by simpa using h100)]
  rw [hp];clear hp;obtain ⟨l,hl⟩:∃l,l=s.data.toList:=⟨_,rfl⟩;have HL:Hd (l=s.data.toList/\l.length=s.size):=⟨hl,by rw [hl];simp⟩;have CN:Hd (∀b i a w,i<=s.size->VS b s i 0 a w->Calls Tryz.prog 55 #[.pointer (some ⟨b,0,none⟩)] w (NumPost b s i w)):=fun b i a w hi h=>rnum_any b s i a w hi h hs
  have MY:Hd (∀b i a w,l[i]?=some 46->VS b s i 0 a w->Calls Tryz.prog 56 #[.pointer (some ⟨b,0,none⟩),.int .u8 46] w fun e w'=>e=.returned (.tuple #[])/\VS b s (i+1) 0 a w'/\w.grownBy w' (some b)):=fun b i a w hc h=>must_yes b s i 0 a 46 w (by rw [<-hl];exact hc) h hs
  have MN:Hd (∀b i a w,i<=s.size->¬ l[i]?=some 46->VS b s i 0 a w->Calls Tryz.prog 56 #[.pointer (some ⟨b,0,none⟩),.int .u8 46] w fun e w'=>e=.returned (.tuple #[])/\VS b s i 2 i w'/\w.grownBy w' (some b)):=fun b i a w hi hc h=>must_no b s i a 46 w hi (by rw [<-hl];exact hc) h hs
  have CT:Hd (∀b v i a y1 y2 y3 w,i<=s.size->VS b s i 0 a w->VR v y1 y2 y3 ⟨#[]⟩ ⟨#[]⟩ w->b ≠ v->Calls Tryz.prog 57 #[.pointer (some ⟨b,0,none⟩),.pointer (some ⟨v,0,none⟩)] w fun e w'=>e=.returned (.tuple #[])/\RTailPost b v s i y1 y2 y3 w w'):=fun b v i a y1 y2 y3 w hi h1 h2 h3=>rtail_any b v s i a y1 y2 y3 w hi h1 h2 h3 hs
  have HB:Hd (RV w w.heap.size s 0 0 0 0 0 0 ⟨#[]⟩ ⟨#[]⟩ (((w.alloc (.cells #[.int .i64 0,.int .i64 0,.int .i64 0,.string ⟨#[]⟩,.string ⟨#[]⟩] 89)).alloc (.cells #[.string s,.int .i64 0,.int .i64 0,.int .i64 0] 114)).alloc (.cells #[.int .i64 0,.int .i64 0,.int .i64 0,.string ⟨#[]⟩,.string ⟨#[]⟩] 89))):=RV.born w s;have hver:=ver_tail l;have hnr:=nums_rest l;obtain ⟨R,hR⟩:=nm (rdNums l);obtain ⟨X,hX⟩:=nm (rdVer l);rw [hR] at hver hnr;rw [hX] at hver;rw [<-hl,hX];have HV:Hd (X=if R.1=0 then (if (tailP l R.2.1).1=0 then (if (tailP l R.2.1).2.1 < l.length then (2,(tailP l R.2.1).2.1,zeroV) else (0,0,⟨R.2.2.1,R.2.2.2.1,R.2.2.2.2,(tailP l R.2.1).2.2.1,(tailP l R.2.1).2.2.2⟩)) else ((tailP l R.2.1).1,(tailP l R.2.1).2.1,zeroV)) else (R.1,R.2.1,zeroV)):=hver;have HR0:Hd (R=if (rdNum l 0).1=0 then rest1 l (rdNum l 0).2.2 (rdNum l 0).2.1 else ((rdNum l 0).1,(rdNum l 0).2.2,0,0,0)):=hnr
  have HS:Hd (s.size < 2 ^ 62):=hs;clear hl hver hnr hR hX hs;go_enter Tryz.func41,Tryz.ntmps41;go_wp2_with (go_at_call 55;refine (CN.o _ 0 0 _ (Nat.zero_le _) HB.o.vs).mono ?_);rintro e u1 ⟨x1,j1,E1,c1,rfl,hvs,hg,hE,hok,herr⟩;obtain ⟨A,hA⟩:=nm (w.heap.size);rw [hA] at HB hvs hg;rw [hA];have HA1:Hd (RV w A s j1 E1 c1 0 0 0 ⟨#[]⟩ ⟨#[]⟩ u1):=HB.o.call hg hvs;have HK1:Hd (E1=(rdNum l 0).1/\(E1=0->x1=(rdNum l 0).2.1/\j1=(rdNum l 0).2.2/\j1<=s.size)/\(E1 ≠ 0->c1=(rdNum l 0).2.2)):=by rw [HL.o.1];exact ⟨hE,hok,herr⟩
  clear hA hvs hg hE hok herr HB;obtain ⟨U1,hU1⟩:∃U,u1.setCell ⟨A+2,0,none⟩ (.int .i64 x1)=U:=⟨_,rfl⟩;have HU1:Hd (RV w A s j1 E1 c1 x1 0 0 ⟨#[]⟩ ⟨#[]⟩ U1):=by show RV _ _ _ _ _ _ _ _ _ _ _ U1;rw [<-hU1];exact HA1.o.put0 x1
  obtain ⟨q0,q1,q2,q3,q4⟩:=HA1.o.vr.cells;have qf:=HA1.o.vr.f;have f0:=HU1.o.vs.c0;have f1:=HU1.o.vs.c1;have f2:=HU1.o.vs.c2;have f3:=HU1.o.vs.c3
  cases hz1:(E1 == 0) with
  | false =>
   have HZ:Hd (E1 ≠ 0):=by show E1 ≠ 0;simpa using hz1
   have FIN:Hd (X=(E1,c1,zeroV)):=by
    show X=_;have h9:¬ (rdNum l 0).1=0:=fun e=>HZ.o (HK1.o.1.trans e)
    have hr:=HR0.o;rw [if_neg h9,<-HK1.o.1,<-HK1.o.2.2 HZ.o] at hr;rw [HV.o,hr,if_neg HZ.o]
   go_wp2_with (first | (go_at_call 57;refine (rtail_skip (A+1) (A+2) s j1 E1 HZ.o c1 _ HU1.o.vs).mono ?_));rintro e t1 ⟨rfl,n,hn⟩;have HT:Hd (RV w A s j1 E1 c1 x1 0 0 ⟨#[]⟩ ⟨#[]⟩ t1):=by show RV _ _ _ _ _ _ _ _ _ _ _ t1;rw [hn];exact HU1.o.drew n
   clear hn f0 f1 f2 f3;have f0:=HT.o.vs.c0;have f1:=HT.o.vs.c1;have f2:=HT.o.vs.c2;have f3:=HT.o.vs.c3;obtain ⟨z0,z1,z2,z3,z4⟩:=HT.o.vz.cells;have zf:=HT.o.vz.f;go_wp2
   go_region
   go_wp2;refine bodyPost_ret (res_row_tmp2 (p:=2) (u:=3) (r:=4) rfl _ _ A _ _ (0,0) _ rfl (putr_row HT.o.vz 0 0 0 ⟨#[]⟩ ⟨#[]⟩) Tryz.underlying89 rfl (by kernel_rfl)) rfl ⟨?_,gb_drew (put5_gb0 HT.o.gb HT.o.le 0 0 0 ⟨#[]⟩ ⟨#[]⟩) 1⟩;rw [FIN.o];rfl
  | true =>
   have h0:E1=0:=by simpa using hz1
   subst h0;clear hz1;have HJ1:Hd (j1<=s.size):=(HK1.o.2.1 rfl).2.2;have HR1:Hd (R=rest1 l j1 x1):=by
    show R=_;obtain ⟨e1,e2,-⟩:=HK1.o.2.1 rfl;have hr:=HR0.o;rw [if_pos HK1.o.1.symm,<-e1,<-e2] at hr;exact hr
   clear HK1 HR0
   cases hc1:decide (l[j1]?=some 46) with
   | false =>
    have hc':=of_decide_eq_false hc1;have HZ:Hd ((2:Int) ≠ 0):=by show (2:Int) ≠ 0;decide
    have FIN:Hd (X=(2,j1,zeroV)):=by
     show X=_;have hr:=HR1.o;unfold rest1 at hr;rw [if_neg hc'] at hr;rw [HV.o,hr];rfl
    have CM:Hd (Calls Tryz.prog 56 #[.pointer (some ⟨A+1,0,none⟩),.int .u8 46] U1 fun e w'=>e=.returned (.tuple #[])/\VS (A+1) s j1 2 j1 w'/\U1.grownBy w' (some (A+1))):=MN.o _ _ _ _ HJ1.o hc' HU1.o.vs;clear hc1 hc';go_wp2_with (first | (go_at_call 56;refine CM.o.mono ?_));rintro e v1 ⟨rfl,hvs,hg⟩;have HM:Hd (RV w A s j1 2 j1 x1 0 0 ⟨#[]⟩ ⟨#[]⟩ v1):=HU1.o.call hg hvs;clear hvs hg f0 f1 f2 f3 q0 q1 q2 q3 q4 qf hU1;have f0:=HM.o.vs.c0;have f1:=HM.o.vs.c1;have f2:=HM.o.vs.c2;have f3:=HM.o.vs.c3;go_wp2_with (first | (go_at_call 57;refine (rtail_skip (A+1) (A+2) s j1 2 HZ.o j1 _ HM.o.vs).mono ?_));rintro e t1 ⟨rfl,n,hn⟩;have HT:Hd (RV w A s j1 2 j1 x1 0 0 ⟨#[]⟩ ⟨#[]⟩ t1):=by show RV _ _ _ _ _ _ _ _ _ _ _ t1;rw [hn];exact HM.o.drew n
    clear hn f0 f1 f2 f3;have f0:=HT.o.vs.c0;have f1:=HT.o.vs.c1;have f2:=HT.o.vs.c2;have f3:=HT.o.vs.c3;obtain ⟨z0,z1,z2,z3,z4⟩:=HT.o.vz.cells;have zf:=HT.o.vz.f;go_wp2
    go_region
    go_wp2;refine bodyPost_ret (res_row_tmp2 (p:=2) (u:=3) (r:=4) rfl _ _ A _ _ (0,0) _ rfl (putr_row HT.o.vz 0 0 0 ⟨#[]⟩ ⟨#[]⟩) Tryz.underlying89 rfl (by kernel_rfl)) rfl ⟨?_,gb_drew (put5_gb0 HT.o.gb HT.o.le 0 0 0 ⟨#[]⟩ ⟨#[]⟩) 1⟩;rw [FIN.o];rfl
   | true =>
    have hc':=of_decide_eq_true hc1;have HRn:Hd (R=if (rdNum l (j1+1)).1=0 then rest2 l (rdNum l (j1+1)).2.2 x1 (rdNum l (j1+1)).2.1 else ((rdNum l (j1+1)).1,(rdNum l (j1+1)).2.2,0,0,0)):=by
     show R=_;have hr:=HR1.o;unfold rest1 at hr;rw [if_pos hc'] at hr;exact hr
    have HJn:Hd (j1+1<=s.size):=by have:=(List.getElem?_eq_some_iff.1 hc').1;rw [HL.o.2] at this;exact this
    have CM:Hd (Calls Tryz.prog 56 #[.pointer (some ⟨A+1,0,none⟩),.int .u8 46] U1 fun e w'=>e=.returned (.tuple #[])/\VS (A+1) s (j1+1) 0 c1 w'/\U1.grownBy w' (some (A+1))):=MY.o _ _ _ _ hc' HU1.o.vs;clear hc1 hc';go_wp2_with (first | (go_at_call 56;refine CM.o.mono ?_));rintro e v2 ⟨rfl,hvs,hg⟩;have HM2:Hd (RV w A s (j1+1) 0 c1 x1 0 0 ⟨#[]⟩ ⟨#[]⟩ v2):=HU1.o.call hg hvs;clear hvs hg f0 f1 f2 f3 q0 q1 q2 q3 q4 qf hU1 HR1 CM;have f0:=HM2.o.vs.c0;have f1:=HM2.o.vs.c1;have f2:=HM2.o.vs.c2;have f3:=HM2.o.vs.c3;go_wp2_with (first | (go_at_call 55;refine (CN.o _ (j1+1) c1 _ HJn.o HM2.o.vs).mono ?_));rintro e u2 ⟨x2,j2,E2,c2,rfl,hvs,hg,hE,hok,herr⟩;have HA2:Hd (RV w A s j2 E2 c2 x1 0 0 ⟨#[]⟩ ⟨#[]⟩ u2):=HM2.o.call hg hvs;have HK2:Hd (E2=(rdNum l (j1+1)).1/\(E2=0->x2=(rdNum l (j1+1)).2.1/\j2=(rdNum l (j1+1)).2.2/\j2<=s.size)/\(E2 ≠ 0->c2=(rdNum l (j1+1)).2.2)):=by rw [HL.o.1];exact ⟨hE,hok,herr⟩
    clear hvs hg hE hok herr f0 f1 f2 f3;obtain ⟨U2,hU2⟩:∃U,u2.setCell ⟨A+2,1,none⟩ (.int .i64 x2)=U:=⟨_,rfl⟩;have HU2:Hd (RV w A s j2 E2 c2 x1 x2 0 ⟨#[]⟩ ⟨#[]⟩ U2):=by show RV _ _ _ _ _ _ _ _ _ _ _ U2;rw [<-hU2];exact HA2.o.put1 x2
    obtain ⟨q0,q1,q2,q3,q4⟩:=HA2.o.vr.cells;have qf:=HA2.o.vr.f;have f0:=HU2.o.vs.c0;have f1:=HU2.o.vs.c1;have f2:=HU2.o.vs.c2;have f3:=HU2.o.vs.c3
    cases hz2:(E2 == 0) with
    | false =>
     have HZ:Hd (E2 ≠ 0):=by show E2 ≠ 0;simpa using hz2
     have FIN:Hd (X=(E2,c2,zeroV)):=by
      show X=_;have h9:¬ (rdNum l (j1+1)).1=0:=fun e=>HZ.o (HK2.o.1.trans e)
      have hr:=HRn.o;rw [if_neg h9,<-HK2.o.1,<-HK2.o.2.2 HZ.o] at hr;rw [HV.o,hr,if_neg HZ.o]
     go_wp2_with (first | (go_at_call 57;refine (rtail_skip (A+1) (A+2) s j2 E2 HZ.o c2 _ HU2.o.vs).mono ?_));rintro e t1 ⟨rfl,n,hn⟩;have HT:Hd (RV w A s j2 E2 c2 x1 x2 0 ⟨#[]⟩ ⟨#[]⟩ t1):=by show RV _ _ _ _ _ _ _ _ _ _ _ t1;rw [hn];exact HU2.o.drew n
     clear hn f0 f1 f2 f3;have f0:=HT.o.vs.c0;have f1:=HT.o.vs.c1;have f2:=HT.o.vs.c2;have f3:=HT.o.vs.c3;obtain ⟨z0,z1,z2,z3,z4⟩:=HT.o.vz.cells;have zf:=HT.o.vz.f;go_wp2
     go_region
     go_wp2;refine bodyPost_ret (res_row_tmp2 (p:=2) (u:=3) (r:=4) rfl _ _ A _ _ (0,0) _ rfl (putr_row HT.o.vz 0 0 0 ⟨#[]⟩ ⟨#[]⟩) Tryz.underlying89 rfl (by kernel_rfl)) rfl ⟨?_,gb_drew (put5_gb0 HT.o.gb HT.o.le 0 0 0 ⟨#[]⟩ ⟨#[]⟩) 1⟩;rw [FIN.o];rfl
    | true =>
     have h0:E2=0:=by simpa using hz2
     subst h0;clear hz2;have HJ2:Hd (j2<=s.size):=(HK2.o.2.1 rfl).2.2;have HR2:Hd (R=rest2 l j2 x1 x2):=by
      show R=_;obtain ⟨e1,e2,-⟩:=HK2.o.2.1 rfl;have hr:=HRn.o;rw [if_pos HK2.o.1.symm,<-e1,<-e2] at hr;exact hr
     clear HK2 HRn
     cases hc2:decide (l[j2]?=some 46) with
     | false =>
      have hc':=of_decide_eq_false hc2;have HZ:Hd ((2:Int) ≠ 0):=by show (2:Int) ≠ 0;decide
      have FIN:Hd (X=(2,j2,zeroV)):=by
       show X=_;have hr:=HR2.o;unfold rest2 at hr;rw [if_neg hc'] at hr;rw [HV.o,hr];rfl
      have CM:Hd (Calls Tryz.prog 56 #[.pointer (some ⟨A+1,0,none⟩),.int .u8 46] U2 fun e w'=>e=.returned (.tuple #[])/\VS (A+1) s j2 2 j2 w'/\U2.grownBy w' (some (A+1))):=MN.o _ _ _ _ HJ2.o hc' HU2.o.vs;clear hc2 hc';go_wp2_with (first | (go_at_call 56;refine CM.o.mono ?_));rintro e v1 ⟨rfl,hvs,hg⟩;have HM:Hd (RV w A s j2 2 j2 x1 x2 0 ⟨#[]⟩ ⟨#[]⟩ v1):=HU2.o.call hg hvs;clear hvs hg f0 f1 f2 f3 q0 q1 q2 q3 q4 qf hU2;have f0:=HM.o.vs.c0;have f1:=HM.o.vs.c1;have f2:=HM.o.vs.c2;have f3:=HM.o.vs.c3;go_wp2_with (first | (go_at_call 57;refine (rtail_skip (A+1) (A+2) s j2 2 HZ.o j2 _ HM.o.vs).mono ?_));rintro e t1 ⟨rfl,n,hn⟩;have HT:Hd (RV w A s j2 2 j2 x1 x2 0 ⟨#[]⟩ ⟨#[]⟩ t1):=by show RV _ _ _ _ _ _ _ _ _ _ _ t1;rw [hn];exact HM.o.drew n
      clear hn f0 f1 f2 f3;have f0:=HT.o.vs.c0;have f1:=HT.o.vs.c1;have f2:=HT.o.vs.c2;have f3:=HT.o.vs.c3;obtain ⟨z0,z1,z2,z3,z4⟩:=HT.o.vz.cells;have zf:=HT.o.vz.f;go_wp2
      go_region
      go_wp2;refine bodyPost_ret (res_row_tmp2 (p:=2) (u:=3) (r:=4) rfl _ _ A _ _ (0,0) _ rfl (putr_row HT.o.vz 0 0 0 ⟨#[]⟩ ⟨#[]⟩) Tryz.underlying89 rfl (by kernel_rfl)) rfl ⟨?_,gb_drew (put5_gb0 HT.o.gb HT.o.le 0 0 0 ⟨#[]⟩ ⟨#[]⟩) 1⟩;rw [FIN.o];rfl
     | true =>
      have hc':=of_decide_eq_true hc2;have HRn:Hd (R=if (rdNum l (j2+1)).1=0 then rest3 l (rdNum l (j2+1)).2.2 x1 x2 (rdNum l (j2+1)).2.1 else ((rdNum l (j2+1)).1,(rdNum l (j2+1)).2.2,0,0,0)):=by
       show R=_;have hr:=HR2.o;unfold rest2 at hr;rw [if_pos hc'] at hr;exact hr
      have HJn:Hd (j2+1<=s.size):=by have:=(List.getElem?_eq_some_iff.1 hc').1;rw [HL.o.2] at this;exact this
      have CM:Hd (Calls Tryz.prog 56 #[.pointer (some ⟨A+1,0,none⟩),.int .u8 46] U2 fun e w'=>e=.returned (.tuple #[])/\VS (A+1) s (j2+1) 0 c2 w'/\U2.grownBy w' (some (A+1))):=MY.o _ _ _ _ hc' HU2.o.vs;clear hc2 hc';go_wp2_with (first | (go_at_call 56;refine CM.o.mono ?_));rintro e v3 ⟨rfl,hvs,hg⟩;have HM3:Hd (RV w A s (j2+1) 0 c2 x1 x2 0 ⟨#[]⟩ ⟨#[]⟩ v3):=HU2.o.call hg hvs;clear hvs hg f0 f1 f2 f3 q0 q1 q2 q3 q4 qf hU2 HR2 CM;have f0:=HM3.o.vs.c0;have f1:=HM3.o.vs.c1;have f2:=HM3.o.vs.c2;have f3:=HM3.o.vs.c3;go_wp2_with (first | (go_at_call 55;refine (CN.o _ (j2+1) c2 _ HJn.o HM3.o.vs).mono ?_));rintro e u3 ⟨x3,j3,E3,c3,rfl,hvs,hg,hE,hok,herr⟩;have HA3:Hd (RV w A s j3 E3 c3 x1 x2 0 ⟨#[]⟩ ⟨#[]⟩ u3):=HM3.o.call hg hvs;have HK3:Hd (E3=(rdNum l (j2+1)).1/\(E3=0->x3=(rdNum l (j2+1)).2.1/\j3=(rdNum l (j2+1)).2.2/\j3<=s.size)/\(E3 ≠ 0->c3=(rdNum l (j2+1)).2.2)):=by rw [HL.o.1];exact ⟨hE,hok,herr⟩
      clear hvs hg hE hok herr f0 f1 f2 f3;obtain ⟨U3,hU3⟩:∃U,u3.setCell ⟨A+2,2,none⟩ (.int .i64 x3)=U:=⟨_,rfl⟩;have HU3:Hd (RV w A s j3 E3 c3 x1 x2 x3 ⟨#[]⟩ ⟨#[]⟩ U3):=by show RV _ _ _ _ _ _ _ _ _ _ _ U3;rw [<-hU3];exact HA3.o.put2 x3
      obtain ⟨q0,q1,q2,q3,q4⟩:=HA3.o.vr.cells;have qf:=HA3.o.vr.f;have f0:=HU3.o.vs.c0;have f1:=HU3.o.vs.c1;have f2:=HU3.o.vs.c2;have f3:=HU3.o.vs.c3
      cases hz3:(E3 == 0) with
      | false =>
       have HZ:Hd (E3 ≠ 0):=by show E3 ≠ 0;simpa using hz3
       have FIN:Hd (X=(E3,c3,zeroV)):=by
        show X=_;have h9:¬ (rdNum l (j2+1)).1=0:=fun e=>HZ.o (HK3.o.1.trans e)
        have hr:=HRn.o;rw [if_neg h9,<-HK3.o.1,<-HK3.o.2.2 HZ.o] at hr;rw [HV.o,hr,if_neg HZ.o]
       go_wp2_with (first | (go_at_call 57;refine (rtail_skip (A+1) (A+2) s j3 E3 HZ.o c3 _ HU3.o.vs).mono ?_));rintro e t1 ⟨rfl,n,hn⟩;have HT:Hd (RV w A s j3 E3 c3 x1 x2 x3 ⟨#[]⟩ ⟨#[]⟩ t1):=by show RV _ _ _ _ _ _ _ _ _ _ _ t1;rw [hn];exact HU3.o.drew n
       clear hn f0 f1 f2 f3;have f0:=HT.o.vs.c0;have f1:=HT.o.vs.c1;have f2:=HT.o.vs.c2;have f3:=HT.o.vs.c3;obtain ⟨z0,z1,z2,z3,z4⟩:=HT.o.vz.cells;have zf:=HT.o.vz.f;go_wp2
       go_region
       go_wp2;refine bodyPost_ret (res_row_tmp2 (p:=2) (u:=3) (r:=4) rfl _ _ A _ _ (0,0) _ rfl (putr_row HT.o.vz 0 0 0 ⟨#[]⟩ ⟨#[]⟩) Tryz.underlying89 rfl (by kernel_rfl)) rfl ⟨?_,gb_drew (put5_gb0 HT.o.gb HT.o.le 0 0 0 ⟨#[]⟩ ⟨#[]⟩) 1⟩;rw [FIN.o];rfl
      | true =>
       have h0:E3=0:=by simpa using hz3
       subst h0;clear hz3;have HJ3:Hd (j3<=s.size):=(HK3.o.2.1 rfl).2.2;have HR3:Hd (R=rest3 l j3 x1 x2 x3):=by
        show R=_;obtain ⟨e1,e2,-⟩:=HK3.o.2.1 rfl;have hr:=HRn.o;rw [if_pos HK3.o.1.symm,<-e1,<-e2] at hr;exact hr
       clear HK3 HRn;have CTl:Hd (Calls Tryz.prog 57 #[.pointer (some ⟨A+1,0,none⟩),.pointer (some ⟨A+2,0,none⟩)] U3 fun e w'=>e=.returned (.tuple #[])/\RTailPost (A+1) (A+2) s j3 x1 x2 x3 U3 w'):=CT.o _ _ _ _ _ _ _ _ HJ3.o HU3.o.vs HU3.o.vr (by omega);go_wp2_with (first | (go_at_call 57;refine CTl.o.mono ?_));rintro e t1 ⟨rfl,j4,E4,c4,P4,B4,hvs,hvr,hg,hE,hok,herr⟩;have HT:Hd (RV w A s j4 E4 c4 x1 x2 x3 P4 B4 t1):=HU3.o.two hg hvs hvr;have HK4:Hd (E4=(tailP l j3).1/\(E4=0->P4=⟨(tailP l j3).2.2.1.toArray⟩/\B4=⟨(tailP l j3).2.2.2.toArray⟩/\j4=(tailP l j3).2.1/\j4<=s.size)/\(E4 ≠ 0->c4=(tailP l j3).2.1)):=by rw [HL.o.1];exact ⟨hE,hok,herr⟩
       have HX4:Hd (X=if (tailP l j3).1=0 then (if (tailP l j3).2.1 < l.length then (2,(tailP l j3).2.1,zeroV) else (0,0,⟨x1,x2,x3,(tailP l j3).2.2.1,(tailP l j3).2.2.2⟩)) else ((tailP l j3).1,(tailP l j3).2.1,zeroV)):=by
        show X=_;have hr:=HR3.o;unfold rest3 at hr;rw [HV.o,hr];rfl
       clear hvs hvr hg hE hok herr f0 f1 f2 f3 q0 q1 q2 q3 q4 qf hU3 HV HR3
       cases hz4:(E4 == 0) with
       | false =>
        have HZ:Hd (E4 ≠ 0):=by show E4 ≠ 0;simpa using hz4
        have FIN:Hd (X=(E4,c4,zeroV)):=by
         show X=_;have h9:¬ (tailP l j3).1=0:=fun e=>HZ.o (HK4.o.1.trans e)
         rw [HX4.o,if_neg h9,<-HK4.o.1,<-HK4.o.2.2 HZ.o]
        have f0:=HT.o.vs.c0;have f1:=HT.o.vs.c1;have f2:=HT.o.vs.c2;have f3:=HT.o.vs.c3;obtain ⟨z0,z1,z2,z3,z4⟩:=HT.o.vz.cells;have zf:=HT.o.vz.f;go_wp2
        go_region
        go_wp2;refine bodyPost_ret (res_row_tmp2 (p:=2) (u:=3) (r:=4) rfl _ _ A _ _ (0,0) _ rfl (putr_row HT.o.vz 0 0 0 ⟨#[]⟩ ⟨#[]⟩) Tryz.underlying89 rfl (by kernel_rfl)) rfl ⟨?_,gb_drew (put5_gb0 HT.o.gb HT.o.le 0 0 0 ⟨#[]⟩ ⟨#[]⟩) 1⟩;rw [FIN.o];rfl
       | true =>
        have h0:E4=0:=by simpa using hz4
        subst h0;clear hz4;have HK5:Hd (P4=⟨(tailP l j3).2.2.1.toArray⟩/\B4=⟨(tailP l j3).2.2.2.toArray⟩/\j4=(tailP l j3).2.1/\j4<=s.size):=HK4.o.2.1 rfl;have HX5:Hd (X=if j4 < l.length then (2,j4,zeroV) else (0,0,⟨x1,x2,x3,(tailP l j3).2.2.1,(tailP l j3).2.2.2⟩)):=by
         show X=_;rw [HX4.o,if_pos HK4.o.1.symm,<-HK5.o.2.2.1]
        clear HK4 HX4;have f0:=HT.o.vs.c0;have f1:=HT.o.vs.c1;have f2:=HT.o.vs.c2;have f3:=HT.o.vs.c3
        by_cases hlt:j4 < s.size
        ·have hl2:((j4:Nat):Int) < (s.size:Int):=by omega
         have FIN:Hd (X=(2,j4,zeroV)):=by show X=_;rw [HX5.o,if_pos (by rw [HL.o.2];exact hlt)]
         go_wp2_with (first | (go_at_call 58;refine (fail_first (A+1) s j4 c4 2 j4 _ HT.o.vs).mono ?_));rintro e t2 ⟨rfl,hvs,hg⟩;have HT3:Hd (RV w A s j4 2 j4 x1 x2 x3 P4 B4 t2):=HT.o.call hg hvs;clear hvs hg f0 f1 f2 f3;have f0:=HT3.o.vs.c0;have f1:=HT3.o.vs.c1;have f2:=HT3.o.vs.c2;have f3:=HT3.o.vs.c3;obtain ⟨z0,z1,z2,z3,z4⟩:=HT3.o.vz.cells;have zf:=HT3.o.vz.f;go_wp2
         go_region
         go_wp2;refine bodyPost_ret (res_row_tmp2 (p:=2) (u:=3) (r:=4) rfl _ _ A _ _ (0,0) _ rfl (putr_row HT3.o.vz 0 0 0 ⟨#[]⟩ ⟨#[]⟩) Tryz.underlying89 rfl (by kernel_rfl)) rfl ⟨?_,gb_drew (put5_gb0 HT3.o.gb HT3.o.le 0 0 0 ⟨#[]⟩ ⟨#[]⟩) 1⟩;rw [FIN.o];rfl
        ·have hl2:¬ ((j4:Nat):Int) < (s.size:Int):=by omega
         have FIN:Hd (X=(0,0,⟨x1,x2,x3,(tailP l j3).2.2.1,(tailP l j3).2.2.2⟩)):=by show X=_;rw [HX5.o,if_neg (by rw [HL.o.2];exact hlt)]
         clear hlt;obtain ⟨z0,z1,z2,z3,z4⟩:=HT.o.vz.cells;have zf:=HT.o.vz.f;obtain ⟨q0,q1,q2,q3,q4⟩:=HT.o.vr.cells;go_wp2;refine bodyPost_ret (res_row_tmp2 (p:=2) (u:=3) (r:=4) rfl _ _ A _ _ (0,0) _ rfl (putr_row HT.o.vz x1 x2 x3 P4 B4) Tryz.underlying89 rfl (by kernel_rfl)) rfl ⟨?_,put5_gb0 HT.o.gb HT.o.le x1 x2 x3 P4 B4⟩;rw [FIN.o,HK5.o.1,HK5.o.2.1];rfl
open Go.RowKit
def okV (s:ByteArray):Bool:=decide ((parseV s.data.toList).1=0)
def verO (s:ByteArray):Vv:=(parseV s.data.toList).2.2
def cutV (v:Vv):V:=⟨v.major,v.minor,v.patch,v.pre⟩
def togB (s t:ByteArray):Bool:=okV s && (okV t && decide (verC (cutV (verO s)) (cutV (verO t))=0))
theorem sub_shortV (l:List UInt8) (i k:Nat):(subT l i k).length<=l.length:=by unfold subT;simp;omega
theorem opt_lenV (c:UInt8) (st:Bool) (l:List UInt8) (i:Nat):(optP c st l i).2.2.length<=l.length:=by
 unfold optP
 repeat' split
 all_goals first | exact sub_shortV _ _ _ | exact Nat.zero_le _
theorem pre_100 (s:ByteArray):(verO s).pre.length<=100:=by
 unfold verO parseV;split
 ·exact Nat.zero_le _
 ·rename_i h;unfold rdVer
  repeat' split
  all_goals first | exact Nat.zero_le _ | (have:=opt_lenV 45 true s.data.toList (rdNums s.data.toList).2.1;simp only [];omega)
theorem isVersion_any (s:ByteArray) (w:World) (hs:s.size < 2 ^ 62):Calls Tryz.prog 27 #[.string s] w fun e w'=>e=.returned (.bool (okV s))/\w.grownBy w' none:=by
 have CR:Hd (∀w,Calls Tryz.prog 41 #[.string s] w fun e w'=>(∃(x1 x2 x3:Int) (x4 x5:ByteArray) (k:Int),e=.returned (.tuple #[.agg #[.int .i64 x1,.int .i64 x2,.int .i64 x3,.string x4,.string x5],.int .i64 (parseV s.data.toList).1,.int .i64 k]))/\w.grownBy w' none):=fun w=>(readv_any s w hs).mono fun e w' ⟨h1,h2⟩=>⟨⟨_,_,_,_,_,_,h1⟩,h2⟩
 unfold okV;obtain ⟨E,hE⟩:=nm ((parseV s.data.toList).1);rw [hE] at CR ⊢;clear hE;have hd:decide (E=0)=(E == 0):=by rw [Bool.eq_iff_iff];simp
 rw [hd];clear hd;go_enter Tryz.func27,Tryz.ntmps27;go_wp2_with (first | (go_at_call 41;refine (CR.o _).mono ?_));rintro e w1 ⟨⟨x1,x2,x3,x4,x5,k,rfl⟩,hg⟩
 cases hz:(E == 0) with
 | true =>
  go_wp2;go_ret;exact ⟨ret_bool hz.symm,gb_trans hg (gb_alloc (gb_refl w1 none) _)⟩
 | false =>
  go_wp2;go_ret;exact ⟨ret_bool hz.symm,gb_trans hg (gb_alloc (gb_refl w1 none) _)⟩
set_option maxRecDepth 100000 in
theorem refVersion_any (s:ByteArray) (w:World) (hs:s.size < 2 ^ 62):Calls Tryz.prog 43 #[.string s] w fun e w'=>e=.returned (valV (verO s))/\w.grownBy w' none:=by
 have CR:Hd (∀w,Calls Tryz.prog 41 #[.string s] w fun e w'=>(∃(E k:Int),e=.returned (.tuple #[valV (verO s),.int .i64 E,.int .i64 k]))/\w.grownBy w' none):=fun w=>(readv_any s w hs).mono fun e w' ⟨h1,h2⟩=>⟨⟨_,_,h1⟩,h2⟩
 unfold valV at CR ⊢;obtain ⟨x1,h1⟩:∃x,(verO s).major=x:=⟨_,rfl⟩;obtain ⟨x2,h2⟩:∃x,(verO s).minor=x:=⟨_,rfl⟩;obtain ⟨x3,h3⟩:∃x,(verO s).patch=x:=⟨_,rfl⟩;obtain ⟨x4,h4⟩:∃x:ByteArray,⟨(verO s).pre.toArray⟩=x:=⟨_,rfl⟩;obtain ⟨x5,h5⟩:∃x:ByteArray,⟨(verO s).build.toArray⟩=x:=⟨_,rfl⟩;rw [h1,h2,h3,h4,h5] at CR ⊢;clear h1 h2 h3 h4 h5 hs;go_enter Tryz.func43,Tryz.ntmps43;go_wp2_with (first | (go_at_call 41;refine (CR.o _).mono ?_));rintro e w1 ⟨⟨E,k,rfl⟩,hg⟩;obtain ⟨A,hA⟩:=nm (w.heap.size);have hx:VR A 0 0 0 ⟨#[]⟩ ⟨#[]⟩ w1:=by
  show w1.heap[A]?=_;rw [<-hA,hg.block w.heap.size (by simp) (by simp)];exact heap_alloc_new w _
 have HXA:Hd (VR A 0 0 0 ⟨#[]⟩ ⟨#[]⟩ w1):=hx;have HG:Hd (w.grownBy w1 none):=gb_trans (gb_alloc (gb_refl w none) _) hg;have HWA:Hd (w.heap.size<=A):=Nat.le_of_eq hA;have hlt0:A < w1.heap.size:=(hqL hx)
 try rw [hA]
 clear hA hx hg;obtain ⟨ca0,ca1,ca2,ca3,ca4⟩:=HXA.o.cells;have ra:=HXA.o.f;go_wp2;refine bodyPost_ret (results_cell_row rfl _ _ A 89 #[.int .i64 x1,.int .i64 x2,.int .i64 x3,.string x4,.string x5] (0,0) _ rfl (by rw [Lib.alloc_old _ _ _ (by simpa [World.setCell] using hlt0)];exact putr_row HXA.o x1 x2 x3 x4 x5) Tryz.underlying89 rfl (by kernel_rfl)) rfl ⟨rfl,gb_alloc (put5_gb0 HG.o HWA.o x1 x2 x3 x4 x5) _⟩
set_option maxRecDepth 100000 in
theorem together_any (s t:ByteArray) (w:World) (hs:s.size < 2 ^ 62) (ht:t.size < 2 ^ 62):Calls Tryz.prog 28 #[.string s,.string t] w fun e w'=>e=.returned (.bool (togB s t))/\w.grownBy w' none:=by
 have IS:Hd (∀w,Calls Tryz.prog 27 #[.string s] w fun e w'=>e=.returned (.bool (okV s))/\w.grownBy w' none):=fun w=>isVersion_any s w hs
 have IT:Hd (∀w,Calls Tryz.prog 27 #[.string t] w fun e w'=>e=.returned (.bool (okV t))/\w.grownBy w' none):=fun w=>isVersion_any t w ht
 have p1:=pre_100 s;have p2:=pre_100 t;have VS1:Hd (∀w,Calls Tryz.prog 43 #[.string s] w fun e w'=>e=.returned (valV (verO s))/\w.grownBy w' none):=fun w=>refVersion_any s w hs
 have VT1:Hd (∀w,Calls Tryz.prog 43 #[.string t] w fun e w'=>e=.returned (valV (verO t))/\w.grownBy w' none):=fun w=>refVersion_any t w ht
 have CC:Hd (∀w,Calls Tryz.prog 42 #[valV (verO s),valV (verO t)] w fun e w'=>e=.returned (.int .i64 (verC (cutV (verO s)) (cutV (verO t))))/\w.grownBy w' none):=fun w=>by
  refine (rcompare_any _ _ _ _ _ _ _ _ _ _ w (by show (verO s).pre.toArray.size<=_;simp;omega) (by show (verO t).pre.toArray.size<=_;simp;omega)).mono ?_;rintro e w' ⟨rfl,h⟩;refine ⟨?_,⟨h.os,h.tape,h.output,h.size,fun k hk _=>h.block k hk⟩⟩;simp [cutV]
 unfold togB;obtain ⟨bs,hbs⟩:∃b,okV s=b:=⟨_,rfl⟩;obtain ⟨bt,hbt⟩:∃b,okV t=b:=⟨_,rfl⟩;obtain ⟨Vs,hVs⟩:∃v,valV (verO s)=v:=⟨_,rfl⟩;obtain ⟨Vt,hVt⟩:∃v,valV (verO t)=v:=⟨_,rfl⟩;obtain ⟨R,hR⟩:=nm (verC (cutV (verO s)) (cutV (verO t)));rw [hbs] at IS ⊢;rw [hbt] at IT ⊢;rw [hR] at CC ⊢;rw [hVs] at VS1 CC;rw [hVt] at VT1 CC;have hd:decide (R=0)=(R == 0):=by rw [Bool.eq_iff_iff];simp
 rw [hd];clear hd hbs hbt hVs hVt hR p1 p2 hs ht;have HG:Hd (w.grownBy w none):=gb_refl _ _;go_enter Tryz.func28,Tryz.ntmps28;go_wp2_with (first | (go_at_call 27;refine (IS.o _).mono ?_));rintro e w1 ⟨rfl,hg⟩;replace HG:Hd (w.grownBy w1 none):=gb_trans HG.o hg;clear hg;go_wp2_with (first | (go_at_call 27;refine (IT.o _).mono ?_));rintro e w2 ⟨rfl,hg⟩;replace HG:Hd (w.grownBy w2 none):=gb_trans HG.o hg;clear hg
 cases bs with
 | false =>
  go_wp2;go_ret;exact ⟨rfl,HG.o⟩
 | true =>
  cases bt with
  | false =>
   go_wp2;go_ret;exact ⟨rfl,HG.o⟩
  | true =>
   cases hz:(R == 0) with
   | true =>
    go_wp2_with (first | (go_at_call_of 43 s;refine (VS1.o _).mono ?_;rintro e w' ⟨rfl,hg⟩;replace HG:Hd (w.grownBy w' none):=gb_trans HG.o hg;clear hg) | (go_at_call_of 43 t;refine (VT1.o _).mono ?_;rintro e w' ⟨rfl,hg⟩;replace HG:Hd (w.grownBy w' none):=gb_trans HG.o hg;clear hg) | (go_at_call 42;refine (CC.o _).mono ?_;rintro e w' ⟨rfl,hg⟩;replace HG:Hd (w.grownBy w' none):=gb_trans HG.o hg;clear hg));go_ret;exact ⟨ret_bool (show true=(true && (true && (R == 0))) by rw [hz];rfl),HG.o⟩
   | false =>
    go_wp2_with (first | (go_at_call_of 43 s;refine (VS1.o _).mono ?_;rintro e w' ⟨rfl,hg⟩;replace HG:Hd (w.grownBy w' none):=gb_trans HG.o hg;clear hg) | (go_at_call_of 43 t;refine (VT1.o _).mono ?_;rintro e w' ⟨rfl,hg⟩;replace HG:Hd (w.grownBy w' none):=gb_trans HG.o hg;clear hg) | (go_at_call 42;refine (CC.o _).mono ?_;rintro e w' ⟨rfl,hg⟩;replace HG:Hd (w.grownBy w' none):=gb_trans HG.o hg;clear hg));go_ret;exact ⟨ret_bool (show false=(true && (true && (R == 0))) by rw [hz];rfl),HG.o⟩
open Go.RowKit Go.Maps
def admT (r v:ByteArray):Bool:=admS (rdRange r.data.toList).2.2 (cutV (verO v))
def veK (L:List Re) (k:Nat):ByteArray:=match L[k]? with | some x=>x.ve | none=>⟨#[]⟩
theorem veK_at (L:List Re) (k:Nat) (h:k < L.length):veK L k=L[k].ve:=by simp [veK,List.getElem?_eq_getElem h]
def meetJ (N:List Nd) (L:List Re) (j q:Nat):Bool:=decide (q < L.length) && (match N[j]? with | some y=>decide (y.n=nmK L q) && admT y.r (veK L q) | none=>false)
theorem meetJ_at (N:List Nd) (L:List Re) (j q:Nat) (hj:j < N.length) (hq:q < L.length):meetJ N L j q=(decide (N[j].n=nmK L q) && admT N[j].r (veK L q)):=by simp [meetJ,List.getElem?_eq_getElem hj,hq]
theorem meetJ_lt {N:List Nd} {L:List Re} {j q:Nat} (h:meetJ N L j q=true):q < L.length:=by
 unfold meetJ at h;rw [Bool.and_eq_true] at h;exact of_decide_eq_true h.1
def namB (N:List Nd) (L:List Re) (q:Nat):Bool:=decide (q < L.length) && N.any fun y=>decide (y.n=nmK L q)
def atN (N:List Nd) (L:List Re) (i q:Nat):Bool:=match N[i]? with | some y=>decide (y.n=nmK L q) | none=>false
theorem atN_at (N:List Nd) (L:List Re) (i q:Nat) (hi:i < N.length):atN N L i q=decide (N[i].n=nmK L q):=by simp [atN,List.getElem?_eq_getElem hi]
def nmB (N:List Nd) (L:List Re) (i k q:Nat):Bool:=decide (q < L.length) && ((N.take i).any (fun y=>decide (y.n=nmK L q)) || (decide (q < k) && atN N L i q))
def mtB (N:List Nd) (L:List Re) (i k j q:Nat):Bool:=(decide (j < i) || (decide (j=i) && decide (q < k))) && meetJ N L j q
theorem nmB_zero (N:List Nd) (L:List Re) (q:Nat):nmB N L 0 0 q=false:=by simp [nmB]
theorem mtB_zero (N:List Nd) (L:List Re) (j q:Nat):mtB N L 0 0 j q=false:=by simp [mtB]
theorem lt_next (q k:Nat):decide (q < k+1)=(decide (q < k) || decide (k=q)):=by
 rw [Bool.eq_iff_iff];simp;omega
theorem nmB_step (N:List Nd) (L:List Re) (i k q:Nat) (hk:k < L.length):nmB N L i (k+1) q=(nmB N L i k q || (decide (k=q) && atN N L i k)):=by
 unfold nmB;rw [lt_next]
 by_cases h:k=q
 ·subst h;simp [hk]
 ·simp [h]
theorem mtB_step (N:List Nd) (L:List Re) (i k j q:Nat):mtB N L i (k+1) j q=(mtB N L i k j q || (decide (j=i) && (decide (k=q) && meetJ N L i k))):=by
 unfold mtB;rw [lt_next]
 by_cases h:k=q
 ·subst h
  by_cases hj:j=i
  ·subst hj;simp
  ·simp [hj]
 ·simp [h]
theorem nmB_end (N:List Nd) (L:List Re) (i q:Nat) (hi:i < N.length):nmB N L i L.length q=nmB N L (i+1) 0 q:=by
 unfold nmB;rw [List.take_succ_eq_append_getElem hi,List.any_append,atN_at N L i q hi]
 by_cases h:q < L.length
 ·simp [h]
 ·simp [h]
theorem mtB_end (N:List Nd) (L:List Re) (i j q:Nat):mtB N L i L.length j q=mtB N L (i+1) 0 j q:=by
 unfold mtB
 cases hm:meetJ N L j q with
 | false=>simp
 | true =>
  have:=meetJ_lt hm;simp [this];rw [Bool.eq_iff_iff];simp;omega
theorem nmB_all (N:List Nd) (L:List Re) (q:Nat):nmB N L N.length 0 q=namB N L q:=by
 unfold nmB namB;rw [List.take_length];simp
theorem mtB_all (N:List Nd) (L:List Re) (j q:Nat) (hj:j < N.length):mtB N L N.length 0 j q=meetJ N L j q:=by
 unfold mtB;simp [hj]
theorem okV_vok {s:ByteArray} (h:okV s=true):VOk (cutV (verO s)):=by
 unfold okV at h;have h0:(parseV s.data.toList).1=0:=of_decide_eq_true h;have h1:soundV (parseV s.data.toList).2.2=true:=by
  unfold parseV at h0 ⊢;split at h0
  ·exact absurd h0 (by decide)
  ·rename_i hn;rw [if_neg hn];exact (text_read _ h0).2
 unfold soundV at h1;simp only [Bool.and_eq_true,bound_iff] at h1;exact ⟨h1.1.1,h1.2.1.1,h1.2.2.1.1,h1.2.2.2.1⟩
def VrS (w:World) (a:Addr) (L:List Re):Prop:=∀j (hj:j < L.length),w.cell? (a.add (j * 5))=some (.int .i64 (verO L[j].ve).major)/\w.cell? ⟨(a.add (j * 5)).block,(a.add (j * 5)).off+1,none⟩=some (.int .i64 (verO L[j].ve).minor)/\w.cell? ⟨(a.add (j * 5)).block,(a.add (j * 5)).off+2,none⟩=some (.int .i64 (verO L[j].ve).patch)/\w.cell? ⟨(a.add (j * 5)).block,(a.add (j * 5)).off+3,none⟩=some (.string ⟨(verO L[j].ve).pre.toArray⟩)/\w.cell? ⟨(a.add (j * 5)).block,(a.add (j * 5)).off+4,none⟩=some (.string ⟨(verO L[j].ve).build.toArray⟩)
theorem VrS.grow {w w':World} {a:Addr} {L:List Re} (h:VrS w a L) (hg:w.grownBy w' none):VrS w' a L:=fun j hj=>by
 obtain ⟨h0,h1,h2,h3,h4⟩:=h j hj;exact ⟨hg.cell h0 (by simp),hg.cell h1 (by simp),hg.cell h2 (by simp),hg.cell h3 (by simp),hg.cell h4 (by simp)⟩
structure E2 (b g:Nat) (w w':World):Prop where
 os:w'.os=w.os
 tape:w'.tape=w.tape
 output:w'.output=w.output
 size:w.heap.size<=w'.heap.size
 block:∀k,k < w.heap.size->¬ k=b->¬ k=g->w'.heap[k]?=w.heap[k]?
theorem E2.refl (b g:Nat) (w:World):E2 b g w w:=⟨rfl,rfl,rfl,Nat.le_refl _,fun _ _ _ _=>rfl⟩
theorem E2.then {b g:Nat} {w w' w'':World} (h:E2 b g w w') (hg:w'.grownBy w'' none):E2 b g w w'' :=
 ⟨hg.os.trans h.os,hg.tape.trans h.tape,hg.output.trans h.output,Nat.le_trans h.size hg.size,fun k hk h1 h2=>(hg.block k (Nat.lt_of_lt_of_le hk h.size) (by simp)).trans (h.block k hk h1 h2)⟩
theorem E2.set {b g:Nat} {w w':World} (h:E2 b g w w') {q:Nat} (hq:q=b\/q=g) (o:Nat) (v:Value):E2 b g w (w'.setCell ⟨q,o,none⟩ v) :=
 ⟨h.os,h.tape,h.output,by simpa [World.setCell] using h.size,fun k hk h1 h2=>(heap_setCell_other w' _ k _ (by rcases hq with rfl | rfl <;> assumption)).trans (h.block k hk h1 h2)⟩
theorem E2.gb {b g:Nat} {w0 w w':World} (h:E2 b g w w') (hg:w0.grownBy w none) (hb:w0.heap.size<=b) (hgg:w0.heap.size<=g):w0.grownBy w' none :=
 ⟨h.os.trans hg.os,h.tape.trans hg.tape,h.output.trans hg.output,Nat.le_trans hg.size h.size,fun k hk hn=>(h.block k (Nat.lt_of_lt_of_le hk hg.size) (by omega) (by omega)).trans (hg.block k hk hn)⟩
theorem E2.own {b g:Nat} {w w':World} (h:E2 b g w w') {base:Nat} {sl:Value} {L:List Sp} (ho:OS w base sl L) (hb:b < base) (hg:g < base):OS w' base sl L:=by
 refine ⟨ho.1,?_⟩
 rcases ho.2 with h0 | ⟨q,cap,cur,h1,h2,h3,h4⟩
 ·exact Or.inl h0
 ·exact Or.inr ⟨q,cap,cur,h1,h2,(h.block q (hqL h3) (by omega) (by omega)).trans h3,h4⟩
def msV (M:List Nat):Array Value:=(M.map fun (m:Nat)=>Value.int .u64 (m:Int)).toArray
def PSt (w:World) (b g n nam bar:Nat) (M:List Nat):Prop:=w.heap[b]?=some (.cells #[.int .u64 (nam:Nat),.int .u64 (bar:Nat),.slice (some ⟨g,0,none⟩) n n] 40 (0,0))/\w.heap[g]?=some (.cells (msV M) 35 (0,0))/\M.length=n
theorem PSt.grow {w w':World} {b g n nam bar:Nat} {M:List Nat} (h:PSt w b g n nam bar M) (hg:w.grownBy w' none):PSt w' b g n nam bar M :=
 ⟨(hg.block b (hqL h.1) (by simp)).trans h.1,(hg.block g (hqL h.2.1) (by simp)).trans h.2.1,h.2.2⟩
theorem PSt.nam {w:World} {b g n nam bar:Nat} {M:List Nat} (h:PSt w b g n nam bar M) (hbg:¬ g=b) (x:Nat):PSt (w.setCell ⟨b,0,none⟩ (.int .u64 (x:Nat))) b g n x bar M:=by
 refine ⟨?_,(heap_setCell_other w _ g _ (by simpa using hbg)).trans h.2.1,h.2.2⟩;rw [World.setCell,Array.getElem?_modify,if_pos rfl,h.1];rfl
theorem PSt.bar {w:World} {b g n nam bar:Nat} {M:List Nat} (h:PSt w b g n nam bar M) (hbg:¬ g=b) (x:Nat):PSt (w.setCell ⟨b,1,none⟩ (.int .u64 (x:Nat))) b g n nam x M:=by
 refine ⟨?_,(heap_setCell_other w _ g _ (by simpa using hbg)).trans h.2.1,h.2.2⟩;rw [World.setCell,Array.getElem?_modify,if_pos rfl,h.1];rfl
theorem PSt.met {w:World} {b g n nam bar:Nat} {M:List Nat} (h:PSt w b g n nam bar M) (hbg:¬ g=b) (i x:Nat):PSt (w.setCell ⟨g,i,none⟩ (.int .u64 (x:Nat))) b g n nam bar (M.set i x):=by
 refine ⟨(heap_setCell_other w _ b _ (by simpa using fun e=>hbg e.symm)).trans h.1,?_,by simpa using h.2.2⟩;rw [World.setCell,Array.getElem?_modify,if_pos rfl,h.2.1];simp only [Option.map_some];congr 2;unfold msV;rw [List.map_set];simp
theorem PSt.cells {w:World} {b g n nam bar:Nat} {M:List Nat} (h:PSt w b g n nam bar M):w.cell? ⟨b,0,none⟩=some (.int .u64 (nam:Nat))/\w.cell? ⟨b,1,none⟩=some (.int .u64 (bar:Nat))/\w.cell? ⟨b,2,none⟩=some (.slice (some ⟨g,0,none⟩) n n)/\(∀i,w.frozen? ⟨b,i,none⟩=false) :=
 ⟨by rw [cOH h.1];rfl,by rw [cOH h.1];rfl,by rw [cOH h.1];rfl,fun i=>Lib.frozen_of_heap h.1 i⟩
theorem PSt.cell {w:World} {b g n nam bar:Nat} {M:List Nat} (h:PSt w b g n nam bar M) (i:Nat) (hi:i < M.length):w.cell? ⟨g,i,none⟩=some (.int .u64 (M[i]:Nat))/\w.frozen? ⟨g,i,none⟩=false:=by
 refine ⟨?_,Lib.frozen_of_heap h.2.1 i⟩;rw [cOH h.2.1];unfold msV;simp [hi]
end Go.Proofs.YticgahdffjnabaaGreatDoor
