import Derived.Test.YtbbmbnpebiakbaaGreatDoorB09
import Derived.Test.YtbbmbnpebiakbaaGreatDoorB06
import Derived.Shelf.Small.Wraps
import Derived.Shelf.Strings.Trim
import Derived.Shelf.Strings.Search2
import Derived.Test.YtbbmbnpebiakbaaGreatDoorProg
import Derived.Test.YtbbmbnpebiakbaaGreatDoorB01
import Derived.Test.YtbbmbnpebiakbaaGreatDoorB02
import Derived.Laws.AppendOwn
import Derived.Deep.RegionLaw
import Derived.Deep.AppendLies
import Derived.Below
import Derived.Deep.RegionHeld3
import Derived.Test.YtbbmbnpebiakbaaGreatDoorB03
import Derived.Maps.OwnSet
import Derived.Maps.OwnOps
import Derived.Maps.AppendAt
namespace Go.Proofs.YtbbmbnpebiakbaaGreatDoor
open Go.RowKit
set_option linter.unusedVariables false
structure RV (w:World) (A:Nat) (s:ByteArray) (j:Nat) (E:Int) (c:Nat) (y1 y2 y3:Int) (P B:ByteArray) (u:World):Prop where
 vs:VS (A+1) s j E c u
 vr:VR (A+2) y1 y2 y3 P B u
 vz:VR A 0 0 0 ⟨#[]⟩ ⟨#[]⟩ u
 gb:w.grownBy u none
 le:w.heap.size<=A
theorem RV.drew {w:World} {A:Nat} {s:ByteArray} {j:Nat} {E:Int} {c:Nat} {y1 y2 y3:Int} {P B:ByteArray} {u:World} (h:RV w A s j E c y1 y2 y3 P B u) (n:Nat):RV w A s j E c y1 y2 y3 P B (u.drewN n) :=
 ⟨h.vs.drew n,h.vr,h.vz,gb_drew h.gb n,h.le⟩
theorem RV.call {w:World} {A:Nat} {s:ByteArray} {j:Nat} {E:Int} {c:Nat} {y1 y2 y3:Int} {P B:ByteArray} {u u':World} (h:RV w A s j E c y1 y2 y3 P B u) (hg:u.grownBy u' (some (A+1))) {j':Nat} {E':Int} {c':Nat} (hv:VS (A+1) s j' E' c' u'):RV w A s j' E' c' y1 y2 y3 P B u' :=
 ⟨hv,h.vr.grow hg (by omega),h.vz.grow hg (by omega),⟨hg.os.trans h.gb.os,hg.tape.trans h.gb.tape,hg.output.trans h.gb.output,Nat.le_trans h.gb.size hg.size,fun k hk _=>(hg.block k (Nat.lt_of_lt_of_le hk h.gb.size) (by have:=h.le;simp;omega)).trans (h.gb.block k hk (by simp))⟩,h.le⟩
theorem RV.two {w:World} {A:Nat} {s:ByteArray} {j:Nat} {E:Int} {c:Nat} {y1 y2 y3:Int} {P B:ByteArray} {u u':World} (h:RV w A s j E c y1 y2 y3 P B u) (hg:G2 (A+1) (A+2) u u') {j':Nat} {E':Int} {c':Nat} {P' B':ByteArray} (hv:VS (A+1) s j' E' c' u') (hr:VR (A+2) y1 y2 y3 P' B' u'):RV w A s j' E' c' y1 y2 y3 P' B' u' :=
 ⟨hv,hr,by have:=h.vz;unfold VR at this ⊢;rw [hg.block A ((Array.getElem?_eq_some_iff.1 this).1) (by omega) (by omega)];exact this,⟨hg.os.trans h.gb.os,hg.tape.trans h.gb.tape,hg.output.trans h.gb.output,Nat.le_trans h.gb.size hg.size,fun k hk _=>(hg.block k (Nat.lt_of_lt_of_le hk h.gb.size) (by have:=h.le;omega) (by have:=h.le;omega)).trans (h.gb.block k hk (by simp))⟩,h.le⟩
theorem VR.set0 {v:Nat} {y1 y2 y3:Int} {x4 x5:ByteArray} {w:World} (h:VR v y1 y2 y3 x4 x5 w) (z:Int):VR v z y2 y3 x4 x5 (w.setCell ⟨v,0,none⟩ (.int .i64 z)):=by
 unfold VR at h ⊢;simp [World.setCell,Array.getElem?_modify,h]
theorem VR.set1 {v:Nat} {y1 y2 y3:Int} {x4 x5:ByteArray} {w:World} (h:VR v y1 y2 y3 x4 x5 w) (z:Int):VR v y1 z y3 x4 x5 (w.setCell ⟨v,1,none⟩ (.int .i64 z)):=by
 unfold VR at h ⊢;simp [World.setCell,Array.getElem?_modify,h]
theorem VR.set2 {v:Nat} {y1 y2 y3:Int} {x4 x5:ByteArray} {w:World} (h:VR v y1 y2 y3 x4 x5 w) (z:Int):VR v y1 y2 z x4 x5 (w.setCell ⟨v,2,none⟩ (.int .i64 z)):=by
 unfold VR at h ⊢;simp [World.setCell,Array.getElem?_modify,h]
theorem RV.put0 {w:World} {A:Nat} {s:ByteArray} {j:Nat} {E:Int} {c:Nat} {y1 y2 y3:Int} {P B:ByteArray} {u:World} (h:RV w A s j E c y1 y2 y3 P B u) (x:Int):RV w A s j E c x y2 y3 P B (u.setCell ⟨A+2,0,none⟩ (.int .i64 x)) :=
 ⟨h.vs.other (by omega) _ _,h.vr.set0 x,h.vz.other (by omega) _ _,gb_new0 h.gb (by have:=h.le;omega) _ _,h.le⟩
theorem RV.put1 {w:World} {A:Nat} {s:ByteArray} {j:Nat} {E:Int} {c:Nat} {y1 y2 y3:Int} {P B:ByteArray} {u:World} (h:RV w A s j E c y1 y2 y3 P B u) (x:Int):RV w A s j E c y1 x y3 P B (u.setCell ⟨A+2,1,none⟩ (.int .i64 x)) :=
 ⟨h.vs.other (by omega) _ _,h.vr.set1 x,h.vz.other (by omega) _ _,gb_new0 h.gb (by have:=h.le;omega) _ _,h.le⟩
theorem RV.put2 {w:World} {A:Nat} {s:ByteArray} {j:Nat} {E:Int} {c:Nat} {y1 y2 y3:Int} {P B:ByteArray} {u:World} (h:RV w A s j E c y1 y2 y3 P B u) (x:Int):RV w A s j E c y1 y2 x P B (u.setCell ⟨A+2,2,none⟩ (.int .i64 x)) :=
 ⟨h.vs.other (by omega) _ _,h.vr.set2 x,h.vz.other (by omega) _ _,gb_new0 h.gb (by have:=h.le;omega) _ _,h.le⟩
theorem RV.born (w:World) (s:ByteArray):RV w w.heap.size s 0 0 0 0 0 0 ⟨#[]⟩ ⟨#[]⟩ (((w.alloc (.cells #[.int .i64 0,.int .i64 0,.int .i64 0,.string ⟨#[]⟩,.string ⟨#[]⟩] 88)).alloc (.cells #[.string s,.int .i64 0,.int .i64 0,.int .i64 0] 119)).alloc (.cells #[.int .i64 0,.int .i64 0,.int .i64 0,.string ⟨#[]⟩,.string ⟨#[]⟩] 88)):=by
 refine ⟨?_,?_,?_,gb_alloc (gb_alloc (gb_alloc (gb_refl w none) _) _) _,Nat.le_refl _⟩
 ·unfold VS
  rw [Lib.alloc_old _ _ _ (by simp)]
  exact row2 w _ _
 ·unfold VR
  have:=row2 (w.alloc (.cells #[.int .i64 0,.int .i64 0,.int .i64 0,.string ⟨#[]⟩,.string ⟨#[]⟩] 88)) (.cells #[.string s,.int .i64 0,.int .i64 0,.int .i64 0] 119) (.cells #[.int .i64 0,.int .i64 0,.int .i64 0,.string ⟨#[]⟩,.string ⟨#[]⟩] 88)
  simpa using this
 ·unfold VR
  rw [Lib.alloc_old _ _ _ (by simp;omega),Lib.alloc_old _ _ _ (by simp)]
  exact heap_alloc_new w _
set_option maxRecDepth 100000 in
set_option maxHeartbeats 6400000 in
theorem readv_any (s:ByteArray) (w:World) (hs:s.size < 2 ^ 62) :
  Calls Tryz.prog 64 #[.string s] w fun e w'=>e=.returned (.tuple #[valV (parseV s.data.toList).2.2,.int .i64 (parseV s.data.toList).1,.int .i64 ((parseV s.data.toList).2.1:Nat)])/\w.grownBy w' none:=by
 by_cases h100:100 < s.size
 ·have hp:parseV s.data.toList=(1,0,zeroV):=by unfold parseV;rw [if_pos (by simpa using h100)]
  rw [hp]
  clear hp
  go_enter Tryz.func64,Tryz.ntmps64
  go_wp2
  exact bodyPost_ret (res_row_tmp2 (p:=2) (u:=3) (r:=4) rfl _ _ w.heap.size _ _ (0,0) _ rfl (heap_alloc_new w _) Tryz.underlying88 rfl (by kernel_rfl)) rfl ⟨rfl,gb_alloc (gb_refl w none) _⟩
 ·have hp:parseV s.data.toList=rdVer s.data.toList:=by unfold parseV;rw [if_neg (by simpa using h100)]
  rw [hp]
  clear hp
  obtain ⟨l,hl⟩:∃l,l=s.data.toList:=⟨_,rfl⟩
  have HL:Hid (l=s.data.toList/\l.length=s.size):=⟨hl,by rw [hl];simp⟩
  have CN:Hid (∀b i a w,i<=s.size->VS b s i 0 a w->Calls Tryz.prog 84 #[.pointer (some ⟨b,0,none⟩)] w (NumPost b s i w)):=fun b i a w hi h=>rnum_any b s i a w hi h hs
  have MY:Hid (∀b i a w,l[i]?=some 46->VS b s i 0 a w->Calls Tryz.prog 85 #[.pointer (some ⟨b,0,none⟩),.int .u8 46] w fun e w'=>e=.returned (.tuple #[])/\VS b s (i+1) 0 a w'/\w.grownBy w' (some b)):=fun b i a w hc h=>must_yes b s i 0 a 46 w (by rw [<-hl];exact hc) h hs
  have MN:Hid (∀b i a w,i<=s.size->¬ l[i]?=some 46->VS b s i 0 a w->Calls Tryz.prog 85 #[.pointer (some ⟨b,0,none⟩),.int .u8 46] w fun e w'=>e=.returned (.tuple #[])/\VS b s i 2 i w'/\w.grownBy w' (some b)):=fun b i a w hi hc h=>must_no b s i a 46 w hi (by rw [<-hl];exact hc) h hs
  have CT:Hid (∀b v i a y1 y2 y3 w,i<=s.size->VS b s i 0 a w->VR v y1 y2 y3 ⟨#[]⟩ ⟨#[]⟩ w->b ≠ v->Calls Tryz.prog 86 #[.pointer (some ⟨b,0,none⟩),.pointer (some ⟨v,0,none⟩)] w fun e w'=>e=.returned (.tuple #[])/\RTailPost b v s i y1 y2 y3 w w'):=fun b v i a y1 y2 y3 w hi h1 h2 h3=>rtail_any b v s i a y1 y2 y3 w hi h1 h2 h3 hs
  have HB:Hid (RV w w.heap.size s 0 0 0 0 0 0 ⟨#[]⟩ ⟨#[]⟩ (((w.alloc (.cells #[.int .i64 0,.int .i64 0,.int .i64 0,.string ⟨#[]⟩,.string ⟨#[]⟩] 88)).alloc (.cells #[.string s,.int .i64 0,.int .i64 0,.int .i64 0] 119)).alloc (.cells #[.int .i64 0,.int .i64 0,.int .i64 0,.string ⟨#[]⟩,.string ⟨#[]⟩] 88))):=RV.born w s
  have hver:=ver_tail l
  have hnr:=nums_rest l
  obtain ⟨R,hR⟩:∃R,rdNums l=R:=⟨_,rfl⟩
  obtain ⟨X,hX⟩:∃X,rdVer l=X:=⟨_,rfl⟩
  rw [hR] at hver hnr
  rw [hX] at hver
  rw [<-hl,hX]
  have HV:Hid (X=if R.1=0 then (if (tailP l R.2.1).1=0 then (if (tailP l R.2.1).2.1 < l.length then (2,(tailP l R.2.1).2.1,zeroV) else (0,0,⟨R.2.2.1,R.2.2.2.1,R.2.2.2.2,(tailP l R.2.1).2.2.1,(tailP l R.2.1).2.2.2⟩)) else ((tailP l R.2.1).1,(tailP l R.2.1).2.1,zeroV)) else (R.1,R.2.1,zeroV)):=hver
  have HR0:Hid (R=if (rdNum l 0).1=0 then rest1 l (rdNum l 0).2.2 (rdNum l 0).2.1 else ((rdNum l 0).1,(rdNum l 0).2.2,0,0,0)):=hnr
  have HS:Hid (s.size < 2 ^ 62):=hs
  clear hl hver hnr hR hX hs
  go_enter Tryz.func64,Tryz.ntmps64
  go_wp2_with (go_at_call 84;refine (CN.out _ 0 0 _ (Nat.zero_le _) HB.out.vs).mono ?_)
  rintro e u1 ⟨x1,j1,E1,c1,rfl,hvs,hg,hE,hok,herr⟩
  obtain ⟨A,hA⟩:∃A,w.heap.size=A:=⟨_,rfl⟩
  rw [hA] at HB hvs hg
  rw [hA]
  have HA1:Hid (RV w A s j1 E1 c1 0 0 0 ⟨#[]⟩ ⟨#[]⟩ u1):=HB.out.call hg hvs
  have HK1:Hid (E1=(rdNum l 0).1/\(E1=0->x1=(rdNum l 0).2.1/\j1=(rdNum l 0).2.2/\j1<=s.size)/\(E1 ≠ 0->c1=(rdNum l 0).2.2)):=by rw [HL.out.1];exact ⟨hE,hok,herr⟩
  clear hA hvs hg hE hok herr HB
  obtain ⟨U1,hU1⟩:∃U,u1.setCell ⟨A+2,0,none⟩ (.int .i64 x1)=U:=⟨_,rfl⟩
  have HU1:Hid (RV w A s j1 E1 c1 x1 0 0 ⟨#[]⟩ ⟨#[]⟩ U1):=by show RV _ _ _ _ _ _ _ _ _ _ _ U1;rw [<-hU1];exact HA1.out.put0 x1
  obtain ⟨q0,q1,q2,q3,q4⟩:=HA1.out.vr.cells
  have qf:=HA1.out.vr.f
  have f0:=HU1.out.vs.c0
  have f1:=HU1.out.vs.c1
  have f2:=HU1.out.vs.c2
  have f3:=HU1.out.vs.c3
  cases hz1:(E1 == 0) with
  | false =>
   have HZ:Hid (E1 ≠ 0):=by show E1 ≠ 0;simpa using hz1
   have FIN:Hid (X=(E1,c1,zeroV)):=by
    show X=_
    have h9:¬ (rdNum l 0).1=0:=fun e=>HZ.out (HK1.out.1.trans e)
    have hr:=HR0.out
    rw [if_neg h9,<-HK1.out.1,<-HK1.out.2.2 HZ.out] at hr
    rw [HV.out,hr,if_neg HZ.out]
   go_wp2_with (first | (go_at_call 86;refine (rtail_skip (A+1) (A+2) s j1 E1 HZ.out c1 _ HU1.out.vs).mono ?_))
   rintro e t1 ⟨rfl,n,hn⟩
   have HT:Hid (RV w A s j1 E1 c1 x1 0 0 ⟨#[]⟩ ⟨#[]⟩ t1):=by show RV _ _ _ _ _ _ _ _ _ _ _ t1;rw [hn];exact HU1.out.drew n
   clear hn f0 f1 f2 f3
   have f0:=HT.out.vs.c0
   have f1:=HT.out.vs.c1
   have f2:=HT.out.vs.c2
   have f3:=HT.out.vs.c3
   obtain ⟨z0,z1,z2,z3,z4⟩:=HT.out.vz.cells
   have zf:=HT.out.vz.f
   go_wp2
   go_region
   go_wp2
   refine bodyPost_ret (res_row_tmp2 (p:=2) (u:=3) (r:=4) rfl _ _ A _ _ (0,0) _ rfl (putr_row HT.out.vz 0 0 0 ⟨#[]⟩ ⟨#[]⟩) Tryz.underlying88 rfl (by kernel_rfl)) rfl ⟨?_,gb_drew (put5_gb0 HT.out.gb HT.out.le 0 0 0 ⟨#[]⟩ ⟨#[]⟩) 1⟩
   rw [FIN.out];rfl
  | true =>
   have h0:E1=0:=by simpa using hz1
   subst h0
   clear hz1
   have HJ1:Hid (j1<=s.size):=(HK1.out.2.1 rfl).2.2
   have HR1:Hid (R=rest1 l j1 x1):=by
    show R=_
    obtain ⟨e1,e2,-⟩:=HK1.out.2.1 rfl
    have hr:=HR0.out
    rw [if_pos HK1.out.1.symm,<-e1,<-e2] at hr
    exact hr
   clear HK1 HR0
   cases hc1:decide (l[j1]?=some 46) with
   | false =>
    have hc':=of_decide_eq_false hc1
    have HZ:Hid ((2:Int) ≠ 0):=by show (2:Int) ≠ 0;decide
    have FIN:Hid (X=(2,j1,zeroV)):=by
     show X=_
     have hr:=HR1.out
     unfold rest1 at hr
     rw [if_neg hc'] at hr
     rw [HV.out,hr];rfl
    have CM:Hid (Calls Tryz.prog 85 #[.pointer (some ⟨A+1,0,none⟩),.int .u8 46] U1 fun e w'=>e=.returned (.tuple #[])/\VS (A+1) s j1 2 j1 w'/\U1.grownBy w' (some (A+1))):=MN.out _ _ _ _ HJ1.out hc' HU1.out.vs
    clear hc1 hc'
    go_wp2_with (first | (go_at_call 85;refine CM.out.mono ?_))
    rintro e v1 ⟨rfl,hvs,hg⟩
    have HM:Hid (RV w A s j1 2 j1 x1 0 0 ⟨#[]⟩ ⟨#[]⟩ v1):=HU1.out.call hg hvs
    clear hvs hg f0 f1 f2 f3 q0 q1 q2 q3 q4 qf hU1
    have f0:=HM.out.vs.c0
    have f1:=HM.out.vs.c1
    have f2:=HM.out.vs.c2
    have f3:=HM.out.vs.c3
    go_wp2_with (first | (go_at_call 86;refine (rtail_skip (A+1) (A+2) s j1 2 HZ.out j1 _ HM.out.vs).mono ?_))
    rintro e t1 ⟨rfl,n,hn⟩
    have HT:Hid (RV w A s j1 2 j1 x1 0 0 ⟨#[]⟩ ⟨#[]⟩ t1):=by show RV _ _ _ _ _ _ _ _ _ _ _ t1;rw [hn];exact HM.out.drew n
    clear hn f0 f1 f2 f3
    have f0:=HT.out.vs.c0
    have f1:=HT.out.vs.c1
    have f2:=HT.out.vs.c2
    have f3:=HT.out.vs.c3
    obtain ⟨z0,z1,z2,z3,z4⟩:=HT.out.vz.cells
    have zf:=HT.out.vz.f
    go_wp2
    go_region
    go_wp2
    refine bodyPost_ret (res_row_tmp2 (p:=2) (u:=3) (r:=4) rfl _ _ A _ _ (0,0) _ rfl (putr_row HT.out.vz 0 0 0 ⟨#[]⟩ ⟨#[]⟩) Tryz.underlying88 rfl (by kernel_rfl)) rfl ⟨?_,gb_drew (put5_gb0 HT.out.gb HT.out.le 0 0 0 ⟨#[]⟩ ⟨#[]⟩) 1⟩
    rw [FIN.out];rfl
   | true =>
    have hc':=of_decide_eq_true hc1
    have HRn:Hid (R=if (rdNum l (j1+1)).1=0 then rest2 l (rdNum l (j1+1)).2.2 x1 (rdNum l (j1+1)).2.1 else ((rdNum l (j1+1)).1,(rdNum l (j1+1)).2.2,0,0,0)):=by
     show R=_
     have hr:=HR1.out
     unfold rest1 at hr
     rw [if_pos hc'] at hr
     exact hr
    have HJn:Hid (j1+1<=s.size):=by have:=(List.getElem?_eq_some_iff.1 hc').1;rw [HL.out.2] at this;exact this
    have CM:Hid (Calls Tryz.prog 85 #[.pointer (some ⟨A+1,0,none⟩),.int .u8 46] U1 fun e w'=>e=.returned (.tuple #[])/\VS (A+1) s (j1+1) 0 c1 w'/\U1.grownBy w' (some (A+1))):=MY.out _ _ _ _ hc' HU1.out.vs
    clear hc1 hc'
    go_wp2_with (first | (go_at_call 85;refine CM.out.mono ?_))
    rintro e v2 ⟨rfl,hvs,hg⟩
    have HM2:Hid (RV w A s (j1+1) 0 c1 x1 0 0 ⟨#[]⟩ ⟨#[]⟩ v2):=HU1.out.call hg hvs
    clear hvs hg f0 f1 f2 f3 q0 q1 q2 q3 q4 qf hU1 HR1 CM
    have f0:=HM2.out.vs.c0
    have f1:=HM2.out.vs.c1
    have f2:=HM2.out.vs.c2
    have f3:=HM2.out.vs.c3
    go_wp2_with (first | (go_at_call 84;refine (CN.out _ (j1+1) c1 _ HJn.out HM2.out.vs).mono ?_))
    rintro e u2 ⟨x2,j2,E2,c2,rfl,hvs,hg,hE,hok,herr⟩
    have HA2:Hid (RV w A s j2 E2 c2 x1 0 0 ⟨#[]⟩ ⟨#[]⟩ u2):=HM2.out.call hg hvs
    have HK2:Hid (E2=(rdNum l (j1+1)).1/\(E2=0->x2=(rdNum l (j1+1)).2.1/\j2=(rdNum l (j1+1)).2.2/\j2<=s.size)/\(E2 ≠ 0->c2=(rdNum l (j1+1)).2.2)):=by rw [HL.out.1];exact ⟨hE,hok,herr⟩
    clear hvs hg hE hok herr f0 f1 f2 f3
    obtain ⟨U2,hU2⟩:∃U,u2.setCell ⟨A+2,1,none⟩ (.int .i64 x2)=U:=⟨_,rfl⟩
    have HU2:Hid (RV w A s j2 E2 c2 x1 x2 0 ⟨#[]⟩ ⟨#[]⟩ U2):=by show RV _ _ _ _ _ _ _ _ _ _ _ U2;rw [<-hU2];exact HA2.out.put1 x2
    obtain ⟨q0,q1,q2,q3,q4⟩:=HA2.out.vr.cells
    have qf:=HA2.out.vr.f
    have f0:=HU2.out.vs.c0
    have f1:=HU2.out.vs.c1
    have f2:=HU2.out.vs.c2
    have f3:=HU2.out.vs.c3
    cases hz2:(E2 == 0) with
    | false =>
     have HZ:Hid (E2 ≠ 0):=by show E2 ≠ 0;simpa using hz2
     have FIN:Hid (X=(E2,c2,zeroV)):=by
      show X=_
      have h9:¬ (rdNum l (j1+1)).1=0:=fun e=>HZ.out (HK2.out.1.trans e)
      have hr:=HRn.out
      rw [if_neg h9,<-HK2.out.1,<-HK2.out.2.2 HZ.out] at hr
      rw [HV.out,hr,if_neg HZ.out]
     go_wp2_with (first | (go_at_call 86;refine (rtail_skip (A+1) (A+2) s j2 E2 HZ.out c2 _ HU2.out.vs).mono ?_))
     rintro e t1 ⟨rfl,n,hn⟩
     have HT:Hid (RV w A s j2 E2 c2 x1 x2 0 ⟨#[]⟩ ⟨#[]⟩ t1):=by show RV _ _ _ _ _ _ _ _ _ _ _ t1;rw [hn];exact HU2.out.drew n
     clear hn f0 f1 f2 f3
     have f0:=HT.out.vs.c0
     have f1:=HT.out.vs.c1
     have f2:=HT.out.vs.c2
     have f3:=HT.out.vs.c3
     obtain ⟨z0,z1,z2,z3,z4⟩:=HT.out.vz.cells
     have zf:=HT.out.vz.f
     go_wp2
     go_region
     go_wp2
     refine bodyPost_ret (res_row_tmp2 (p:=2) (u:=3) (r:=4) rfl _ _ A _ _ (0,0) _ rfl (putr_row HT.out.vz 0 0 0 ⟨#[]⟩ ⟨#[]⟩) Tryz.underlying88 rfl (by kernel_rfl)) rfl ⟨?_,gb_drew (put5_gb0 HT.out.gb HT.out.le 0 0 0 ⟨#[]⟩ ⟨#[]⟩) 1⟩
     rw [FIN.out];rfl
    | true =>
     have h0:E2=0:=by simpa using hz2
     subst h0
     clear hz2
     have HJ2:Hid (j2<=s.size):=(HK2.out.2.1 rfl).2.2
     have HR2:Hid (R=rest2 l j2 x1 x2):=by
      show R=_
      obtain ⟨e1,e2,-⟩:=HK2.out.2.1 rfl
      have hr:=HRn.out
      rw [if_pos HK2.out.1.symm,<-e1,<-e2] at hr
      exact hr
     clear HK2 HRn
     cases hc2:decide (l[j2]?=some 46) with
     | false =>
      have hc':=of_decide_eq_false hc2
      have HZ:Hid ((2:Int) ≠ 0):=by show (2:Int) ≠ 0;decide
      have FIN:Hid (X=(2,j2,zeroV)):=by
       show X=_
       have hr:=HR2.out
       unfold rest2 at hr
       rw [if_neg hc'] at hr
       rw [HV.out,hr];rfl
      have CM:Hid (Calls Tryz.prog 85 #[.pointer (some ⟨A+1,0,none⟩),.int .u8 46] U2 fun e w'=>e=.returned (.tuple #[])/\VS (A+1) s j2 2 j2 w'/\U2.grownBy w' (some (A+1))):=MN.out _ _ _ _ HJ2.out hc' HU2.out.vs
      clear hc2 hc'
      go_wp2_with (first | (go_at_call 85;refine CM.out.mono ?_))
      rintro e v1 ⟨rfl,hvs,hg⟩
      have HM:Hid (RV w A s j2 2 j2 x1 x2 0 ⟨#[]⟩ ⟨#[]⟩ v1):=HU2.out.call hg hvs
      clear hvs hg f0 f1 f2 f3 q0 q1 q2 q3 q4 qf hU2
      have f0:=HM.out.vs.c0
      have f1:=HM.out.vs.c1
      have f2:=HM.out.vs.c2
      have f3:=HM.out.vs.c3
      go_wp2_with (first | (go_at_call 86;refine (rtail_skip (A+1) (A+2) s j2 2 HZ.out j2 _ HM.out.vs).mono ?_))
      rintro e t1 ⟨rfl,n,hn⟩
      have HT:Hid (RV w A s j2 2 j2 x1 x2 0 ⟨#[]⟩ ⟨#[]⟩ t1):=by show RV _ _ _ _ _ _ _ _ _ _ _ t1;rw [hn];exact HM.out.drew n
      clear hn f0 f1 f2 f3
      have f0:=HT.out.vs.c0
      have f1:=HT.out.vs.c1
      have f2:=HT.out.vs.c2
      have f3:=HT.out.vs.c3
      obtain ⟨z0,z1,z2,z3,z4⟩:=HT.out.vz.cells
      have zf:=HT.out.vz.f
      go_wp2
      go_region
      go_wp2
      refine bodyPost_ret (res_row_tmp2 (p:=2) (u:=3) (r:=4) rfl _ _ A _ _ (0,0) _ rfl (putr_row HT.out.vz 0 0 0 ⟨#[]⟩ ⟨#[]⟩) Tryz.underlying88 rfl (by kernel_rfl)) rfl ⟨?_,gb_drew (put5_gb0 HT.out.gb HT.out.le 0 0 0 ⟨#[]⟩ ⟨#[]⟩) 1⟩
      rw [FIN.out];rfl
     | true =>
      have hc':=of_decide_eq_true hc2
      have HRn:Hid (R=if (rdNum l (j2+1)).1=0 then rest3 l (rdNum l (j2+1)).2.2 x1 x2 (rdNum l (j2+1)).2.1 else ((rdNum l (j2+1)).1,(rdNum l (j2+1)).2.2,0,0,0)):=by
       show R=_
       have hr:=HR2.out
       unfold rest2 at hr
       rw [if_pos hc'] at hr
       exact hr
      have HJn:Hid (j2+1<=s.size):=by have:=(List.getElem?_eq_some_iff.1 hc').1;rw [HL.out.2] at this;exact this
      have CM:Hid (Calls Tryz.prog 85 #[.pointer (some ⟨A+1,0,none⟩),.int .u8 46] U2 fun e w'=>e=.returned (.tuple #[])/\VS (A+1) s (j2+1) 0 c2 w'/\U2.grownBy w' (some (A+1))):=MY.out _ _ _ _ hc' HU2.out.vs
      clear hc2 hc'
      go_wp2_with (first | (go_at_call 85;refine CM.out.mono ?_))
      rintro e v3 ⟨rfl,hvs,hg⟩
      have HM3:Hid (RV w A s (j2+1) 0 c2 x1 x2 0 ⟨#[]⟩ ⟨#[]⟩ v3):=HU2.out.call hg hvs
      clear hvs hg f0 f1 f2 f3 q0 q1 q2 q3 q4 qf hU2 HR2 CM
      have f0:=HM3.out.vs.c0
      have f1:=HM3.out.vs.c1
      have f2:=HM3.out.vs.c2
      have f3:=HM3.out.vs.c3
      go_wp2_with (first | (go_at_call 84;refine (CN.out _ (j2+1) c2 _ HJn.out HM3.out.vs).mono ?_))
      rintro e u3 ⟨x3,j3,E3,c3,rfl,hvs,hg,hE,hok,herr⟩
      have HA3:Hid (RV w A s j3 E3 c3 x1 x2 0 ⟨#[]⟩ ⟨#[]⟩ u3):=HM3.out.call hg hvs
      have HK3:Hid (E3=(rdNum l (j2+1)).1/\(E3=0->x3=(rdNum l (j2+1)).2.1/\j3=(rdNum l (j2+1)).2.2/\j3<=s.size)/\(E3 ≠ 0->c3=(rdNum l (j2+1)).2.2)):=by rw [HL.out.1];exact ⟨hE,hok,herr⟩
      clear hvs hg hE hok herr f0 f1 f2 f3
      obtain ⟨U3,hU3⟩:∃U,u3.setCell ⟨A+2,2,none⟩ (.int .i64 x3)=U:=⟨_,rfl⟩
      have HU3:Hid (RV w A s j3 E3 c3 x1 x2 x3 ⟨#[]⟩ ⟨#[]⟩ U3):=by show RV _ _ _ _ _ _ _ _ _ _ _ U3;rw [<-hU3];exact HA3.out.put2 x3
      obtain ⟨q0,q1,q2,q3,q4⟩:=HA3.out.vr.cells
      have qf:=HA3.out.vr.f
      have f0:=HU3.out.vs.c0
      have f1:=HU3.out.vs.c1
      have f2:=HU3.out.vs.c2
      have f3:=HU3.out.vs.c3
      cases hz3:(E3 == 0) with
      | false =>
       have HZ:Hid (E3 ≠ 0):=by show E3 ≠ 0;simpa using hz3
       have FIN:Hid (X=(E3,c3,zeroV)):=by
        show X=_
        have h9:¬ (rdNum l (j2+1)).1=0:=fun e=>HZ.out (HK3.out.1.trans e)
        have hr:=HRn.out
        rw [if_neg h9,<-HK3.out.1,<-HK3.out.2.2 HZ.out] at hr
        rw [HV.out,hr,if_neg HZ.out]
       go_wp2_with (first | (go_at_call 86;refine (rtail_skip (A+1) (A+2) s j3 E3 HZ.out c3 _ HU3.out.vs).mono ?_))
       rintro e t1 ⟨rfl,n,hn⟩
       have HT:Hid (RV w A s j3 E3 c3 x1 x2 x3 ⟨#[]⟩ ⟨#[]⟩ t1):=by show RV _ _ _ _ _ _ _ _ _ _ _ t1;rw [hn];exact HU3.out.drew n
       clear hn f0 f1 f2 f3
       have f0:=HT.out.vs.c0
       have f1:=HT.out.vs.c1
       have f2:=HT.out.vs.c2
       have f3:=HT.out.vs.c3
       obtain ⟨z0,z1,z2,z3,z4⟩:=HT.out.vz.cells
       have zf:=HT.out.vz.f
       go_wp2
       go_region
       go_wp2
       refine bodyPost_ret (res_row_tmp2 (p:=2) (u:=3) (r:=4) rfl _ _ A _ _ (0,0) _ rfl (putr_row HT.out.vz 0 0 0 ⟨#[]⟩ ⟨#[]⟩) Tryz.underlying88 rfl (by kernel_rfl)) rfl ⟨?_,gb_drew (put5_gb0 HT.out.gb HT.out.le 0 0 0 ⟨#[]⟩ ⟨#[]⟩) 1⟩
       rw [FIN.out];rfl
      | true =>
       have h0:E3=0:=by simpa using hz3
       subst h0
       clear hz3
       have HJ3:Hid (j3<=s.size):=(HK3.out.2.1 rfl).2.2
       have HR3:Hid (R=rest3 l j3 x1 x2 x3):=by
        show R=_
        obtain ⟨e1,e2,-⟩:=HK3.out.2.1 rfl
        have hr:=HRn.out
        rw [if_pos HK3.out.1.symm,<-e1,<-e2] at hr
        exact hr
       clear HK3 HRn
       have CTl:Hid (Calls Tryz.prog 86 #[.pointer (some ⟨A+1,0,none⟩),.pointer (some ⟨A+2,0,none⟩)] U3 fun e w'=>e=.returned (.tuple #[])/\RTailPost (A+1) (A+2) s j3 x1 x2 x3 U3 w'):=CT.out _ _ _ _ _ _ _ _ HJ3.out HU3.out.vs HU3.out.vr (by omega)
       go_wp2_with (first | (go_at_call 86;refine CTl.out.mono ?_))
       rintro e t1 ⟨rfl,j4,E4,c4,P4,B4,hvs,hvr,hg,hE,hok,herr⟩
       have HT:Hid (RV w A s j4 E4 c4 x1 x2 x3 P4 B4 t1):=HU3.out.two hg hvs hvr
       have HK4:Hid (E4=(tailP l j3).1/\(E4=0->P4=⟨(tailP l j3).2.2.1.toArray⟩/\B4=⟨(tailP l j3).2.2.2.toArray⟩/\j4=(tailP l j3).2.1/\j4<=s.size)/\(E4 ≠ 0->c4=(tailP l j3).2.1)):=by rw [HL.out.1];exact ⟨hE,hok,herr⟩
       have HX4:Hid (X=if (tailP l j3).1=0 then (if (tailP l j3).2.1 < l.length then (2,(tailP l j3).2.1,zeroV) else (0,0,⟨x1,x2,x3,(tailP l j3).2.2.1,(tailP l j3).2.2.2⟩)) else ((tailP l j3).1,(tailP l j3).2.1,zeroV)):=by
        show X=_
        have hr:=HR3.out
        unfold rest3 at hr
        rw [HV.out,hr];rfl
       clear hvs hvr hg hE hok herr f0 f1 f2 f3 q0 q1 q2 q3 q4 qf hU3 HV HR3
       cases hz4:(E4 == 0) with
       | false =>
        have HZ:Hid (E4 ≠ 0):=by show E4 ≠ 0;simpa using hz4
        have FIN:Hid (X=(E4,c4,zeroV)):=by
         show X=_
         have h9:¬ (tailP l j3).1=0:=fun e=>HZ.out (HK4.out.1.trans e)
         rw [HX4.out,if_neg h9,<-HK4.out.1,<-HK4.out.2.2 HZ.out]
        have f0:=HT.out.vs.c0
        have f1:=HT.out.vs.c1
        have f2:=HT.out.vs.c2
        have f3:=HT.out.vs.c3
        obtain ⟨z0,z1,z2,z3,z4⟩:=HT.out.vz.cells
        have zf:=HT.out.vz.f
        go_wp2
        go_region
        go_wp2
        refine bodyPost_ret (res_row_tmp2 (p:=2) (u:=3) (r:=4) rfl _ _ A _ _ (0,0) _ rfl (putr_row HT.out.vz 0 0 0 ⟨#[]⟩ ⟨#[]⟩) Tryz.underlying88 rfl (by kernel_rfl)) rfl ⟨?_,gb_drew (put5_gb0 HT.out.gb HT.out.le 0 0 0 ⟨#[]⟩ ⟨#[]⟩) 1⟩
        rw [FIN.out];rfl
       | true =>
        have h0:E4=0:=by simpa using hz4
        subst h0
        clear hz4
        have HK5:Hid (P4=⟨(tailP l j3).2.2.1.toArray⟩/\B4=⟨(tailP l j3).2.2.2.toArray⟩/\j4=(tailP l j3).2.1/\j4<=s.size):=HK4.out.2.1 rfl
        have HX5:Hid (X=if j4 < l.length then (2,j4,zeroV) else (0,0,⟨x1,x2,x3,(tailP l j3).2.2.1,(tailP l j3).2.2.2⟩)):=by
         show X=_
         rw [HX4.out,if_pos HK4.out.1.symm,<-HK5.out.2.2.1]
        clear HK4 HX4
        have f0:=HT.out.vs.c0
        have f1:=HT.out.vs.c1
        have f2:=HT.out.vs.c2
        have f3:=HT.out.vs.c3
        by_cases hlt:j4 < s.size
        ·have hl2:((j4:Nat):Int) < (s.size:Int):=by omega
         have FIN:Hid (X=(2,j4,zeroV)):=by show X=_;rw [HX5.out,if_pos (by rw [HL.out.2];exact hlt)]
         go_wp2_with (first | (go_at_call 87;refine (fail_first (A+1) s j4 c4 2 j4 _ HT.out.vs).mono ?_))
         rintro e t2 ⟨rfl,hvs,hg⟩
         have HT3:Hid (RV w A s j4 2 j4 x1 x2 x3 P4 B4 t2):=HT.out.call hg hvs
         clear hvs hg f0 f1 f2 f3
         have f0:=HT3.out.vs.c0
         have f1:=HT3.out.vs.c1
         have f2:=HT3.out.vs.c2
         have f3:=HT3.out.vs.c3
         obtain ⟨z0,z1,z2,z3,z4⟩:=HT3.out.vz.cells
         have zf:=HT3.out.vz.f
         go_wp2
         go_region
         go_wp2
         refine bodyPost_ret (res_row_tmp2 (p:=2) (u:=3) (r:=4) rfl _ _ A _ _ (0,0) _ rfl (putr_row HT3.out.vz 0 0 0 ⟨#[]⟩ ⟨#[]⟩) Tryz.underlying88 rfl (by kernel_rfl)) rfl ⟨?_,gb_drew (put5_gb0 HT3.out.gb HT3.out.le 0 0 0 ⟨#[]⟩ ⟨#[]⟩) 1⟩
         rw [FIN.out];rfl
        ·have hl2:¬ ((j4:Nat):Int) < (s.size:Int):=by omega
         have FIN:Hid (X=(0,0,⟨x1,x2,x3,(tailP l j3).2.2.1,(tailP l j3).2.2.2⟩)):=by show X=_;rw [HX5.out,if_neg (by rw [HL.out.2];exact hlt)]
         clear hlt
         obtain ⟨z0,z1,z2,z3,z4⟩:=HT.out.vz.cells
         have zf:=HT.out.vz.f
         obtain ⟨q0,q1,q2,q3,q4⟩:=HT.out.vr.cells
         go_wp2
         refine bodyPost_ret (res_row_tmp2 (p:=2) (u:=3) (r:=4) rfl _ _ A _ _ (0,0) _ rfl (putr_row HT.out.vz x1 x2 x3 P4 B4) Tryz.underlying88 rfl (by kernel_rfl)) rfl ⟨?_,put5_gb0 HT.out.gb HT.out.le x1 x2 x3 P4 B4⟩
         rw [FIN.out,HK5.out.1,HK5.out.2.1];rfl
open Go.RowKit
set_option linter.unusedVariables false
theorem less_cmp:∀(a b:List UInt8),(Op.bytesLess a b=true->Lib.compareBytes a b=-1)/\(Op.bytesLess a b=false->(a == b)=false->Lib.compareBytes a b=1)/\((a == b)=true->Lib.compareBytes a b=0)
 | [],[]=>by simp [Op.bytesLess,Lib.compareBytes]
 | [],_ :: _=>by simp [Op.bytesLess,Lib.compareBytes]
 | _ :: _,[]=>by simp [Op.bytesLess,Lib.compareBytes]
 | x :: a,y :: b=>by
  obtain ⟨h1,h2,h3⟩:=less_cmp a b
  unfold Op.bytesLess Lib.compareBytes
  by_cases hlt:x < y
  ·have hne:¬ x=y:=fun e=>by rw [e] at hlt;exact UInt8.lt_irrefl y hlt
   simp [hlt,hne]
  ·by_cases heq:x=y
   ·subst heq
    simp only [hlt,decide_false,Bool.false_or,beq_self_eq_true,Bool.true_and,if_false]
    refine ⟨h1,fun p q=>h2 p (by simpa using q),fun q=>h3 (by simpa using q)⟩
   ·have hgt:y < x:=UInt8.lt_of_le_of_ne (UInt8.not_lt.1 hlt) (Ne.symm heq)
    simp [hlt,heq,hgt]
theorem less_m1 {a b:ByteArray} (h:Op.bytesLess a.toList b.toList=true):Lib.compareBytes a.data.toList b.data.toList=-1:=by
 rw [Lib.toList_data,Lib.toList_data] at h;exact (less_cmp _ _).1 h
theorem less_p1 {a b:ByteArray} (h:Op.bytesLess a.toList b.toList=false) (h':(!a.toList == b.toList)=true):Lib.compareBytes a.data.toList b.data.toList=1:=by
 rw [Lib.toList_data,Lib.toList_data] at h h';exact (less_cmp _ _).2.1 h (by simpa using h')
theorem less_0 {a b:ByteArray} (h':(!a.toList == b.toList)=false):Lib.compareBytes a.data.toList b.data.toList=0:=by
 rw [Lib.toList_data,Lib.toList_data] at h';exact (less_cmp _ _).2.2 (by simpa using h')
open Go.RowKit
set_option linter.unusedVariables false
theorem below_drewN {B:Nat} {a w:World} (h:Below B a w) (n:Nat):Below B a (w.drewN n):=⟨h.os,h.tape,h.output,h.size,h.block⟩
open Go.RowKit
set_option linter.unusedVariables false
def okV (s:ByteArray):Bool:=decide ((parseV s.data.toList).1=0)
theorem isVersion_any (s:ByteArray) (w:World) (hs:s.size < 2 ^ 62):Calls Tryz.prog 42 #[.string s] w fun e w'=>e=.returned (.bool (okV s))/\w.grownBy w' none:=by
 have CR:Hid (∀w,Calls Tryz.prog 64 #[.string s] w fun e w'=>(∃(x1 x2 x3:Int) (x4 x5:ByteArray) (k:Int),e=.returned (.tuple #[.agg #[.int .i64 x1,.int .i64 x2,.int .i64 x3,.string x4,.string x5],.int .i64 (parseV s.data.toList).1,.int .i64 k]))/\w.grownBy w' none):=fun w=>(readv_any s w hs).mono fun e w' ⟨h1,h2⟩=>⟨⟨_,_,_,_,_,_,h1⟩,h2⟩
 unfold okV
 obtain ⟨E,hE⟩:∃E,(parseV s.data.toList).1=E:=⟨_,rfl⟩
 rw [hE] at CR ⊢
 clear hE
 have hd:decide (E=0)=(E == 0):=by rw [Bool.eq_iff_iff];simp
 rw [hd]
 clear hd
 go_enter Tryz.func42,Tryz.ntmps42
 go_wp2_with (first | (go_at_call 64;refine (CR.out _).mono ?_))
 rintro e w1 ⟨⟨x1,x2,x3,x4,x5,k,rfl⟩,hg⟩
 cases hz:(E == 0) with
 | true =>
  go_wp2
  go_ret
  exact ⟨ret_bool hz.symm,gb_trans hg (gb_alloc (gb_refl w1 none) _)⟩
 | false =>
  go_wp2
  go_ret
  exact ⟨ret_bool hz.symm,gb_trans hg (gb_alloc (gb_refl w1 none) _)⟩
end Go.Proofs.YtbbmbnpebiakbaaGreatDoor
namespace Go.Proofs.YtbbmbnpebiakbaaGreatDoor
open Go.RowKit Go.Maps
set_option linter.unusedVariables false
def digB (s:ByteArray):Bool:=isDig s.data.toList
noncomputable def goodE (x:En):Bool:=nameB x.nm && okV x.ve && digB x.dg && x.nd.all nameB
def hasNm (L:List En) (n:ByteArray):Bool:=L.any fun e=>decide (e.nm=n)
theorem nm_next (L:List En) (n:ByteArray) (i:Nat) (hi:i < L.length):hasNm (L.take (i+1)) n=(hasNm (L.take i) n || decide (L[i].nm=n)):=by
 unfold hasNm
 rw [List.take_succ_eq_append_getElem hi,List.any_append]
 simp
theorem nm_at (L:List En) (n:ByteArray) (i j:Nat) (hj:j < L.length) (hji:j < i) (h:L[j].nm=n):hasNm (L.take i) n=true:=by
 unfold hasNm
 rw [List.any_eq_true]
 refine ⟨L[j],List.mem_take_iff_getElem.2 ⟨j,by omega,rfl⟩,by simpa using h⟩
theorem nm_up (L:List En) (n:ByteArray) (i j:Nat) (hij:i<=j) (h:hasNm (L.take i) n=true):hasNm (L.take j) n=true:=by
 unfold hasNm at *
 rw [List.any_eq_true] at *
 obtain ⟨x,hx,h2⟩:=h
 refine ⟨x,?_,h2⟩
 obtain ⟨k,hk,rfl⟩:=List.mem_take_iff_getElem.1 hx
 exact List.mem_take_iff_getElem.2 ⟨k,by omega,rfl⟩
def twS (L:List ByteArray):Nat->Bool
 | 0=>false
 | i+1=>twS L i || (match L[i]? with | some x=>(L.take i).any (fun y=>decide (y=x)) | none=>false)
theorem tws_step (L:List ByteArray) (i:Nat) (hi:i < L.length):twS L (i+1)=(twS L i || (L.take i).any (fun y=>decide (y=L[i]))):=by
 simp [twS,List.getElem?_eq_getElem hi]
theorem tws_up (L:List ByteArray) (i k:Nat) (h:twS L i=true):twS L (i+k)=true:=by
 induction k with
 | zero=>exact h
 | succ k ih=>rw [<-Nat.add_assoc,twS,ih];rfl
theorem tws_hit (L:List ByteArray) (i:Nat) (hi:i < L.length) (h:(L.take i).any (fun y=>decide (y=L[i]))=true):twS L L.length=true:=by
 have h1:twS L (i+1)=true:=by rw [tws_step L i hi,h,Bool.or_true]
 have:=tws_up L (i+1) (L.length - (i+1)) h1
 rwa [show i+1+(L.length - (i+1))=L.length by omega] at this
theorem tws_miss (L:List ByteArray) (i:Nat) (hi:i < L.length) (h:(L.take i).any (fun y=>decide (y=L[i]))=false) (h0:twS L i=false):twS L (i+1)=false:=by
 rw [tws_step L i hi,h,h0];rfl
noncomputable def faultE (L:List En) (i:Nat) (x:En):Int :=
 if 50<=i\/20 < x.nd.length then 4
 else if goodE x=false then 2
 else if hasNm (L.take i) x.nm=true\/twS x.nd x.nd.length=true then 5
 else if x.nd.all (hasNm L)=true then 0 else 6
noncomputable def errE (L:List En) (i:Nat):Int:=match L[i]? with | some x=>faultE L i x | none=>0
theorem errE_at (L:List En) (i:Nat) (hi:i < L.length):errE L i=faultE L i L[i]:=by simp [errE,List.getElem?_eq_getElem hi]
noncomputable def lockFrom (L:List En):Nat->Int × Nat
 | 0=>(0,0)
 | n+1=>if errE L (L.length - (n+1))=0 then lockFrom L n else (errE L (L.length - (n+1)),L.length - (n+1))
theorem lock_hit (L:List En) (i:Nat) (hi:i < L.length) (h:¬ errE L i=0):lockFrom L (L.length - i)=(errE L i,i):=by
 obtain ⟨n,hn⟩:∃n,L.length - i=n+1:=⟨L.length - i - 1,by omega⟩
 rw [hn,lockFrom,show L.length - (n+1)=i by omega,if_neg h]
theorem lock_miss (L:List En) (i:Nat) (hi:i < L.length) (h:errE L i=0):lockFrom L (L.length - i)=lockFrom L (L.length - (i+1)):=by
 obtain ⟨n,hn⟩:∃n,L.length - i=n+1:=⟨L.length - i - 1,by omega⟩
 rw [hn,lockFrom,show L.length - (n+1)=i by omega,if_pos h,show L.length - (i+1)=n by omega]
theorem lock_ok (L:List En) (h:(lockFrom L L.length).1=0):∀i,i < L.length->errE L i=0:=by
 have key:∀n,n<=L.length->(lockFrom L n).1=0->∀i,L.length - n<=i->i < L.length->errE L i=0:=by
  intro n
  induction n with
  | zero=>intro _ _ i h1 h2;omega
  | succ n ih =>
   intro hn h0 i h1 h2
   by_cases he:errE L (L.length - (n+1))=0
   ·rw [lockFrom,if_pos he] at h0
    by_cases hi:i=L.length - (n+1)
    ·rw [hi];exact he
    ·exact ih (by omega) h0 i (by omega) h2
   ·rw [lockFrom,if_neg he] at h0
    exact absurd h0 he
 intro i hi
 exact key L.length (Nat.le_refl _) h i (by omega) hi
def keyT (n:ByteArray):Lit:=.string n.data.toList
theorem keyT_inj {a b:ByteArray} (h:keyT a=keyT b):a=b:=by
 unfold keyT at h
 injection h with h
 exact ByteArray.ext (Array.ext' h)
def frD (L:List En):Nat->DataW Unit
 | 0=>.map []
 | i+1=>match L[i]? with
  | some x=>if Maps.has (frD L i) (keyT x.nm)=true then frD L i else (frD L i).put (keyT x.nm) (.lit (.int .i64 (i:Int)))
  | none=>frD L i
theorem fr_step (L:List En) (i:Nat) (hi:i < L.length):frD L (i+1)=if Maps.has (frD L i) (keyT L[i].nm)=true then frD L i else (frD L i).put (keyT L[i].nm) (.lit (.int .i64 (i:Int))):=by
 simp [frD,List.getElem?_eq_getElem hi]
theorem fr_map (L:List En):∀i,i<=L.length->IsMap (frD L i)
 | 0,_=>isMap_empty
 | i+1,h=>by
  rw [fr_step L i (by omega)]
  split
  ·exact fr_map L i (by omega)
  ·exact (fr_map L i (by omega)).put _ _
theorem fr_has (L:List En) (n:ByteArray):∀i,i<=L.length->Maps.has (frD L i) (keyT n)=hasNm (L.take i) n
 | 0,_=>by simp [frD,hasNm,Maps.has]
 | i+1,h=>by
  have ih:=fr_has L n i (by omega)
  have hm:=fr_map L i (by omega)
  rw [fr_step L i (by omega),nm_next L n i (by omega)]
  by_cases he:L[i].nm=n
  ·rw [he]
   split
   ·rename_i h1
    rw [h1];simp
   ·rw [has_put_same hm (by trivial)];simp
  ·have hne:keyT n ≠ keyT L[i].nm:=fun e=>he (keyT_inj e).symm
   rw [decide_eq_false he,Bool.or_false]
   split
   ·exact ih
   ·rw [has_put_other hne];exact ih
theorem fr_at (L:List En) (n:ByteArray):∀i,i<=L.length->hasNm (L.take i) n=true->∃j,∃hj:j < L.length,j < i/\L[j].nm=n/\hasNm (L.take j) n=false/\∀z,(frD L i).atKey (keyT n) z=.lit (.int .i64 (j:Int))
 | 0,_,h=>by simp [hasNm] at h
 | i+1,hi,h=>by
  have hm:=fr_map L i (by omega)
  have hh:=fr_has L L[i].nm i (by omega)
  by_cases h0:hasNm (L.take i) n=true
  ·obtain ⟨j,hj,h1,h2,h3,h4⟩:=fr_at L n i (by omega) h0
   refine ⟨j,hj,by omega,h2,h3,fun z=>?_⟩
   rw [fr_step L i (by omega)]
   split
   ·exact h4 z
   ·rename_i hf
    have hne:keyT n ≠ keyT L[i].nm:=fun e=>by
     rw [<-keyT_inj e] at hf hh
     rw [hh] at hf
     exact hf h0
    rw [atKey_put_other hne]
    exact h4 z
  ·rw [nm_next L n i (by omega)] at h
   have h0':hasNm (L.take i) n=false:=by simpa using h0
   rw [h0',Bool.false_or] at h
   have he:L[i].nm=n:=by simpa using h
   refine ⟨i,by omega,by omega,he,h0',fun z=>?_⟩
   rw [fr_step L i (by omega),he,if_neg (by rw [fr_has L n i (by omega),h0'];simp)]
   exact atKey_put_same hm (by trivial) _ _
theorem fr_first (L:List En) (i:Nat) (hi:i < L.length):∃j:Nat,j < L.length/\(∀z,(frD L L.length).atKey (keyT L[i].nm) z=.lit (.int .i64 (j:Int)))/\(j < i ↔ hasNm (L.take i) L[i].nm=true):=by
 obtain ⟨j,hj,h1,h2,h3,h4⟩:=fr_at L L[i].nm L.length (Nat.le_refl _) (nm_at L _ L.length i hi hi rfl)
 refine ⟨j,hj,h4,fun h=>nm_at L _ i j hj h h2,fun h=>?_⟩
 apply Classical.byContradiction
 intro hn
 rw [nm_up L _ i j (by omega) h] at h3
 cases h3
theorem keyS:Keyed Tryz.prog 9:=string_keyed Tryz.underlying9
theorem zeroI (w:World):(zeroValue 3).run Tryz.prog w=.ok (.int .i64 0) w:=by kernel_rfl
theorem makeI (n:Int) (w:World):(Instr.makeMap 44 (some (.int .i64 n))).run Tryz.prog w=.ok (.map (some w.heap.size)) (w.alloc (.map #[] 0)):=by kernel_rfl
theorem gb_farb {w u u':World} {b:Nat} (h:w.grownBy u none) (hg:u.grownBy u' (some b)) (hb:w.heap.size<=b):w.grownBy u' none :=
 ⟨hg.os.trans h.os,hg.tape.trans h.tape,hg.output.trans h.output,Nat.le_trans h.size hg.size,fun k hk hn=>(hg.block k (Nat.lt_of_lt_of_le hk h.size) (by simp;omega)).trans (h.block k hk hn)⟩
set_option maxRecDepth 100000 in
set_option maxHeartbeats 1600000 in
theorem firstsOf_at (a:Addr) (cap:Nat) (L:List En) (w:World) (hL:L.length<=1048576) (hcap:L.length<=cap) (hz:∀x ∈ L,x.nm.size<=maxLen) (h:∀i (hi:i < L.length),EnAt w (a.add (i * 4)) L[i]) :
  Calls Tryz.prog 17 #[.slice (some a) L.length cap] w fun e w'=>∃B,e=.returned (.map (some B))/\w'.ownsMap Tryz.prog 9 (plainElem (H:=Unit) Tryz.prog 3) B L.length (frD L L.length)/\w.grownBy w' none:=by
 have HA:Hid (∀i (hi:i < L.length),EnAt w (a.add (i * 4)) L[i]):=h
 have HZ:Hid (∀x ∈ L,x.nm.size<=maxLen):=hz
 clear h hz
 obtain ⟨B,hB⟩:∃B,w.heap.size=B:=⟨_,rfl⟩
 have HB:Hid (w.heap.size=B):=hB
 have hmm:=makeI (L.length:Int) w
 go_enter Tryz.func17,Tryz.ntmps17
 go_wp2
 try rw [hB]
 clear hB hmm
 go_loopw [13] (fun vi wr=>∃i:Nat,vi=.int .i64 i/\i<=L.length/\wr.ownsMap Tryz.prog 9 (plainElem (H:=Unit) Tryz.prog 3) B i (frD L i)/\w.grownBy wr none) (fun vi _=>L.length - (intOf vi).toNat)
 case atStart=>exact ⟨0,rfl,Nat.zero_le _,HB.out ▸ World.ownsMap_made _ _ _ _,gb_alloc (gb_refl w none) _⟩
 case round =>
  obtain ⟨i,rfl,hi,hown,hg⟩:=hrel
  have HG:Hid (w.grownBy wr none):=hg
  by_cases hlt:i < L.length
  ·obtain ⟨x,hx⟩:∃x,L[i]=x:=⟨_,rfl⟩
   obtain ⟨e0,e1,e2,sv,e3,hsv⟩:EnAt wr (a.add (i * 4)) x:=by rw [<-hx];exact (HA.out i hlt).grow hg
   obtain ⟨so,sc,rfl⟩:=txs_slice hsv
   have hkey:keyOf Tryz.prog 9 (.string x.nm)=some (keyT x.nm):=Go.WideMaps.keyOf_string_mk Tryz.underlying9 (HZ.out x (by rw [<-hx];exact List.getElem_mem _))
   have HN:Hid (frD L (i+1)=if Maps.has (frD L i) (keyT x.nm)=true then frD L i else (frD L i).put (keyT x.nm) (.lit (.int .i64 (i:Int)))):=by
    show _=_
    rw [fr_step L i hlt,hx]
   obtain ⟨q,hq⟩:∃q,Maps.has (frD L i) (keyT x.nm)=q:=⟨_,rfl⟩
   rw [hq] at HN
   have hown2:=hown.alloc (.cells #[.string x.nm,.string x.ve,.string x.dg,.slice so x.nd.length sc] 43)
   have hwi:(Lit.int .i64 (i:Int)).wf=true:=WalkArith.wf_i64 (by omega)
   clear hg hx hsv
   cases q with
   | true =>
    have HN1:Hid (frD L (i+1)=frD L i):=by
     show _=_
     rw [HN.out,if_pos rfl]
    go_wp2_with (first | (at_lookup;refine wpList_lookup_own_ok_int _ rfl _ _ 44 rfl 9 3 .i64 keyS Tryz.underlying44 Tryz.underlying3 (zeroI _) B i _ rfl hown2 _ _ rfl hkey ?_;intro c hat hwc;rw [hq]) | go_in)
    exact ⟨⟨i+1,by go_num,by omega,by rw [HN1.out];exact hown2.mono (Nat.le_succ _),gb_alloc HG.out _⟩,by simp [intOf];omega⟩
   | false =>
    have HN1:Hid (frD L (i+1)=(frD L i).put (keyT x.nm) (.lit (.int .i64 (i:Int)))):=by
     show _=_
     rw [HN.out,if_neg (by simp)]
    go_wp2_with (first | (at_lookup;refine wpList_lookup_own_ok_int _ rfl _ _ 44 rfl 9 3 .i64 keyS Tryz.underlying44 Tryz.underlying3 (zeroI _) B i _ rfl hown2 _ _ rfl hkey ?_;intro c hat hwc;rw [hq]) | (at_mapUpdate;refine wpList_mapUpdate_own _ rfl _ _ _ 44 rfl 9 3 keyS Tryz.underlying44 (plainElem (H:=Unit) Tryz.prog 3) B i _ rfl hown2 (by unfold maxLen;omega) _ _ _ rfl rfl hkey _ [] (plainElem_int Tryz.underlying3 hwi) ?_;intro w1 hown1 hgrow1) | go_in)
    exact ⟨⟨i+1,by go_num,by omega,by rw [HN1.out];exact hown1,gb_farb (gb_alloc HG.out _) hgrow1 (Nat.le_of_eq HB.out)⟩,by simp [intOf];omega⟩
  ·have hil:i=L.length:=by omega
   have HM:Hid (wr.ownsMap Tryz.prog 9 (plainElem (H:=Unit) Tryz.prog 3) B L.length (frD L L.length)):=by rw [hil] at hown;exact hown
   clear hg hil hi hown
   go_wp2
   refine bodyPost_ret (results_tmp (t:=2) rfl _ _ _) rfl ⟨B,rfl,HM.out,HG.out⟩
theorem firstsOf_nil (w:World):Calls Tryz.prog 17 #[.slice none 0 0] w fun e w'=>∃B,e=.returned (.map (some B))/\w.grownBy w' none:=by
 have hmm:=makeI 0 w
 go_enter Tryz.func17,Tryz.ntmps17
 go_wp2
 obtain ⟨B,hB⟩:∃B,w.heap.size=B:=⟨_,rfl⟩
 try rw [hB]
 go_loopw [13] (fun vi wr=>vi=.int .i64 0/\w.grownBy wr none) (fun vi _=>0)
 case atStart=>exact ⟨rfl,gb_alloc (gb_refl w none) _⟩
 case round =>
  obtain ⟨rfl,hb⟩:=hrel
  have HB:Hid (w.grownBy wr none):=hb
  clear hb hmm
  go_wp2
  refine bodyPost_ret (results_tmp (t:=2) rfl _ _ _) rfl ⟨B,rfl,HB.out⟩
end Go.Proofs.YtbbmbnpebiakbaaGreatDoor
