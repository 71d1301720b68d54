import Derived.Test.YtpeghomkaphdcaaGreatDoorM09
import Derived.Test.YtpeghomkaphdcaaGreatDoorM06
import Derived.Test.YtpeghomkaphdcaaGreatDoorM03
import Derived.Laws.AppendOwn
import Derived.Deep.RegionLaw
import Derived.Deep.AppendLies
import Derived.Shelf.Small.Wraps
import Derived.Shelf.Strings.Trim
import Derived.Shelf.Strings.Search2
import Derived.Test.YtpeghomkaphdcaaGreatDoorProg
namespace Go.Proofs.YtpeghomkaphdcaaGreatDoor
open Go.RowKit
set_option linter.unusedVariables false
structure RV (w:World) (A:Nat) (s:ByteArray) (j:Nat) (E:Int) (c:Nat) (y1 y2 y3:Int) (P B:ByteArray) (u:World):Prop where
 vs:VS (A+1) s j E c u
 vr:VR (A+2) y1 y2 y3 P B u
 vz:VR A 0 0 0 ⟨#[]⟩ ⟨#[]⟩ u
 gb:w.grownBy u none
 le:w.heap.size<=A
theorem RV.drew {w:World} {A:Nat} {s:ByteArray} {j:Nat} {E:Int} {c:Nat} {y1 y2 y3:Int} {P B:ByteArray} {u:World} (h:RV w A s j E c y1 y2 y3 P B u) (n:Nat):RV w A s j E c y1 y2 y3 P B (u.drewN n) :=
 ⟨h.vs.drew n,h.vr,h.vz,gb_drew h.gb n,h.le⟩
theorem RV.call {w:World} {A:Nat} {s:ByteArray} {j:Nat} {E:Int} {c:Nat} {y1 y2 y3:Int} {P B:ByteArray} {u u':World} (h:RV w A s j E c y1 y2 y3 P B u) (hg:u.grownBy u' (some (A+1))) {j':Nat} {E':Int} {c':Nat} (hv:VS (A+1) s j' E' c' u'):RV w A s j' E' c' y1 y2 y3 P B u' :=
 ⟨hv,h.vr.grow hg (by omega),h.vz.grow hg (by omega),⟨hg.os.trans h.gb.os,hg.tape.trans h.gb.tape,hg.output.trans h.gb.output,Nat.le_trans h.gb.size hg.size,fun k hk _=>(hg.block k (Nat.lt_of_lt_of_le hk h.gb.size) (by have:=h.le;simp;omega)).trans (h.gb.block k hk (by simp))⟩,h.le⟩
theorem RV.two {w:World} {A:Nat} {s:ByteArray} {j:Nat} {E:Int} {c:Nat} {y1 y2 y3:Int} {P B:ByteArray} {u u':World} (h:RV w A s j E c y1 y2 y3 P B u) (hg:G2 (A+1) (A+2) u u') {j':Nat} {E':Int} {c':Nat} {P' B':ByteArray} (hv:VS (A+1) s j' E' c' u') (hr:VR (A+2) y1 y2 y3 P' B' u'):RV w A s j' E' c' y1 y2 y3 P' B' u' :=
 ⟨hv,hr,by have:=h.vz;unfold VR at this ⊢;rw [hg.block A ((Array.getElem?_eq_some_iff.1 this).1) (by omega) (by omega)];exact this,⟨hg.os.trans h.gb.os,hg.tape.trans h.gb.tape,hg.output.trans h.gb.output,Nat.le_trans h.gb.size hg.size,fun k hk _=>(hg.block k (Nat.lt_of_lt_of_le hk h.gb.size) (by have:=h.le;omega) (by have:=h.le;omega)).trans (h.gb.block k hk (by simp))⟩,h.le⟩
theorem VR.set0 {v:Nat} {y1 y2 y3:Int} {x4 x5:ByteArray} {w:World} (h:VR v y1 y2 y3 x4 x5 w) (z:Int):VR v z y2 y3 x4 x5 (w.setCell ⟨v,0,none⟩ (.int .i64 z)):=by
 unfold VR at h ⊢;simp [World.setCell,Array.getElem?_modify,h]
theorem VR.set1 {v:Nat} {y1 y2 y3:Int} {x4 x5:ByteArray} {w:World} (h:VR v y1 y2 y3 x4 x5 w) (z:Int):VR v y1 z y3 x4 x5 (w.setCell ⟨v,1,none⟩ (.int .i64 z)):=by
 unfold VR at h ⊢;simp [World.setCell,Array.getElem?_modify,h]
theorem VR.set2 {v:Nat} {y1 y2 y3:Int} {x4 x5:ByteArray} {w:World} (h:VR v y1 y2 y3 x4 x5 w) (z:Int):VR v y1 y2 z x4 x5 (w.setCell ⟨v,2,none⟩ (.int .i64 z)):=by
 unfold VR at h ⊢;simp [World.setCell,Array.getElem?_modify,h]
theorem RV.put0 {w:World} {A:Nat} {s:ByteArray} {j:Nat} {E:Int} {c:Nat} {y1 y2 y3:Int} {P B:ByteArray} {u:World} (h:RV w A s j E c y1 y2 y3 P B u) (x:Int):RV w A s j E c x y2 y3 P B (u.setCell ⟨A+2,0,none⟩ (.int .i64 x)) :=
 ⟨h.vs.other (by omega) _ _,h.vr.set0 x,h.vz.other (by omega) _ _,gb_new0 h.gb (by have:=h.le;omega) _ _,h.le⟩
theorem RV.put1 {w:World} {A:Nat} {s:ByteArray} {j:Nat} {E:Int} {c:Nat} {y1 y2 y3:Int} {P B:ByteArray} {u:World} (h:RV w A s j E c y1 y2 y3 P B u) (x:Int):RV w A s j E c y1 x y3 P B (u.setCell ⟨A+2,1,none⟩ (.int .i64 x)) :=
 ⟨h.vs.other (by omega) _ _,h.vr.set1 x,h.vz.other (by omega) _ _,gb_new0 h.gb (by have:=h.le;omega) _ _,h.le⟩
theorem RV.put2 {w:World} {A:Nat} {s:ByteArray} {j:Nat} {E:Int} {c:Nat} {y1 y2 y3:Int} {P B:ByteArray} {u:World} (h:RV w A s j E c y1 y2 y3 P B u) (x:Int):RV w A s j E c y1 y2 x P B (u.setCell ⟨A+2,2,none⟩ (.int .i64 x)) :=
 ⟨h.vs.other (by omega) _ _,h.vr.set2 x,h.vz.other (by omega) _ _,gb_new0 h.gb (by have:=h.le;omega) _ _,h.le⟩
theorem RV.born (w:World) (s:ByteArray):RV w w.heap.size s 0 0 0 0 0 0 ⟨#[]⟩ ⟨#[]⟩ (((w.alloc (.cells #[.int .i64 0,.int .i64 0,.int .i64 0,.string ⟨#[]⟩,.string ⟨#[]⟩] 88)).alloc (.cells #[.string s,.int .i64 0,.int .i64 0,.int .i64 0] 119)).alloc (.cells #[.int .i64 0,.int .i64 0,.int .i64 0,.string ⟨#[]⟩,.string ⟨#[]⟩] 88)):=by
 refine ⟨?_,?_,?_,gb_alloc (gb_alloc (gb_alloc (gb_refl w none) _) _) _,Nat.le_refl _⟩
 ·unfold VS
  rw [Lib.alloc_old _ _ _ (by simp)]
  exact row2 w _ _
 ·unfold VR
  have:=row2 (w.alloc (.cells #[.int .i64 0,.int .i64 0,.int .i64 0,.string ⟨#[]⟩,.string ⟨#[]⟩] 88)) (.cells #[.string s,.int .i64 0,.int .i64 0,.int .i64 0] 119) (.cells #[.int .i64 0,.int .i64 0,.int .i64 0,.string ⟨#[]⟩,.string ⟨#[]⟩] 88)
  simpa using this
 ·unfold VR
  rw [Lib.alloc_old _ _ _ (by simp;omega),Lib.alloc_old _ _ _ (by simp)]
  exact heap_alloc_new w _
set_option maxRecDepth 100000 in
set_option maxHeartbeats 6400000 in
theorem readv_any (s:ByteArray) (w:World) (hs:s.size < 2 ^ 62) :
  Calls Tryz.prog 64 #[.string s] w fun e w'=>e=.returned (.tuple #[valV (parseV s.data.toList).2.2,.int .i64 (parseV s.data.toList).1,.int .i64 ((parseV s.data.toList).2.1:Nat)])/\w.grownBy w' none:=by
 by_cases h100:100 < s.size
 ·have hp:parseV s.data.toList=(1,0,zeroV):=by unfold parseV;rw [if_pos (by simpa using h100)]
  rw [hp]
  clear hp
  go_enter Tryz.func64,Tryz.ntmps64
  go_wp2
  exact bodyPost_ret (res_row_tmp2 (p:=2) (u:=3) (r:=4) rfl _ _ w.heap.size _ _ (0,0) _ rfl (heap_alloc_new w _) Tryz.underlying88 rfl (by kernel_rfl)) rfl ⟨rfl,gb_alloc (gb_refl w none) _⟩
 ·have hp:parseV s.data.toList=rdVer s.data.toList:=by unfold parseV;rw [if_neg (by simpa using h100)]
  rw [hp]
  clear hp
  obtain ⟨l,hl⟩:∃l,l=s.data.toList:=⟨_,rfl⟩
  have HL:Hid (l=s.data.toList/\l.length=s.size):=⟨hl,by rw [hl];simp⟩
  have CN:Hid (∀b i a w,i<=s.size->VS b s i 0 a w->Calls Tryz.prog 84 #[.pointer (some ⟨b,0,none⟩)] w (NumPost b s i w)):=fun b i a w hi h=>rnum_any b s i a w hi h hs
  have MY:Hid (∀b i a w,l[i]?=some 46->VS b s i 0 a w->Calls Tryz.prog 85 #[.pointer (some ⟨b,0,none⟩),.int .u8 46] w fun e w'=>e=.returned (.tuple #[])/\VS b s (i+1) 0 a w'/\w.grownBy w' (some b)):=fun b i a w hc h=>must_yes b s i 0 a 46 w (by rw [<-hl];exact hc) h hs
  have MN:Hid (∀b i a w,i<=s.size->¬ l[i]?=some 46->VS b s i 0 a w->Calls Tryz.prog 85 #[.pointer (some ⟨b,0,none⟩),.int .u8 46] w fun e w'=>e=.returned (.tuple #[])/\VS b s i 2 i w'/\w.grownBy w' (some b)):=fun b i a w hi hc h=>must_no b s i a 46 w hi (by rw [<-hl];exact hc) h hs
  have CT:Hid (∀b v i a y1 y2 y3 w,i<=s.size->VS b s i 0 a w->VR v y1 y2 y3 ⟨#[]⟩ ⟨#[]⟩ w->b ≠ v->Calls Tryz.prog 86 #[.pointer (some ⟨b,0,none⟩),.pointer (some ⟨v,0,none⟩)] w fun e w'=>e=.returned (.tuple #[])/\RTailPost b v s i y1 y2 y3 w w'):=fun b v i a y1 y2 y3 w hi h1 h2 h3=>rtail_any b v s i a y1 y2 y3 w hi h1 h2 h3 hs
  have HB:Hid (RV w w.heap.size s 0 0 0 0 0 0 ⟨#[]⟩ ⟨#[]⟩ (((w.alloc (.cells #[.int .i64 0,.int .i64 0,.int .i64 0,.string ⟨#[]⟩,.string ⟨#[]⟩] 88)).alloc (.cells #[.string s,.int .i64 0,.int .i64 0,.int .i64 0] 119)).alloc (.cells #[.int .i64 0,.int .i64 0,.int .i64 0,.string ⟨#[]⟩,.string ⟨#[]⟩] 88))):=RV.born w s
  have hver:=ver_tail l
  have hnr:=nums_rest l
  obtain ⟨R,hR⟩:∃R,rdNums l=R:=⟨_,rfl⟩
  obtain ⟨X,hX⟩:∃X,rdVer l=X:=⟨_,rfl⟩
  rw [hR] at hver hnr
  rw [hX] at hver
  rw [<-hl,hX]
  have HV:Hid (X=if R.1=0 then (if (tailP l R.2.1).1=0 then (if (tailP l R.2.1).2.1 < l.length then (2,(tailP l R.2.1).2.1,zeroV) else (0,0,⟨R.2.2.1,R.2.2.2.1,R.2.2.2.2,(tailP l R.2.1).2.2.1,(tailP l R.2.1).2.2.2⟩)) else ((tailP l R.2.1).1,(tailP l R.2.1).2.1,zeroV)) else (R.1,R.2.1,zeroV)):=hver
  have HR0:Hid (R=if (rdNum l 0).1=0 then rest1 l (rdNum l 0).2.2 (rdNum l 0).2.1 else ((rdNum l 0).1,(rdNum l 0).2.2,0,0,0)):=hnr
  have HS:Hid (s.size < 2 ^ 62):=hs
  clear hl hver hnr hR hX hs
  go_enter Tryz.func64,Tryz.ntmps64
  go_wp2_with (go_at_call 84;refine (CN.out _ 0 0 _ (Nat.zero_le _) HB.out.vs).mono ?_)
  rintro e u1 ⟨x1,j1,E1,c1,rfl,hvs,hg,hE,hok,herr⟩
  obtain ⟨A,hA⟩:∃A,w.heap.size=A:=⟨_,rfl⟩
  rw [hA] at HB hvs hg
  rw [hA]
  have HA1:Hid (RV w A s j1 E1 c1 0 0 0 ⟨#[]⟩ ⟨#[]⟩ u1):=HB.out.call hg hvs
  have HK1:Hid (E1=(rdNum l 0).1/\(E1=0->x1=(rdNum l 0).2.1/\j1=(rdNum l 0).2.2/\j1<=s.size)/\(E1 ≠ 0->c1=(rdNum l 0).2.2)):=by rw [HL.out.1];exact ⟨hE,hok,herr⟩
  clear hA hvs hg hE hok herr HB
  obtain ⟨U1,hU1⟩:∃U,u1.setCell ⟨A+2,0,none⟩ (.int .i64 x1)=U:=⟨_,rfl⟩
  have HU1:Hid (RV w A s j1 E1 c1 x1 0 0 ⟨#[]⟩ ⟨#[]⟩ U1):=by show RV _ _ _ _ _ _ _ _ _ _ _ U1;rw [<-hU1];exact HA1.out.put0 x1
  obtain ⟨q0,q1,q2,q3,q4⟩:=HA1.out.vr.cells
  have qf:=HA1.out.vr.f
  have f0:=HU1.out.vs.c0
  have f1:=HU1.out.vs.c1
  have f2:=HU1.out.vs.c2
  have f3:=HU1.out.vs.c3
  cases hz1:(E1 == 0) with
  | false =>
   have HZ:Hid (E1 ≠ 0):=by show E1 ≠ 0;simpa using hz1
   have FIN:Hid (X=(E1,c1,zeroV)):=by
    show X=_
    have h9:¬ (rdNum l 0).1=0:=fun e=>HZ.out (HK1.out.1.trans e)
    have hr:=HR0.out
    rw [if_neg h9,<-HK1.out.1,<-HK1.out.2.2 HZ.out] at hr
    rw [HV.out,hr,if_neg HZ.out]
   go_wp2_with (first | (go_at_call 86;refine (rtail_skip (A+1) (A+2) s j1 E1 HZ.out c1 _ HU1.out.vs).mono ?_))
   rintro e t1 ⟨rfl,n,hn⟩
   have HT:Hid (RV w A s j1 E1 c1 x1 0 0 ⟨#[]⟩ ⟨#[]⟩ t1):=by show RV _ _ _ _ _ _ _ _ _ _ _ t1;rw [hn];exact HU1.out.drew n
   clear hn f0 f1 f2 f3
   have f0:=HT.out.vs.c0
   have f1:=HT.out.vs.c1
   have f2:=HT.out.vs.c2
   have f3:=HT.out.vs.c3
   obtain ⟨z0,z1,z2,z3,z4⟩:=HT.out.vz.cells
   have zf:=HT.out.vz.f
   go_wp2
   go_region
   go_wp2
   refine bodyPost_ret (res_row_tmp2 (p:=2) (u:=3) (r:=4) rfl _ _ A _ _ (0,0) _ rfl (putr_row HT.out.vz 0 0 0 ⟨#[]⟩ ⟨#[]⟩) Tryz.underlying88 rfl (by kernel_rfl)) rfl ⟨?_,gb_drew (put5_gb0 HT.out.gb HT.out.le 0 0 0 ⟨#[]⟩ ⟨#[]⟩) 1⟩
   rw [FIN.out];rfl
  | true =>
   have h0:E1=0:=by simpa using hz1
   subst h0
   clear hz1
   have HJ1:Hid (j1<=s.size):=(HK1.out.2.1 rfl).2.2
   have HR1:Hid (R=rest1 l j1 x1):=by
    show R=_
    obtain ⟨e1,e2,-⟩:=HK1.out.2.1 rfl
    have hr:=HR0.out
    rw [if_pos HK1.out.1.symm,<-e1,<-e2] at hr
    exact hr
   clear HK1 HR0
   cases hc1:decide (l[j1]?=some 46) with
   | false =>
    have hc':=of_decide_eq_false hc1
    have HZ:Hid ((2:Int) ≠ 0):=by show (2:Int) ≠ 0;decide
    have FIN:Hid (X=(2,j1,zeroV)):=by
     show X=_
     have hr:=HR1.out
     unfold rest1 at hr
     rw [if_neg hc'] at hr
     rw [HV.out,hr];rfl
    have CM:Hid (Calls Tryz.prog 85 #[.pointer (some ⟨A+1,0,none⟩),.int .u8 46] U1 fun e w'=>e=.returned (.tuple #[])/\VS (A+1) s j1 2 j1 w'/\U1.grownBy w' (some (A+1))):=MN.out _ _ _ _ HJ1.out hc' HU1.out.vs
    clear hc1 hc'
    go_wp2_with (first | (go_at_call 85;refine CM.out.mono ?_))
    rintro e v1 ⟨rfl,hvs,hg⟩
    have HM:Hid (RV w A s j1 2 j1 x1 0 0 ⟨#[]⟩ ⟨#[]⟩ v1):=HU1.out.call hg hvs
    clear hvs hg f0 f1 f2 f3 q0 q1 q2 q3 q4 qf hU1
    have f0:=HM.out.vs.c0
    have f1:=HM.out.vs.c1
    have f2:=HM.out.vs.c2
    have f3:=HM.out.vs.c3
    go_wp2_with (first | (go_at_call 86;refine (rtail_skip (A+1) (A+2) s j1 2 HZ.out j1 _ HM.out.vs).mono ?_))
    rintro e t1 ⟨rfl,n,hn⟩
    have HT:Hid (RV w A s j1 2 j1 x1 0 0 ⟨#[]⟩ ⟨#[]⟩ t1):=by show RV _ _ _ _ _ _ _ _ _ _ _ t1;rw [hn];exact HM.out.drew n
    clear hn f0 f1 f2 f3
    have f0:=HT.out.vs.c0
    have f1:=HT.out.vs.c1
    have f2:=HT.out.vs.c2
    have f3:=HT.out.vs.c3
    obtain ⟨z0,z1,z2,z3,z4⟩:=HT.out.vz.cells
    have zf:=HT.out.vz.f
    go_wp2
    go_region
    go_wp2
    refine bodyPost_ret (res_row_tmp2 (p:=2) (u:=3) (r:=4) rfl _ _ A _ _ (0,0) _ rfl (putr_row HT.out.vz 0 0 0 ⟨#[]⟩ ⟨#[]⟩) Tryz.underlying88 rfl (by kernel_rfl)) rfl ⟨?_,gb_drew (put5_gb0 HT.out.gb HT.out.le 0 0 0 ⟨#[]⟩ ⟨#[]⟩) 1⟩
    rw [FIN.out];rfl
   | true =>
    have hc':=of_decide_eq_true hc1
    have HRn:Hid (R=if (rdNum l (j1+1)).1=0 then rest2 l (rdNum l (j1+1)).2.2 x1 (rdNum l (j1+1)).2.1 else ((rdNum l (j1+1)).1,(rdNum l (j1+1)).2.2,0,0,0)):=by
     show R=_
     have hr:=HR1.out
     unfold rest1 at hr
     rw [if_pos hc'] at hr
     exact hr
    have HJn:Hid (j1+1<=s.size):=by have:=(List.getElem?_eq_some_iff.1 hc').1;rw [HL.out.2] at this;exact this
    have CM:Hid (Calls Tryz.prog 85 #[.pointer (some ⟨A+1,0,none⟩),.int .u8 46] U1 fun e w'=>e=.returned (.tuple #[])/\VS (A+1) s (j1+1) 0 c1 w'/\U1.grownBy w' (some (A+1))):=MY.out _ _ _ _ hc' HU1.out.vs
    clear hc1 hc'
    go_wp2_with (first | (go_at_call 85;refine CM.out.mono ?_))
    rintro e v2 ⟨rfl,hvs,hg⟩
    have HM2:Hid (RV w A s (j1+1) 0 c1 x1 0 0 ⟨#[]⟩ ⟨#[]⟩ v2):=HU1.out.call hg hvs
    clear hvs hg f0 f1 f2 f3 q0 q1 q2 q3 q4 qf hU1 HR1 CM
    have f0:=HM2.out.vs.c0
    have f1:=HM2.out.vs.c1
    have f2:=HM2.out.vs.c2
    have f3:=HM2.out.vs.c3
    go_wp2_with (first | (go_at_call 84;refine (CN.out _ (j1+1) c1 _ HJn.out HM2.out.vs).mono ?_))
    rintro e u2 ⟨x2,j2,E2,c2,rfl,hvs,hg,hE,hok,herr⟩
    have HA2:Hid (RV w A s j2 E2 c2 x1 0 0 ⟨#[]⟩ ⟨#[]⟩ u2):=HM2.out.call hg hvs
    have HK2:Hid (E2=(rdNum l (j1+1)).1/\(E2=0->x2=(rdNum l (j1+1)).2.1/\j2=(rdNum l (j1+1)).2.2/\j2<=s.size)/\(E2 ≠ 0->c2=(rdNum l (j1+1)).2.2)):=by rw [HL.out.1];exact ⟨hE,hok,herr⟩
    clear hvs hg hE hok herr f0 f1 f2 f3
    obtain ⟨U2,hU2⟩:∃U,u2.setCell ⟨A+2,1,none⟩ (.int .i64 x2)=U:=⟨_,rfl⟩
    have HU2:Hid (RV w A s j2 E2 c2 x1 x2 0 ⟨#[]⟩ ⟨#[]⟩ U2):=by show RV _ _ _ _ _ _ _ _ _ _ _ U2;rw [<-hU2];exact HA2.out.put1 x2
    obtain ⟨q0,q1,q2,q3,q4⟩:=HA2.out.vr.cells
    have qf:=HA2.out.vr.f
    have f0:=HU2.out.vs.c0
    have f1:=HU2.out.vs.c1
    have f2:=HU2.out.vs.c2
    have f3:=HU2.out.vs.c3
    cases hz2:(E2 == 0) with
    | false =>
     have HZ:Hid (E2 ≠ 0):=by show E2 ≠ 0;simpa using hz2
     have FIN:Hid (X=(E2,c2,zeroV)):=by
      show X=_
      have h9:¬ (rdNum l (j1+1)).1=0:=fun e=>HZ.out (HK2.out.1.trans e)
      have hr:=HRn.out
      rw [if_neg h9,<-HK2.out.1,<-HK2.out.2.2 HZ.out] at hr
      rw [HV.out,hr,if_neg HZ.out]
     go_wp2_with (first | (go_at_call 86;refine (rtail_skip (A+1) (A+2) s j2 E2 HZ.out c2 _ HU2.out.vs).mono ?_))
     rintro e t1 ⟨rfl,n,hn⟩
     have HT:Hid (RV w A s j2 E2 c2 x1 x2 0 ⟨#[]⟩ ⟨#[]⟩ t1):=by show RV _ _ _ _ _ _ _ _ _ _ _ t1;rw [hn];exact HU2.out.drew n
     clear hn f0 f1 f2 f3
     have f0:=HT.out.vs.c0
     have f1:=HT.out.vs.c1
     have f2:=HT.out.vs.c2
     have f3:=HT.out.vs.c3
     obtain ⟨z0,z1,z2,z3,z4⟩:=HT.out.vz.cells
     have zf:=HT.out.vz.f
     go_wp2
     go_region
     go_wp2
     refine bodyPost_ret (res_row_tmp2 (p:=2) (u:=3) (r:=4) rfl _ _ A _ _ (0,0) _ rfl (putr_row HT.out.vz 0 0 0 ⟨#[]⟩ ⟨#[]⟩) Tryz.underlying88 rfl (by kernel_rfl)) rfl ⟨?_,gb_drew (put5_gb0 HT.out.gb HT.out.le 0 0 0 ⟨#[]⟩ ⟨#[]⟩) 1⟩
     rw [FIN.out];rfl
    | true =>
     have h0:E2=0:=by simpa using hz2
     subst h0
     clear hz2
     have HJ2:Hid (j2<=s.size):=(HK2.out.2.1 rfl).2.2
     have HR2:Hid (R=rest2 l j2 x1 x2):=by
      show R=_
      obtain ⟨e1,e2,-⟩:=HK2.out.2.1 rfl
      have hr:=HRn.out
      rw [if_pos HK2.out.1.symm,<-e1,<-e2] at hr
      exact hr
     clear HK2 HRn
     cases hc2:decide (l[j2]?=some 46) with
     | false =>
      have hc':=of_decide_eq_false hc2
      have HZ:Hid ((2:Int) ≠ 0):=by show (2:Int) ≠ 0;decide
      have FIN:Hid (X=(2,j2,zeroV)):=by
       show X=_
       have hr:=HR2.out
       unfold rest2 at hr
       rw [if_neg hc'] at hr
       rw [HV.out,hr];rfl
      have CM:Hid (Calls Tryz.prog 85 #[.pointer (some ⟨A+1,0,none⟩),.int .u8 46] U2 fun e w'=>e=.returned (.tuple #[])/\VS (A+1) s j2 2 j2 w'/\U2.grownBy w' (some (A+1))):=MN.out _ _ _ _ HJ2.out hc' HU2.out.vs
      clear hc2 hc'
      go_wp2_with (first | (go_at_call 85;refine CM.out.mono ?_))
      rintro e v1 ⟨rfl,hvs,hg⟩
      have HM:Hid (RV w A s j2 2 j2 x1 x2 0 ⟨#[]⟩ ⟨#[]⟩ v1):=HU2.out.call hg hvs
      clear hvs hg f0 f1 f2 f3 q0 q1 q2 q3 q4 qf hU2
      have f0:=HM.out.vs.c0
      have f1:=HM.out.vs.c1
      have f2:=HM.out.vs.c2
      have f3:=HM.out.vs.c3
      go_wp2_with (first | (go_at_call 86;refine (rtail_skip (A+1) (A+2) s j2 2 HZ.out j2 _ HM.out.vs).mono ?_))
      rintro e t1 ⟨rfl,n,hn⟩
      have HT:Hid (RV w A s j2 2 j2 x1 x2 0 ⟨#[]⟩ ⟨#[]⟩ t1):=by show RV _ _ _ _ _ _ _ _ _ _ _ t1;rw [hn];exact HM.out.drew n
      clear hn f0 f1 f2 f3
      have f0:=HT.out.vs.c0
      have f1:=HT.out.vs.c1
      have f2:=HT.out.vs.c2
      have f3:=HT.out.vs.c3
      obtain ⟨z0,z1,z2,z3,z4⟩:=HT.out.vz.cells
      have zf:=HT.out.vz.f
      go_wp2
      go_region
      go_wp2
      refine bodyPost_ret (res_row_tmp2 (p:=2) (u:=3) (r:=4) rfl _ _ A _ _ (0,0) _ rfl (putr_row HT.out.vz 0 0 0 ⟨#[]⟩ ⟨#[]⟩) Tryz.underlying88 rfl (by kernel_rfl)) rfl ⟨?_,gb_drew (put5_gb0 HT.out.gb HT.out.le 0 0 0 ⟨#[]⟩ ⟨#[]⟩) 1⟩
      rw [FIN.out];rfl
     | true =>
      have hc':=of_decide_eq_true hc2
      have HRn:Hid (R=if (rdNum l (j2+1)).1=0 then rest3 l (rdNum l (j2+1)).2.2 x1 x2 (rdNum l (j2+1)).2.1 else ((rdNum l (j2+1)).1,(rdNum l (j2+1)).2.2,0,0,0)):=by
       show R=_
       have hr:=HR2.out
       unfold rest2 at hr
       rw [if_pos hc'] at hr
       exact hr
      have HJn:Hid (j2+1<=s.size):=by have:=(List.getElem?_eq_some_iff.1 hc').1;rw [HL.out.2] at this;exact this
      have CM:Hid (Calls Tryz.prog 85 #[.pointer (some ⟨A+1,0,none⟩),.int .u8 46] U2 fun e w'=>e=.returned (.tuple #[])/\VS (A+1) s (j2+1) 0 c2 w'/\U2.grownBy w' (some (A+1))):=MY.out _ _ _ _ hc' HU2.out.vs
      clear hc2 hc'
      go_wp2_with (first | (go_at_call 85;refine CM.out.mono ?_))
      rintro e v3 ⟨rfl,hvs,hg⟩
      have HM3:Hid (RV w A s (j2+1) 0 c2 x1 x2 0 ⟨#[]⟩ ⟨#[]⟩ v3):=HU2.out.call hg hvs
      clear hvs hg f0 f1 f2 f3 q0 q1 q2 q3 q4 qf hU2 HR2 CM
      have f0:=HM3.out.vs.c0
      have f1:=HM3.out.vs.c1
      have f2:=HM3.out.vs.c2
      have f3:=HM3.out.vs.c3
      go_wp2_with (first | (go_at_call 84;refine (CN.out _ (j2+1) c2 _ HJn.out HM3.out.vs).mono ?_))
      rintro e u3 ⟨x3,j3,E3,c3,rfl,hvs,hg,hE,hok,herr⟩
      have HA3:Hid (RV w A s j3 E3 c3 x1 x2 0 ⟨#[]⟩ ⟨#[]⟩ u3):=HM3.out.call hg hvs
      have HK3:Hid (E3=(rdNum l (j2+1)).1/\(E3=0->x3=(rdNum l (j2+1)).2.1/\j3=(rdNum l (j2+1)).2.2/\j3<=s.size)/\(E3 ≠ 0->c3=(rdNum l (j2+1)).2.2)):=by rw [HL.out.1];exact ⟨hE,hok,herr⟩
      clear hvs hg hE hok herr f0 f1 f2 f3
      obtain ⟨U3,hU3⟩:∃U,u3.setCell ⟨A+2,2,none⟩ (.int .i64 x3)=U:=⟨_,rfl⟩
      have HU3:Hid (RV w A s j3 E3 c3 x1 x2 x3 ⟨#[]⟩ ⟨#[]⟩ U3):=by show RV _ _ _ _ _ _ _ _ _ _ _ U3;rw [<-hU3];exact HA3.out.put2 x3
      obtain ⟨q0,q1,q2,q3,q4⟩:=HA3.out.vr.cells
      have qf:=HA3.out.vr.f
      have f0:=HU3.out.vs.c0
      have f1:=HU3.out.vs.c1
      have f2:=HU3.out.vs.c2
      have f3:=HU3.out.vs.c3
      cases hz3:(E3 == 0) with
      | false =>
       have HZ:Hid (E3 ≠ 0):=by show E3 ≠ 0;simpa using hz3
       have FIN:Hid (X=(E3,c3,zeroV)):=by
        show X=_
        have h9:¬ (rdNum l (j2+1)).1=0:=fun e=>HZ.out (HK3.out.1.trans e)
        have hr:=HRn.out
        rw [if_neg h9,<-HK3.out.1,<-HK3.out.2.2 HZ.out] at hr
        rw [HV.out,hr,if_neg HZ.out]
       go_wp2_with (first | (go_at_call 86;refine (rtail_skip (A+1) (A+2) s j3 E3 HZ.out c3 _ HU3.out.vs).mono ?_))
       rintro e t1 ⟨rfl,n,hn⟩
       have HT:Hid (RV w A s j3 E3 c3 x1 x2 x3 ⟨#[]⟩ ⟨#[]⟩ t1):=by show RV _ _ _ _ _ _ _ _ _ _ _ t1;rw [hn];exact HU3.out.drew n
       clear hn f0 f1 f2 f3
       have f0:=HT.out.vs.c0
       have f1:=HT.out.vs.c1
       have f2:=HT.out.vs.c2
       have f3:=HT.out.vs.c3
       obtain ⟨z0,z1,z2,z3,z4⟩:=HT.out.vz.cells
       have zf:=HT.out.vz.f
       go_wp2
       go_region
       go_wp2
       refine bodyPost_ret (res_row_tmp2 (p:=2) (u:=3) (r:=4) rfl _ _ A _ _ (0,0) _ rfl (putr_row HT.out.vz 0 0 0 ⟨#[]⟩ ⟨#[]⟩) Tryz.underlying88 rfl (by kernel_rfl)) rfl ⟨?_,gb_drew (put5_gb0 HT.out.gb HT.out.le 0 0 0 ⟨#[]⟩ ⟨#[]⟩) 1⟩
       rw [FIN.out];rfl
      | true =>
       have h0:E3=0:=by simpa using hz3
       subst h0
       clear hz3
       have HJ3:Hid (j3<=s.size):=(HK3.out.2.1 rfl).2.2
       have HR3:Hid (R=rest3 l j3 x1 x2 x3):=by
        show R=_
        obtain ⟨e1,e2,-⟩:=HK3.out.2.1 rfl
        have hr:=HRn.out
        rw [if_pos HK3.out.1.symm,<-e1,<-e2] at hr
        exact hr
       clear HK3 HRn
       have CTl:Hid (Calls Tryz.prog 86 #[.pointer (some ⟨A+1,0,none⟩),.pointer (some ⟨A+2,0,none⟩)] U3 fun e w'=>e=.returned (.tuple #[])/\RTailPost (A+1) (A+2) s j3 x1 x2 x3 U3 w'):=CT.out _ _ _ _ _ _ _ _ HJ3.out HU3.out.vs HU3.out.vr (by omega)
       go_wp2_with (first | (go_at_call 86;refine CTl.out.mono ?_))
       rintro e t1 ⟨rfl,j4,E4,c4,P4,B4,hvs,hvr,hg,hE,hok,herr⟩
       have HT:Hid (RV w A s j4 E4 c4 x1 x2 x3 P4 B4 t1):=HU3.out.two hg hvs hvr
       have HK4:Hid (E4=(tailP l j3).1/\(E4=0->P4=⟨(tailP l j3).2.2.1.toArray⟩/\B4=⟨(tailP l j3).2.2.2.toArray⟩/\j4=(tailP l j3).2.1/\j4<=s.size)/\(E4 ≠ 0->c4=(tailP l j3).2.1)):=by rw [HL.out.1];exact ⟨hE,hok,herr⟩
       have HX4:Hid (X=if (tailP l j3).1=0 then (if (tailP l j3).2.1 < l.length then (2,(tailP l j3).2.1,zeroV) else (0,0,⟨x1,x2,x3,(tailP l j3).2.2.1,(tailP l j3).2.2.2⟩)) else ((tailP l j3).1,(tailP l j3).2.1,zeroV)):=by
        show X=_
        have hr:=HR3.out
        unfold rest3 at hr
        rw [HV.out,hr];rfl
       clear hvs hvr hg hE hok herr f0 f1 f2 f3 q0 q1 q2 q3 q4 qf hU3 HV HR3
       cases hz4:(E4 == 0) with
       | false =>
        have HZ:Hid (E4 ≠ 0):=by show E4 ≠ 0;simpa using hz4
        have FIN:Hid (X=(E4,c4,zeroV)):=by
         show X=_
         have h9:¬ (tailP l j3).1=0:=fun e=>HZ.out (HK4.out.1.trans e)
         rw [HX4.out,if_neg h9,<-HK4.out.1,<-HK4.out.2.2 HZ.out]
        have f0:=HT.out.vs.c0
        have f1:=HT.out.vs.c1
        have f2:=HT.out.vs.c2
        have f3:=HT.out.vs.c3
        obtain ⟨z0,z1,z2,z3,z4⟩:=HT.out.vz.cells
        have zf:=HT.out.vz.f
        go_wp2
        go_region
        go_wp2
        refine bodyPost_ret (res_row_tmp2 (p:=2) (u:=3) (r:=4) rfl _ _ A _ _ (0,0) _ rfl (putr_row HT.out.vz 0 0 0 ⟨#[]⟩ ⟨#[]⟩) Tryz.underlying88 rfl (by kernel_rfl)) rfl ⟨?_,gb_drew (put5_gb0 HT.out.gb HT.out.le 0 0 0 ⟨#[]⟩ ⟨#[]⟩) 1⟩
        rw [FIN.out];rfl
       | true =>
        have h0:E4=0:=by simpa using hz4
        subst h0
        clear hz4
        have HK5:Hid (P4=⟨(tailP l j3).2.2.1.toArray⟩/\B4=⟨(tailP l j3).2.2.2.toArray⟩/\j4=(tailP l j3).2.1/\j4<=s.size):=HK4.out.2.1 rfl
        have HX5:Hid (X=if j4 < l.length then (2,j4,zeroV) else (0,0,⟨x1,x2,x3,(tailP l j3).2.2.1,(tailP l j3).2.2.2⟩)):=by
         show X=_
         rw [HX4.out,if_pos HK4.out.1.symm,<-HK5.out.2.2.1]
        clear HK4 HX4
        have f0:=HT.out.vs.c0
        have f1:=HT.out.vs.c1
        have f2:=HT.out.vs.c2
        have f3:=HT.out.vs.c3
        by_cases hlt:j4 < s.size
        ·have hl2:((j4:Nat):Int) < (s.size:Int):=by omega
         have FIN:Hid (X=(2,j4,zeroV)):=by show X=_;rw [HX5.out,if_pos (by rw [HL.out.2];exact hlt)]
         go_wp2_with (first | (go_at_call 87;refine (fail_first (A+1) s j4 c4 2 j4 _ HT.out.vs).mono ?_))
         rintro e t2 ⟨rfl,hvs,hg⟩
         have HT3:Hid (RV w A s j4 2 j4 x1 x2 x3 P4 B4 t2):=HT.out.call hg hvs
         clear hvs hg f0 f1 f2 f3
         have f0:=HT3.out.vs.c0
         have f1:=HT3.out.vs.c1
         have f2:=HT3.out.vs.c2
         have f3:=HT3.out.vs.c3
         obtain ⟨z0,z1,z2,z3,z4⟩:=HT3.out.vz.cells
         have zf:=HT3.out.vz.f
         go_wp2
         go_region
         go_wp2
         refine bodyPost_ret (res_row_tmp2 (p:=2) (u:=3) (r:=4) rfl _ _ A _ _ (0,0) _ rfl (putr_row HT3.out.vz 0 0 0 ⟨#[]⟩ ⟨#[]⟩) Tryz.underlying88 rfl (by kernel_rfl)) rfl ⟨?_,gb_drew (put5_gb0 HT3.out.gb HT3.out.le 0 0 0 ⟨#[]⟩ ⟨#[]⟩) 1⟩
         rw [FIN.out];rfl
        ·have hl2:¬ ((j4:Nat):Int) < (s.size:Int):=by omega
         have FIN:Hid (X=(0,0,⟨x1,x2,x3,(tailP l j3).2.2.1,(tailP l j3).2.2.2⟩)):=by show X=_;rw [HX5.out,if_neg (by rw [HL.out.2];exact hlt)]
         clear hlt
         obtain ⟨z0,z1,z2,z3,z4⟩:=HT.out.vz.cells
         have zf:=HT.out.vz.f
         obtain ⟨q0,q1,q2,q3,q4⟩:=HT.out.vr.cells
         go_wp2
         refine bodyPost_ret (res_row_tmp2 (p:=2) (u:=3) (r:=4) rfl _ _ A _ _ (0,0) _ rfl (putr_row HT.out.vz x1 x2 x3 P4 B4) Tryz.underlying88 rfl (by kernel_rfl)) rfl ⟨?_,put5_gb0 HT.out.gb HT.out.le x1 x2 x3 P4 B4⟩
         rw [FIN.out,HK5.out.1,HK5.out.2.1];rfl
open Go.RowKit
set_option linter.unusedVariables false
theorem info9:(Tryz.prog.info? 9).map (fun i=>(i.zero,i.size,i.bytes))=some (some (.string ⟨#[]⟩),1,16):=by kernel_rfl
def strL (D:List (List UInt8)):List Value:=D.map fun p=>.string ⟨p.toArray⟩
theorem split_end (l:List UInt8) (D:List (List UInt8)) (f:Nat) (h:splitD l=D++splitD (l.drop f)) (hn:∀j,f<=j->j < l.length->l[j]? ≠ some 46):splitD l=D++[subT l f (l.length - f)]:=by
 rw [h,splitD_free (l.drop f)]
 ·congr 2
  unfold subT
  exact (List.take_of_length_le (by simp)).symm
 ·intro c hc e
  obtain ⟨j,hj,rfl⟩:=List.getElem_of_mem hc
  simp only [List.length_drop] at hj
  refine hn (f+j) (by omega) (by omega) ?_
  rw [<-List.getElem?_drop,List.getElem?_eq_getElem (by simp;omega),e]
theorem split_dot (l:List UInt8) (D:List (List UInt8)) (f i:Nat) (hfi:f<=i) (hi:l[i]?=some 46) (h:splitD l=D++splitD (l.drop f)) (hn:∀j,f<=j->j < i->l[j]? ≠ some 46):splitD l=(D++[subT l f (i - f)])++splitD (l.drop (i+1)):=by
 obtain ⟨hlt,e⟩:=List.getElem?_eq_some_iff.1 hi
 have hd:l.drop f=subT l f (i - f)++46 :: l.drop (i+1):=by
  have h1:l.drop f=subT l f (i - f)++l.drop i:=by
   unfold subT
   have:=List.take_append_drop (i - f) (l.drop f)
   rw [List.drop_drop,show f+(i - f)=i by omega] at this
   exact this.symm
  rw [h1,List.drop_eq_getElem_cons hlt,e]
 rw [h,hd,splitD_dot]
 ·simp
 ·intro c hc e
  obtain ⟨j,hj,rfl⟩:=List.getElem_of_mem hc
  have hjl:j < i - f:=by unfold subT at hj;simp at hj;omega
  refine hn (f+j) (by omega) (by omega) ?_
  have:(subT l f (i - f))[j]?=some 46:=by rw [List.getElem?_eq_getElem hj,e]
  unfold subT at this
  rw [List.getElem?_take_of_lt hjl,List.getElem?_drop] at this
  exact this
def SplitPost (l:List UInt8) (w:World) (e:Ending) (w':World):Prop:=∃v,e=.returned v/\w'.ownsRow w.heap.size 9 1 v (splitD l).length (strL (splitD l))/\Below w.heap.size w w'
set_option maxHeartbeats 800000 in
theorem split_any (s:ByteArray) (w:World) (hs:s.size<=1048576) :
  Calls Tryz.prog 103 #[.string s] w (SplitPost s.data.toList w):=by
 obtain ⟨i0,hi,hz0,hz1,hzb⟩:=info_parts info9
 obtain ⟨l,hl⟩:∃l,l=s.data.toList:=⟨_,rfl⟩
 have hll:l.length=s.size:=by rw [hl];simp
 rw [<-hl]
 go_enter Tryz.func103,Tryz.ntmps103
 go_wp2
 go_loopw [3,4,5] (fun vo vf vi wr=>∃(D:List (List UInt8)) (f i:Nat),vf=.int .i64 f/\vi=.int .i64 i/\wr.ownsRow w.heap.size 9 1 vo D.length (strL D)/\Below w.heap.size w wr/\D.length<=i/\f<=s.size+1/\((i<=s.size/\f<=i/\splitD l=D++splitD (l.drop f)/\∀j,f<=j->j < i->l[j]? ≠ some 46)\/(i=s.size+1/\D=splitD l))) (fun _ _ vi _=>s.size+1 - (intOf vi).toNat)
 case atStart=>exact ⟨[],0,0,rfl,rfl,World.ownsRow_nil _ _ _ _,Below.refl _ _,Nat.le_refl _,by omega,Or.inl ⟨by omega,Nat.le_refl _,by simp,fun j _ h=>by omega⟩⟩
 case round =>
  obtain ⟨D,f,i,rfl,rfl,hrow,hbl,hD,hf,hcase⟩:=hrel
  have hzz:=hbl.size
  rcases hcase with ⟨hi1,hfi,hsp,hno⟩ | ⟨hi2,hDe⟩
  ·have HSP:Hid (splitD l=D++splitD (l.drop f)/\∀j,f<=j->j < i->l[j]? ≠ some 46):=⟨hsp,hno⟩
   clear hsp hno
   by_cases hlt:i < s.size
   ·have hne:((i:Int) == (s.size:Int))=false:=by simp;omega
    cases hz:((s[i].toNat:Int) == 46) with
    | true =>
     have hc:l[i]?=some 46:=by
      rw [hl,get_data s i hlt]
      have:s[i]=46:=UInt8.toNat_inj.1 (by have:=eq_of_beq hz;have e46:(46:UInt8).toNat=46:=rfl;omega)
      rw [this]
     obtain ⟨X,hX⟩:∃X:ByteArray,X=⟨(subT l f (i - f)).toArray⟩:=⟨_,rfl⟩
     have HN:Hid (splitD l=(D++[subT l f (i - f)])++splitD (l.drop (i+1))):=split_dot l D f i hfi hc HSP.out.1 HSP.out.2
     have HX:Hid (strL (D++[subT l f (i - f)])=strL D++[.string X]):=by
      show strL _=_
      rw [hX];simp [strL]
     have sl:∀wx,(Instr.slice 9 (.string s) (some (.int .i64 (f:Int))) (some (.int .i64 (i:Int))) none).run Tryz.prog wx=.ok (.string X) wx:=fun wx=>by rw [hX,hl];exact run_sub s f i hfi (by omega) wx
     have HB:Hid (D.length<=i/\i < s.size):=⟨hD,hlt⟩
     clear hX hc HSP hfi hl
     go_wp2_with (first | (at_builtin;refine wpList_append_own _ rfl _ _ 40 rfl w.heap.size 9 i0 (.string ⟨#[]⟩) 1 16 Tryz.underlying40 hi hz0 hz1 hzb rfl (by decide) _ _ _ rfl (hrow.alloc _) ⟨wr.heap.size,0,none⟩ 1 1 [.string X] rfl rfl (cell_one_new _ _ _) (by simp [Value.oneCell']) (by unfold maxLen;omega) (by omega) (by simp;omega) ?_;intro v' w1 hown' hgrow _))
     have hb1:Below w.heap.size w w1:=(hbl.alloc hzz _).grown hgrow (by simp;omega) (fun q hq=>(hrow.lt q hq).1)
     have hB:=HB.out
     refine ⟨⟨D++[subT l f (i - f)],i+1,i+1,rfl,rfl,by rw [HX.out];simpa using hown',hb1,by simp;omega,by omega,Or.inl ⟨by omega,Nat.le_refl _,HN.out,fun j h1 h2=>by omega⟩⟩,?_⟩
     simp [intOf];omega
    | false =>
     have HN:Hid (l[i]? ≠ some 46):=by
      show l[i]? ≠ some 46
      rw [hl,get_data s i hlt]
      intro e
      have e':s[i]=46:=Option.some.inj e
      rw [e'] at hz
      exact absurd hz (by decide)
     have HF:Hid (f<=i/\D.length<=i/\f<=s.size+1):=⟨hfi,hD,hf⟩
     have HO:Hid (wr.ownsRow w.heap.size 9 1 u3 D.length (strL D)):=hrow
     have HB:Hid (Below w.heap.size w wr):=hbl
     clear hfi hD hf hrow hbl hl
     go_wp2
     go_roundw
     case rel =>
      have hF:=HF.out
      refine ⟨D,f,i+1,rfl,by go_num,HO.out,HB.out,by omega,hF.2.2,Or.inl ⟨by omega,by omega,HSP.out.1,fun j h1 h2=>?_⟩⟩
      by_cases hj:j < i
      ·exact HSP.out.2 j h1 hj
      ·have:j=i:=by omega
       rw [this];exact HN.out
     case measure=>simp [intOf];omega
   ·have hie:i=s.size:=by omega
    subst hie
    have hne:((s.size:Int) == (s.size:Int))=true:=by simp
    obtain ⟨X,hX⟩:∃X:ByteArray,X=⟨(subT l f (s.size - f)).toArray⟩:=⟨_,rfl⟩
    have HN:Hid (splitD l=D++[subT l f (s.size - f)]):=by
     have:=split_end l D f HSP.out.1 (fun j h1 h2=>HSP.out.2 j h1 (by omega))
     rw [hll] at this;exact this
    have HX:Hid (strL (D++[subT l f (s.size - f)])=strL D++[.string X]):=by
     show strL _=_
     rw [hX];simp [strL]
    have sl:∀wx,(Instr.slice 9 (.string s) (some (.int .i64 (f:Int))) (some (.int .i64 (s.size:Int))) none).run Tryz.prog wx=.ok (.string X) wx:=fun wx=>by rw [hX,hl];exact run_sub s f s.size hfi (by omega) wx
    clear hX HSP hfi hl
    go_wp2_with (first | (at_builtin;refine wpList_append_own _ rfl _ _ 40 rfl w.heap.size 9 i0 (.string ⟨#[]⟩) 1 16 Tryz.underlying40 hi hz0 hz1 hzb rfl (by decide) _ _ _ rfl (hrow.alloc _) ⟨wr.heap.size,0,none⟩ 1 1 [.string X] rfl rfl (cell_one_new _ _ _) (by simp [Value.oneCell']) (by unfold maxLen;omega) (by omega) (by simp;omega) ?_;intro v' w1 hown' hgrow _))
    have hb1:Below w.heap.size w w1:=(hbl.alloc hzz _).grown hgrow (by simp;omega) (fun q hq=>(hrow.lt q hq).1)
    refine ⟨⟨D++[subT l f (s.size - f)],s.size+1,s.size+1,rfl,rfl,by rw [HX.out];simpa using hown',hb1,by simp;omega,by omega,Or.inr ⟨rfl,HN.out.symm⟩⟩,?_⟩
    simp [intOf]
  ·have hgt:¬ i<=s.size:=by omega
   clear hi2 hll hs
   have HO:Hid (wr.ownsRow w.heap.size 9 1 u3 D.length (strL D)):=hrow
   have HB:Hid (Below w.heap.size w wr):=hbl
   have HDE:Hid (D=splitD l):=hDe
   clear hrow hbl hDe hD hf hzz hl
   go_wp2
   refine bodyPost_ret (results_tmp (t:=2) rfl _ _ _) rfl ⟨u3,rfl,?_,HB.out⟩
   rw [<-HDE.out]
   exact HO.out
end Go.Proofs.YtpeghomkaphdcaaGreatDoor
namespace Go.Proofs
open Go.Shelf
def Tryz.lays122_ren:Go.Shelf.Ren:=⟨fun | 122=>101 | 215=>129 | n=>n,fun | 22=>130 | 23=>190 | 24=>110 | 25=>111 | 27=>79 | 28=>165 | 31=>40 | 32=>112 | 33=>90 | 37=>53 | 40=>215 | 41=>95 | 42=>153 | 43=>109 | 46=>102 | 47=>101 | 48=>98 | 51=>134 | 52=>133 | 53=>136 | 54=>135 | 55=>204 | 59=>167 | 60=>168 | 63=>207 | 64=>210 | 67=>94 | 68=>143 | 69=>67 | 70=>52 | 71=>54 | 72=>55 | 73=>116 | 74=>63 | 75=>64 | 76=>65 | 77=>66 | 80=>68 | 81=>120 | 83=>81 | 84=>115 | 100=>84 | 101=>49 | 102=>70 | 103=>39 | 104=>83 | 105=>205 | 106=>206 | 111=>166 | 114=>175 | 115=>196 | 116=>197 | 117=>198 | 118=>199 | 119=>211 | 122=>195 | 123=>200 | 124=>201 | 127=>85 | 131=>72 | 135=>100 | 137=>212 | 138=>213 | 139=>214 | 146=>208 | 151=>209 | 164=>103 | 165=>104 | 166=>179 | 171=>149 | 172=>150 | 173=>151 | 174=>152 | 182=>126 | 183=>127 | 188=>125 | 189=>128 | 190=>129 | 191=>131 | 192=>132 | 211=>176 | 212=>177 | 213=>178 | 218=>154 | 219=>155 | 220=>156 | 222=>158 | 224=>157 | 225=>159 | 228=>180 | 229=>181 | 231=>182 | 232=>202 | 233=>203 | 238=>216 | 239=>217 | 240=>218 | 241=>219 | 242=>220 | 243=>221 | 244=>222 | 245=>223 | 246=>224 | 247=>225 | 248=>226 | 249=>227 | n=>n,fun | 3=>4 | 4=>5 | 17=>0 | 18=>2 | 19=>3 | n=>n⟩
set_option maxRecDepth 100000 in
theorem Tryz.lays122:Go.Proofs.Lays.n122 Tryz.prog Tryz.lays122_ren:={
 mixed:=by kernel_rfl
 f122:=Tryz.func101.trans (congrArg some (by kernel_rfl))
 f215:=Tryz.func129.trans (congrArg some (by kernel_rfl))
 t3:=Tryz.underlying3
 a3:=Tryz.isAgg3
 z3:=Tryz.sizeOf3
 v3:=Tryz.zeroValue3
 t4:=Tryz.underlying4
 a4:=Tryz.isAgg4
 z4:=Tryz.sizeOf4
 v4:=Tryz.zeroValue4 }
def Tryz.lays161_ren:Go.Shelf.Ren:=⟨fun | 119=>181 | 137=>180 | 151=>175 | 152=>179 | 161=>151 | 197=>174 | 217=>169 | 224=>171 | 225=>170 | 227=>163 | 228=>173 | 231=>162 | 233=>164 | 235=>165 | 260=>178 | 266=>176 | n=>n,fun | 22=>130 | 23=>190 | 24=>110 | 25=>111 | 27=>79 | 28=>165 | 31=>40 | 32=>112 | 33=>90 | 37=>53 | 40=>215 | 41=>95 | 42=>153 | 43=>109 | 46=>102 | 47=>101 | 48=>98 | 51=>134 | 52=>133 | 53=>136 | 54=>135 | 55=>204 | 59=>167 | 60=>168 | 63=>207 | 64=>210 | 67=>94 | 68=>143 | 69=>67 | 70=>52 | 71=>54 | 72=>55 | 73=>116 | 74=>63 | 75=>64 | 76=>65 | 77=>66 | 80=>68 | 81=>120 | 83=>81 | 84=>115 | 100=>84 | 101=>49 | 102=>70 | 103=>39 | 104=>83 | 105=>205 | 106=>206 | 111=>166 | 114=>175 | 115=>196 | 116=>197 | 117=>198 | 118=>199 | 119=>211 | 122=>195 | 123=>200 | 124=>201 | 127=>85 | 131=>72 | 135=>100 | 137=>212 | 138=>213 | 139=>214 | 146=>208 | 151=>209 | 164=>103 | 165=>104 | 166=>179 | 171=>149 | 172=>150 | 173=>151 | 174=>152 | 182=>126 | 183=>127 | 188=>125 | 189=>128 | 190=>129 | 191=>131 | 192=>132 | 211=>176 | 212=>177 | 213=>178 | 218=>154 | 219=>155 | 220=>156 | 222=>158 | 224=>157 | 225=>159 | 228=>180 | 229=>181 | 231=>182 | 232=>202 | 233=>203 | 238=>216 | 239=>217 | 240=>218 | 241=>219 | 242=>220 | 243=>221 | 244=>222 | 245=>223 | 246=>224 | 247=>225 | 248=>226 | 249=>227 | n=>n,fun | 3=>4 | 4=>5 | 17=>0 | 18=>2 | 19=>3 | n=>n⟩
set_option maxRecDepth 100000 in
theorem Tryz.lays161:Go.Proofs.Lays.n161 Tryz.prog Tryz.lays161_ren:={
 mixed:=by kernel_rfl
 f119:=Tryz.func181.trans (congrArg some (by kernel_rfl))
 f137:=Tryz.func180.trans (congrArg some (by kernel_rfl))
 f151:=Tryz.func175.trans (congrArg some (by kernel_rfl))
 f152:=Tryz.func179.trans (congrArg some (by kernel_rfl))
 f161:=Tryz.func151.trans (congrArg some (by kernel_rfl))
 f197:=Tryz.func174.trans (congrArg some (by kernel_rfl))
 f217:=Tryz.func169.trans (congrArg some (by kernel_rfl))
 f224:=Tryz.func171.trans (congrArg some (by kernel_rfl))
 f225:=Tryz.func170.trans (congrArg some (by kernel_rfl))
 f227:=Tryz.func163.trans (congrArg some (by kernel_rfl))
 f228:=Tryz.func173.trans (congrArg some (by kernel_rfl))
 f231:=Tryz.func162.trans (congrArg some (by kernel_rfl))
 f233:=Tryz.func164.trans (congrArg some (by kernel_rfl))
 f235:=Tryz.func165.trans (congrArg some (by kernel_rfl))
 f260:=Tryz.func178.trans (congrArg some (by kernel_rfl))
 f266:=Tryz.func176.trans (congrArg some (by kernel_rfl))
 t0:=Tryz.underlying0
 a0:=Tryz.isAgg0
 z0:=Tryz.sizeOf0
 v0:=Tryz.zeroValue0
 t3:=Tryz.underlying3
 a3:=Tryz.isAgg3
 z3:=Tryz.sizeOf3
 v3:=Tryz.zeroValue3
 t4:=Tryz.underlying4
 a4:=Tryz.isAgg4
 z4:=Tryz.sizeOf4
 v4:=Tryz.zeroValue4
 t5:=Tryz.underlying5
 a5:=Tryz.isAgg5
 z5:=Tryz.sizeOf5
 v5:=Tryz.zeroValue5
 t9:=Tryz.underlying9
 a9:=Tryz.isAgg9
 z9:=Tryz.sizeOf9
 v9:=Tryz.zeroValue9
 t21:=Tryz.underlying21
 a21:=Tryz.isAgg21
 z21:=Tryz.sizeOf21
 v21:=Tryz.zeroValue21
 t46:=Tryz.underlying102
 a46:=Tryz.isAgg102
 z46:=Tryz.sizeOf102
 v46:=Tryz.zeroValue102
 t105:=Tryz.underlying205
 a105:=Tryz.isAgg205
 z105:=Tryz.sizeOf205
 v105:=Tryz.zeroValue205
 t116:=Tryz.underlying197
 a116:=Tryz.isAgg197
 z116:=Tryz.sizeOf197
 t117:=Tryz.underlying198
 a117:=Tryz.isAgg198
 z117:=Tryz.sizeOf198
 v117:=Tryz.zeroValue198
 t119:=Tryz.underlying211
 a119:=Tryz.isAgg211
 z119:=Tryz.sizeOf211
 t124:=Tryz.underlying201
 a124:=Tryz.isAgg201
 z124:=Tryz.sizeOf201
 v124:=Tryz.zeroValue201
 t138:=Tryz.underlying213
 a138:=Tryz.isAgg213
 z138:=Tryz.sizeOf213
 v138:=Tryz.zeroValue213
 t139:=Tryz.underlying214
 a139:=Tryz.isAgg214
 z139:=Tryz.sizeOf214
 v139:=Tryz.zeroValue214
 g3:=by kernel_rfl
 g4:=by kernel_rfl }
def Tryz.lays219_ren:Go.Shelf.Ren:=⟨fun | 217=>169 | 219=>161 | 224=>171 | 225=>170 | 266=>176 | 267=>172 | 314=>177 | n=>n,fun | 22=>130 | 23=>190 | 24=>110 | 25=>111 | 27=>79 | 28=>165 | 31=>40 | 32=>112 | 33=>90 | 37=>53 | 40=>215 | 41=>95 | 42=>153 | 43=>109 | 46=>102 | 47=>101 | 48=>98 | 51=>134 | 52=>133 | 53=>136 | 54=>135 | 55=>204 | 59=>167 | 60=>168 | 63=>207 | 64=>210 | 67=>94 | 68=>143 | 69=>67 | 70=>52 | 71=>54 | 72=>55 | 73=>116 | 74=>63 | 75=>64 | 76=>65 | 77=>66 | 80=>68 | 81=>120 | 83=>81 | 84=>115 | 100=>84 | 101=>49 | 102=>70 | 103=>39 | 104=>83 | 105=>205 | 106=>206 | 111=>166 | 114=>175 | 115=>196 | 116=>197 | 117=>198 | 118=>199 | 119=>211 | 122=>195 | 123=>200 | 124=>201 | 127=>85 | 131=>72 | 135=>100 | 137=>212 | 138=>213 | 139=>214 | 146=>208 | 151=>209 | 164=>103 | 165=>104 | 166=>179 | 171=>149 | 172=>150 | 173=>151 | 174=>152 | 182=>126 | 183=>127 | 188=>125 | 189=>128 | 190=>129 | 191=>131 | 192=>132 | 211=>176 | 212=>177 | 213=>178 | 218=>154 | 219=>155 | 220=>156 | 222=>158 | 224=>157 | 225=>159 | 228=>180 | 229=>181 | 231=>182 | 232=>202 | 233=>203 | 238=>216 | 239=>217 | 240=>218 | 241=>219 | 242=>220 | 243=>221 | 244=>222 | 245=>223 | 246=>224 | 247=>225 | 248=>226 | 249=>227 | n=>n,fun | 3=>4 | 4=>5 | 17=>0 | 18=>2 | 19=>3 | n=>n⟩
set_option maxRecDepth 100000 in
theorem Tryz.lays219:Go.Proofs.Lays.n219 Tryz.prog Tryz.lays219_ren:={
 mixed:=by kernel_rfl
 f217:=Tryz.func169.trans (congrArg some (by kernel_rfl))
 f219:=Tryz.func161.trans (congrArg some (by kernel_rfl))
 f224:=Tryz.func171.trans (congrArg some (by kernel_rfl))
 f225:=Tryz.func170.trans (congrArg some (by kernel_rfl))
 f266:=Tryz.func176.trans (congrArg some (by kernel_rfl))
 f267:=Tryz.func172.trans (congrArg some (by kernel_rfl))
 f314:=Tryz.func177.trans (congrArg some (by kernel_rfl))
 t3:=Tryz.underlying3
 a3:=Tryz.isAgg3
 z3:=Tryz.sizeOf3
 v3:=Tryz.zeroValue3
 t4:=Tryz.underlying4
 a4:=Tryz.isAgg4
 z4:=Tryz.sizeOf4
 v4:=Tryz.zeroValue4
 t5:=Tryz.underlying5
 a5:=Tryz.isAgg5
 z5:=Tryz.sizeOf5
 v5:=Tryz.zeroValue5
 t9:=Tryz.underlying9
 a9:=Tryz.isAgg9
 z9:=Tryz.sizeOf9
 v9:=Tryz.zeroValue9
 t46:=Tryz.underlying102
 a46:=Tryz.isAgg102
 z46:=Tryz.sizeOf102
 v46:=Tryz.zeroValue102
 t51:=Tryz.underlying134
 a51:=Tryz.isAgg134
 z51:=Tryz.sizeOf134
 v51:=Tryz.zeroValue134
 t146:=Tryz.underlying208
 a146:=Tryz.isAgg208
 z146:=Tryz.sizeOf208
 v146:=Tryz.zeroValue208
 g1:=by kernel_rfl }
end Go.Proofs
