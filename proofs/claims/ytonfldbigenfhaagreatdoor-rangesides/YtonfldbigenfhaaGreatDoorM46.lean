import Derived.Test.YtonfldbigenfhaaGreatDoorM29
import Derived.Test.YtonfldbigenfhaaGreatDoorM27
namespace Go.Proofs.YtonfldbigenfhaaGreatDoor
open Go.RowKit
set_option linter.unusedVariables false
structure RV (w:World) (A:Nat) (s:ByteArray) (j:Nat) (E:Int) (c:Nat) (y1 y2 y3:Int) (P B:ByteArray) (u:World):Prop where
 vs:VS (A+1) s j E c u
 vr:VR (A+2) y1 y2 y3 P B u
 vz:VR A 0 0 0 ⟨#[]⟩ ⟨#[]⟩ u
 gb:w.grownBy u none
 le:w.heap.size<=A
theorem RV.drew {w:World} {A:Nat} {s:ByteArray} {j:Nat} {E:Int} {c:Nat} {y1 y2 y3:Int} {P B:ByteArray} {u:World} (h:RV w A s j E c y1 y2 y3 P B u) (n:Nat):RV w A s j E c y1 y2 y3 P B (u.drewN n) :=
 ⟨h.vs.drew n,h.vr,h.vz,gb_drew h.gb n,h.le⟩
theorem RV.call {w:World} {A:Nat} {s:ByteArray} {j:Nat} {E:Int} {c:Nat} {y1 y2 y3:Int} {P B:ByteArray} {u u':World} (h:RV w A s j E c y1 y2 y3 P B u) (hg:u.grownBy u' (some (A+1))) {j':Nat} {E':Int} {c':Nat} (hv:VS (A+1) s j' E' c' u'):RV w A s j' E' c' y1 y2 y3 P B u' :=
 ⟨hv,h.vr.grow hg (by omega),h.vz.grow hg (by omega),⟨hg.os.trans h.gb.os,hg.tape.trans h.gb.tape,hg.output.trans h.gb.output,Nat.le_trans h.gb.size hg.size,fun k hk _=>(hg.block k (Nat.lt_of_lt_of_le hk h.gb.size) (by have:=h.le;simp;omega)).trans (h.gb.block k hk (by simp))⟩,h.le⟩
theorem RV.two {w:World} {A:Nat} {s:ByteArray} {j:Nat} {E:Int} {c:Nat} {y1 y2 y3:Int} {P B:ByteArray} {u u':World} (h:RV w A s j E c y1 y2 y3 P B u) (hg:G2 (A+1) (A+2) u u') {j':Nat} {E':Int} {c':Nat} {P' B':ByteArray} (hv:VS (A+1) s j' E' c' u') (hr:VR (A+2) y1 y2 y3 P' B' u'):RV w A s j' E' c' y1 y2 y3 P' B' u' :=
 ⟨hv,hr,by have:=h.vz;unfold VR at this ⊢;rw [hg.block A ((Array.getElem?_eq_some_iff.1 this).1) (by omega) (by omega)];exact this,⟨hg.os.trans h.gb.os,hg.tape.trans h.gb.tape,hg.output.trans h.gb.output,Nat.le_trans h.gb.size hg.size,fun k hk _=>(hg.block k (Nat.lt_of_lt_of_le hk h.gb.size) (by have:=h.le;omega) (by have:=h.le;omega)).trans (h.gb.block k hk (by simp))⟩,h.le⟩
theorem VR.set0 {v:Nat} {y1 y2 y3:Int} {x4 x5:ByteArray} {w:World} (h:VR v y1 y2 y3 x4 x5 w) (z:Int):VR v z y2 y3 x4 x5 (w.setCell ⟨v,0,none⟩ (.int .i64 z)):=by
 unfold VR at h ⊢;simp [World.setCell,Array.getElem?_modify,h]
theorem VR.set1 {v:Nat} {y1 y2 y3:Int} {x4 x5:ByteArray} {w:World} (h:VR v y1 y2 y3 x4 x5 w) (z:Int):VR v y1 z y3 x4 x5 (w.setCell ⟨v,1,none⟩ (.int .i64 z)):=by
 unfold VR at h ⊢;simp [World.setCell,Array.getElem?_modify,h]
theorem VR.set2 {v:Nat} {y1 y2 y3:Int} {x4 x5:ByteArray} {w:World} (h:VR v y1 y2 y3 x4 x5 w) (z:Int):VR v y1 y2 z x4 x5 (w.setCell ⟨v,2,none⟩ (.int .i64 z)):=by
 unfold VR at h ⊢;simp [World.setCell,Array.getElem?_modify,h]
theorem RV.put0 {w:World} {A:Nat} {s:ByteArray} {j:Nat} {E:Int} {c:Nat} {y1 y2 y3:Int} {P B:ByteArray} {u:World} (h:RV w A s j E c y1 y2 y3 P B u) (x:Int):RV w A s j E c x y2 y3 P B (u.setCell ⟨A+2,0,none⟩ (.int .i64 x)) :=
 ⟨h.vs.other (by omega) _ _,h.vr.set0 x,h.vz.other (by omega) _ _,gb_new0 h.gb (by have:=h.le;omega) _ _,h.le⟩
theorem RV.put1 {w:World} {A:Nat} {s:ByteArray} {j:Nat} {E:Int} {c:Nat} {y1 y2 y3:Int} {P B:ByteArray} {u:World} (h:RV w A s j E c y1 y2 y3 P B u) (x:Int):RV w A s j E c y1 x y3 P B (u.setCell ⟨A+2,1,none⟩ (.int .i64 x)) :=
 ⟨h.vs.other (by omega) _ _,h.vr.set1 x,h.vz.other (by omega) _ _,gb_new0 h.gb (by have:=h.le;omega) _ _,h.le⟩
theorem RV.put2 {w:World} {A:Nat} {s:ByteArray} {j:Nat} {E:Int} {c:Nat} {y1 y2 y3:Int} {P B:ByteArray} {u:World} (h:RV w A s j E c y1 y2 y3 P B u) (x:Int):RV w A s j E c y1 y2 x P B (u.setCell ⟨A+2,2,none⟩ (.int .i64 x)) :=
 ⟨h.vs.other (by omega) _ _,h.vr.set2 x,h.vz.other (by omega) _ _,gb_new0 h.gb (by have:=h.le;omega) _ _,h.le⟩
theorem RV.born (w:World) (s:ByteArray):RV w w.heap.size s 0 0 0 0 0 0 ⟨#[]⟩ ⟨#[]⟩ (((w.alloc (.cells #[.int .i64 0,.int .i64 0,.int .i64 0,.string ⟨#[]⟩,.string ⟨#[]⟩] 39)).alloc (.cells #[.string s,.int .i64 0,.int .i64 0,.int .i64 0] 71)).alloc (.cells #[.int .i64 0,.int .i64 0,.int .i64 0,.string ⟨#[]⟩,.string ⟨#[]⟩] 39)):=by
 refine ⟨?_,?_,?_,gb_alloc (gb_alloc (gb_alloc (gb_refl w none) _) _) _,Nat.le_refl _⟩
 ·unfold VS
  rw [Lib.alloc_old _ _ _ (by simp)]
  exact row2 w _ _
 ·unfold VR
  have:=row2 (w.alloc (.cells #[.int .i64 0,.int .i64 0,.int .i64 0,.string ⟨#[]⟩,.string ⟨#[]⟩] 39)) (.cells #[.string s,.int .i64 0,.int .i64 0,.int .i64 0] 71) (.cells #[.int .i64 0,.int .i64 0,.int .i64 0,.string ⟨#[]⟩,.string ⟨#[]⟩] 39)
  simpa using this
 ·unfold VR
  rw [Lib.alloc_old _ _ _ (by simp;omega),Lib.alloc_old _ _ _ (by simp)]
  exact heap_alloc_new w _
set_option maxRecDepth 100000 in
set_option maxHeartbeats 6400000 in
theorem readv_any (s:ByteArray) (w:World) (hs:s.size < 2 ^ 62) :
  Calls Tryz.prog 31 #[.string s] w fun e w'=>e=.returned (.tuple #[valV (parseV s.data.toList).2.2,.int .i64 (parseV s.data.toList).1,.int .i64 ((parseV s.data.toList).2.1:Nat)])/\w.grownBy w' none:=by
 by_cases h100:100 < s.size
 ·have hp:parseV s.data.toList=(1,0,zeroV):=by unfold parseV;rw [if_pos (by simpa using h100)]
  rw [hp]
  clear hp
  go_enter Tryz.func31,Tryz.ntmps31
  go_wp2
  exact bodyPost_ret (res_row_tmp2 (p:=2) (u:=3) (r:=4) rfl _ _ w.heap.size _ _ (0,0) _ rfl (heap_alloc_new w _) Tryz.underlying39 rfl (by kernel_rfl)) rfl ⟨rfl,gb_alloc (gb_refl w none) _⟩
 ·have hp:parseV s.data.toList=rdVer s.data.toList:=by unfold parseV;rw [if_neg (by simpa using h100)]
  rw [hp]
  clear hp
  obtain ⟨l,hl⟩:∃l,l=s.data.toList:=⟨_,rfl⟩
  have HL:Hid (l=s.data.toList/\l.length=s.size):=⟨hl,by rw [hl];simp⟩
  have CN:Hid (∀b i a w,i<=s.size->VS b s i 0 a w->Calls Tryz.prog 53 #[.pointer (some ⟨b,0,none⟩)] w (NumPost b s i w)):=fun b i a w hi h=>rnum_any b s i a w hi h hs
  have MY:Hid (∀b i a w,l[i]?=some 46->VS b s i 0 a w->Calls Tryz.prog 54 #[.pointer (some ⟨b,0,none⟩),.int .u8 46] w fun e w'=>e=.returned (.tuple #[])/\VS b s (i+1) 0 a w'/\w.grownBy w' (some b)):=fun b i a w hc h=>must_yes b s i 0 a 46 w (by rw [<-hl];exact hc) h hs
  have MN:Hid (∀b i a w,i<=s.size->¬ l[i]?=some 46->VS b s i 0 a w->Calls Tryz.prog 54 #[.pointer (some ⟨b,0,none⟩),.int .u8 46] w fun e w'=>e=.returned (.tuple #[])/\VS b s i 2 i w'/\w.grownBy w' (some b)):=fun b i a w hi hc h=>must_no b s i a 46 w hi (by rw [<-hl];exact hc) h hs
  have CT:Hid (∀b v i a y1 y2 y3 w,i<=s.size->VS b s i 0 a w->VR v y1 y2 y3 ⟨#[]⟩ ⟨#[]⟩ w->b ≠ v->Calls Tryz.prog 55 #[.pointer (some ⟨b,0,none⟩),.pointer (some ⟨v,0,none⟩)] w fun e w'=>e=.returned (.tuple #[])/\RTailPost b v s i y1 y2 y3 w w'):=fun b v i a y1 y2 y3 w hi h1 h2 h3=>rtail_any b v s i a y1 y2 y3 w hi h1 h2 h3 hs
  have HB:Hid (RV w w.heap.size s 0 0 0 0 0 0 ⟨#[]⟩ ⟨#[]⟩ (((w.alloc (.cells #[.int .i64 0,.int .i64 0,.int .i64 0,.string ⟨#[]⟩,.string ⟨#[]⟩] 39)).alloc (.cells #[.string s,.int .i64 0,.int .i64 0,.int .i64 0] 71)).alloc (.cells #[.int .i64 0,.int .i64 0,.int .i64 0,.string ⟨#[]⟩,.string ⟨#[]⟩] 39))):=RV.born w s
  have hver:=ver_tail l
  have hnr:=nums_rest l
  obtain ⟨R,hR⟩:∃R,rdNums l=R:=⟨_,rfl⟩
  obtain ⟨X,hX⟩:∃X,rdVer l=X:=⟨_,rfl⟩
  rw [hR] at hver hnr
  rw [hX] at hver
  rw [<-hl,hX]
  have HV:Hid (X=if R.1=0 then (if (tailP l R.2.1).1=0 then (if (tailP l R.2.1).2.1 < l.length then (2,(tailP l R.2.1).2.1,zeroV) else (0,0,⟨R.2.2.1,R.2.2.2.1,R.2.2.2.2,(tailP l R.2.1).2.2.1,(tailP l R.2.1).2.2.2⟩)) else ((tailP l R.2.1).1,(tailP l R.2.1).2.1,zeroV)) else (R.1,R.2.1,zeroV)):=hver
  have HR0:Hid (R=if (rdNum l 0).1=0 then rest1 l (rdNum l 0).2.2 (rdNum l 0).2.1 else ((rdNum l 0).1,(rdNum l 0).2.2,0,0,0)):=hnr
  have HS:Hid (s.size < 2 ^ 62):=hs
  clear hl hver hnr hR hX hs
  go_enter Tryz.func31,Tryz.ntmps31
  go_wp2_with (go_at_call 53;refine (CN.out _ 0 0 _ (Nat.zero_le _) HB.out.vs).mono ?_)
  rintro e u1 ⟨x1,j1,E1,c1,rfl,hvs,hg,hE,hok,herr⟩
  obtain ⟨A,hA⟩:∃A,w.heap.size=A:=⟨_,rfl⟩
  rw [hA] at HB hvs hg
  rw [hA]
  have HA1:Hid (RV w A s j1 E1 c1 0 0 0 ⟨#[]⟩ ⟨#[]⟩ u1):=HB.out.call hg hvs
  have HK1:Hid (E1=(rdNum l 0).1/\(E1=0->x1=(rdNum l 0).2.1/\j1=(rdNum l 0).2.2/\j1<=s.size)/\(E1 ≠ 0->c1=(rdNum l 0).2.2)):=by rw [HL.out.1];exact ⟨hE,hok,herr⟩
  clear hA hvs hg hE hok herr HB
  obtain ⟨U1,hU1⟩:∃U,u1.setCell ⟨A+2,0,none⟩ (.int .i64 x1)=U:=⟨_,rfl⟩
  have HU1:Hid (RV w A s j1 E1 c1 x1 0 0 ⟨#[]⟩ ⟨#[]⟩ U1):=by show RV _ _ _ _ _ _ _ _ _ _ _ U1;rw [<-hU1];exact HA1.out.put0 x1
  obtain ⟨q0,q1,q2,q3,q4⟩:=HA1.out.vr.cells
  have qf:=HA1.out.vr.f
  have f0:=HU1.out.vs.c0
  have f1:=HU1.out.vs.c1
  have f2:=HU1.out.vs.c2
  have f3:=HU1.out.vs.c3
  cases hz1:(E1 == 0) with
  | false =>
   have HZ:Hid (E1 ≠ 0):=by show E1 ≠ 0;simpa using hz1
   have FIN:Hid (X=(E1,c1,zeroV)):=by
    show X=_
    have h9:¬ (rdNum l 0).1=0:=fun e=>HZ.out (HK1.out.1.trans e)
    have hr:=HR0.out
    rw [if_neg h9,<-HK1.out.1,<-HK1.out.2.2 HZ.out] at hr
    rw [HV.out,hr,if_neg HZ.out]
   go_wp2_with (first | (go_at_call 55;refine (rtail_skip (A+1) (A+2) s j1 E1 HZ.out c1 _ HU1.out.vs).mono ?_))
   rintro e t1 ⟨rfl,n,hn⟩
   have HT:Hid (RV w A s j1 E1 c1 x1 0 0 ⟨#[]⟩ ⟨#[]⟩ t1):=by show RV _ _ _ _ _ _ _ _ _ _ _ t1;rw [hn];exact HU1.out.drew n
   clear hn f0 f1 f2 f3
   have f0:=HT.out.vs.c0
   have f1:=HT.out.vs.c1
   have f2:=HT.out.vs.c2
   have f3:=HT.out.vs.c3
   obtain ⟨z0,z1,z2,z3,z4⟩:=HT.out.vz.cells
   have zf:=HT.out.vz.f
   go_wp2
   go_region
   go_wp2
   refine bodyPost_ret (res_row_tmp2 (p:=2) (u:=3) (r:=4) rfl _ _ A _ _ (0,0) _ rfl (putr_row HT.out.vz 0 0 0 ⟨#[]⟩ ⟨#[]⟩) Tryz.underlying39 rfl (by kernel_rfl)) rfl ⟨?_,gb_drew (put5_gb0 HT.out.gb HT.out.le 0 0 0 ⟨#[]⟩ ⟨#[]⟩) 1⟩
   rw [FIN.out];rfl
  | true =>
   have h0:E1=0:=by simpa using hz1
   subst h0
   clear hz1
   have HJ1:Hid (j1<=s.size):=(HK1.out.2.1 rfl).2.2
   have HR1:Hid (R=rest1 l j1 x1):=by
    show R=_
    obtain ⟨e1,e2,-⟩:=HK1.out.2.1 rfl
    have hr:=HR0.out
    rw [if_pos HK1.out.1.symm,<-e1,<-e2] at hr
    exact hr
   clear HK1 HR0
   cases hc1:decide (l[j1]?=some 46) with
   | false =>
    have hc':=of_decide_eq_false hc1
    have HZ:Hid ((2:Int) ≠ 0):=by show (2:Int) ≠ 0;decide
    have FIN:Hid (X=(2,j1,zeroV)):=by
     show X=_
     have hr:=HR1.out
     unfold rest1 at hr
     rw [if_neg hc'] at hr
     rw [HV.out,hr];rfl
    have CM:Hid (Calls Tryz.prog 54 #[.pointer (some ⟨A+1,0,none⟩),.int .u8 46] U1 fun e w'=>e=.returned (.tuple #[])/\VS (A+1) s j1 2 j1 w'/\U1.grownBy w' (some (A+1))):=MN.out _ _ _ _ HJ1.out hc' HU1.out.vs
    clear hc1 hc'
    go_wp2_with (first | (go_at_call 54;refine CM.out.mono ?_))
    rintro e v1 ⟨rfl,hvs,hg⟩
    have HM:Hid (RV w A s j1 2 j1 x1 0 0 ⟨#[]⟩ ⟨#[]⟩ v1):=HU1.out.call hg hvs
    clear hvs hg f0 f1 f2 f3 q0 q1 q2 q3 q4 qf hU1
    have f0:=HM.out.vs.c0
    have f1:=HM.out.vs.c1
    have f2:=HM.out.vs.c2
    have f3:=HM.out.vs.c3
    go_wp2_with (first | (go_at_call 55;refine (rtail_skip (A+1) (A+2) s j1 2 HZ.out j1 _ HM.out.vs).mono ?_))
    rintro e t1 ⟨rfl,n,hn⟩
    have HT:Hid (RV w A s j1 2 j1 x1 0 0 ⟨#[]⟩ ⟨#[]⟩ t1):=by show RV _ _ _ _ _ _ _ _ _ _ _ t1;rw [hn];exact HM.out.drew n
    clear hn f0 f1 f2 f3
    have f0:=HT.out.vs.c0
    have f1:=HT.out.vs.c1
    have f2:=HT.out.vs.c2
    have f3:=HT.out.vs.c3
    obtain ⟨z0,z1,z2,z3,z4⟩:=HT.out.vz.cells
    have zf:=HT.out.vz.f
    go_wp2
    go_region
    go_wp2
    refine bodyPost_ret (res_row_tmp2 (p:=2) (u:=3) (r:=4) rfl _ _ A _ _ (0,0) _ rfl (putr_row HT.out.vz 0 0 0 ⟨#[]⟩ ⟨#[]⟩) Tryz.underlying39 rfl (by kernel_rfl)) rfl ⟨?_,gb_drew (put5_gb0 HT.out.gb HT.out.le 0 0 0 ⟨#[]⟩ ⟨#[]⟩) 1⟩
    rw [FIN.out];rfl
   | true =>
    have hc':=of_decide_eq_true hc1
    have HRn:Hid (R=if (rdNum l (j1+1)).1=0 then rest2 l (rdNum l (j1+1)).2.2 x1 (rdNum l (j1+1)).2.1 else ((rdNum l (j1+1)).1,(rdNum l (j1+1)).2.2,0,0,0)):=by
     show R=_
     have hr:=HR1.out
     unfold rest1 at hr
     rw [if_pos hc'] at hr
     exact hr
    have HJn:Hid (j1+1<=s.size):=by have:=(List.getElem?_eq_some_iff.1 hc').1;rw [HL.out.2] at this;exact this
    have CM:Hid (Calls Tryz.prog 54 #[.pointer (some ⟨A+1,0,none⟩),.int .u8 46] U1 fun e w'=>e=.returned (.tuple #[])/\VS (A+1) s (j1+1) 0 c1 w'/\U1.grownBy w' (some (A+1))):=MY.out _ _ _ _ hc' HU1.out.vs
    clear hc1 hc'
    go_wp2_with (first | (go_at_call 54;refine CM.out.mono ?_))
    rintro e v2 ⟨rfl,hvs,hg⟩
    have HM2:Hid (RV w A s (j1+1) 0 c1 x1 0 0 ⟨#[]⟩ ⟨#[]⟩ v2):=HU1.out.call hg hvs
    clear hvs hg f0 f1 f2 f3 q0 q1 q2 q3 q4 qf hU1 HR1 CM
    have f0:=HM2.out.vs.c0
    have f1:=HM2.out.vs.c1
    have f2:=HM2.out.vs.c2
    have f3:=HM2.out.vs.c3
    go_wp2_with (first | (go_at_call 53;refine (CN.out _ (j1+1) c1 _ HJn.out HM2.out.vs).mono ?_))
    rintro e u2 ⟨x2,j2,E2,c2,rfl,hvs,hg,hE,hok,herr⟩
    have HA2:Hid (RV w A s j2 E2 c2 x1 0 0 ⟨#[]⟩ ⟨#[]⟩ u2):=HM2.out.call hg hvs
    have HK2:Hid (E2=(rdNum l (j1+1)).1/\(E2=0->x2=(rdNum l (j1+1)).2.1/\j2=(rdNum l (j1+1)).2.2/\j2<=s.size)/\(E2 ≠ 0->c2=(rdNum l (j1+1)).2.2)):=by rw [HL.out.1];exact ⟨hE,hok,herr⟩
    clear hvs hg hE hok herr f0 f1 f2 f3
    obtain ⟨U2,hU2⟩:∃U,u2.setCell ⟨A+2,1,none⟩ (.int .i64 x2)=U:=⟨_,rfl⟩
    have HU2:Hid (RV w A s j2 E2 c2 x1 x2 0 ⟨#[]⟩ ⟨#[]⟩ U2):=by show RV _ _ _ _ _ _ _ _ _ _ _ U2;rw [<-hU2];exact HA2.out.put1 x2
    obtain ⟨q0,q1,q2,q3,q4⟩:=HA2.out.vr.cells
    have qf:=HA2.out.vr.f
    have f0:=HU2.out.vs.c0
    have f1:=HU2.out.vs.c1
    have f2:=HU2.out.vs.c2
    have f3:=HU2.out.vs.c3
    cases hz2:(E2 == 0) with
    | false =>
     have HZ:Hid (E2 ≠ 0):=by show E2 ≠ 0;simpa using hz2
     have FIN:Hid (X=(E2,c2,zeroV)):=by
      show X=_
      have h9:¬ (rdNum l (j1+1)).1=0:=fun e=>HZ.out (HK2.out.1.trans e)
      have hr:=HRn.out
      rw [if_neg h9,<-HK2.out.1,<-HK2.out.2.2 HZ.out] at hr
      rw [HV.out,hr,if_neg HZ.out]
     go_wp2_with (first | (go_at_call 55;refine (rtail_skip (A+1) (A+2) s j2 E2 HZ.out c2 _ HU2.out.vs).mono ?_))
     rintro e t1 ⟨rfl,n,hn⟩
     have HT:Hid (RV w A s j2 E2 c2 x1 x2 0 ⟨#[]⟩ ⟨#[]⟩ t1):=by show RV _ _ _ _ _ _ _ _ _ _ _ t1;rw [hn];exact HU2.out.drew n
     clear hn f0 f1 f2 f3
     have f0:=HT.out.vs.c0
     have f1:=HT.out.vs.c1
     have f2:=HT.out.vs.c2
     have f3:=HT.out.vs.c3
     obtain ⟨z0,z1,z2,z3,z4⟩:=HT.out.vz.cells
     have zf:=HT.out.vz.f
     go_wp2
     go_region
     go_wp2
     refine bodyPost_ret (res_row_tmp2 (p:=2) (u:=3) (r:=4) rfl _ _ A _ _ (0,0) _ rfl (putr_row HT.out.vz 0 0 0 ⟨#[]⟩ ⟨#[]⟩) Tryz.underlying39 rfl (by kernel_rfl)) rfl ⟨?_,gb_drew (put5_gb0 HT.out.gb HT.out.le 0 0 0 ⟨#[]⟩ ⟨#[]⟩) 1⟩
     rw [FIN.out];rfl
    | true =>
     have h0:E2=0:=by simpa using hz2
     subst h0
     clear hz2
     have HJ2:Hid (j2<=s.size):=(HK2.out.2.1 rfl).2.2
     have HR2:Hid (R=rest2 l j2 x1 x2):=by
      show R=_
      obtain ⟨e1,e2,-⟩:=HK2.out.2.1 rfl
      have hr:=HRn.out
      rw [if_pos HK2.out.1.symm,<-e1,<-e2] at hr
      exact hr
     clear HK2 HRn
     cases hc2:decide (l[j2]?=some 46) with
     | false =>
      have hc':=of_decide_eq_false hc2
      have HZ:Hid ((2:Int) ≠ 0):=by show (2:Int) ≠ 0;decide
      have FIN:Hid (X=(2,j2,zeroV)):=by
       show X=_
       have hr:=HR2.out
       unfold rest2 at hr
       rw [if_neg hc'] at hr
       rw [HV.out,hr];rfl
      have CM:Hid (Calls Tryz.prog 54 #[.pointer (some ⟨A+1,0,none⟩),.int .u8 46] U2 fun e w'=>e=.returned (.tuple #[])/\VS (A+1) s j2 2 j2 w'/\U2.grownBy w' (some (A+1))):=MN.out _ _ _ _ HJ2.out hc' HU2.out.vs
      clear hc2 hc'
      go_wp2_with (first | (go_at_call 54;refine CM.out.mono ?_))
      rintro e v1 ⟨rfl,hvs,hg⟩
      have HM:Hid (RV w A s j2 2 j2 x1 x2 0 ⟨#[]⟩ ⟨#[]⟩ v1):=HU2.out.call hg hvs
      clear hvs hg f0 f1 f2 f3 q0 q1 q2 q3 q4 qf hU2
      have f0:=HM.out.vs.c0
      have f1:=HM.out.vs.c1
      have f2:=HM.out.vs.c2
      have f3:=HM.out.vs.c3
      go_wp2_with (first | (go_at_call 55;refine (rtail_skip (A+1) (A+2) s j2 2 HZ.out j2 _ HM.out.vs).mono ?_))
      rintro e t1 ⟨rfl,n,hn⟩
      have HT:Hid (RV w A s j2 2 j2 x1 x2 0 ⟨#[]⟩ ⟨#[]⟩ t1):=by show RV _ _ _ _ _ _ _ _ _ _ _ t1;rw [hn];exact HM.out.drew n
      clear hn f0 f1 f2 f3
      have f0:=HT.out.vs.c0
      have f1:=HT.out.vs.c1
      have f2:=HT.out.vs.c2
      have f3:=HT.out.vs.c3
      obtain ⟨z0,z1,z2,z3,z4⟩:=HT.out.vz.cells
      have zf:=HT.out.vz.f
      go_wp2
      go_region
      go_wp2
      refine bodyPost_ret (res_row_tmp2 (p:=2) (u:=3) (r:=4) rfl _ _ A _ _ (0,0) _ rfl (putr_row HT.out.vz 0 0 0 ⟨#[]⟩ ⟨#[]⟩) Tryz.underlying39 rfl (by kernel_rfl)) rfl ⟨?_,gb_drew (put5_gb0 HT.out.gb HT.out.le 0 0 0 ⟨#[]⟩ ⟨#[]⟩) 1⟩
      rw [FIN.out];rfl
     | true =>
      have hc':=of_decide_eq_true hc2
      have HRn:Hid (R=if (rdNum l (j2+1)).1=0 then rest3 l (rdNum l (j2+1)).2.2 x1 x2 (rdNum l (j2+1)).2.1 else ((rdNum l (j2+1)).1,(rdNum l (j2+1)).2.2,0,0,0)):=by
       show R=_
       have hr:=HR2.out
       unfold rest2 at hr
       rw [if_pos hc'] at hr
       exact hr
      have HJn:Hid (j2+1<=s.size):=by have:=(List.getElem?_eq_some_iff.1 hc').1;rw [HL.out.2] at this;exact this
      have CM:Hid (Calls Tryz.prog 54 #[.pointer (some ⟨A+1,0,none⟩),.int .u8 46] U2 fun e w'=>e=.returned (.tuple #[])/\VS (A+1) s (j2+1) 0 c2 w'/\U2.grownBy w' (some (A+1))):=MY.out _ _ _ _ hc' HU2.out.vs
      clear hc2 hc'
      go_wp2_with (first | (go_at_call 54;refine CM.out.mono ?_))
      rintro e v3 ⟨rfl,hvs,hg⟩
      have HM3:Hid (RV w A s (j2+1) 0 c2 x1 x2 0 ⟨#[]⟩ ⟨#[]⟩ v3):=HU2.out.call hg hvs
      clear hvs hg f0 f1 f2 f3 q0 q1 q2 q3 q4 qf hU2 HR2 CM
      have f0:=HM3.out.vs.c0
      have f1:=HM3.out.vs.c1
      have f2:=HM3.out.vs.c2
      have f3:=HM3.out.vs.c3
      go_wp2_with (first | (go_at_call 53;refine (CN.out _ (j2+1) c2 _ HJn.out HM3.out.vs).mono ?_))
      rintro e u3 ⟨x3,j3,E3,c3,rfl,hvs,hg,hE,hok,herr⟩
      have HA3:Hid (RV w A s j3 E3 c3 x1 x2 0 ⟨#[]⟩ ⟨#[]⟩ u3):=HM3.out.call hg hvs
      have HK3:Hid (E3=(rdNum l (j2+1)).1/\(E3=0->x3=(rdNum l (j2+1)).2.1/\j3=(rdNum l (j2+1)).2.2/\j3<=s.size)/\(E3 ≠ 0->c3=(rdNum l (j2+1)).2.2)):=by rw [HL.out.1];exact ⟨hE,hok,herr⟩
      clear hvs hg hE hok herr f0 f1 f2 f3
      obtain ⟨U3,hU3⟩:∃U,u3.setCell ⟨A+2,2,none⟩ (.int .i64 x3)=U:=⟨_,rfl⟩
      have HU3:Hid (RV w A s j3 E3 c3 x1 x2 x3 ⟨#[]⟩ ⟨#[]⟩ U3):=by show RV _ _ _ _ _ _ _ _ _ _ _ U3;rw [<-hU3];exact HA3.out.put2 x3
      obtain ⟨q0,q1,q2,q3,q4⟩:=HA3.out.vr.cells
      have qf:=HA3.out.vr.f
      have f0:=HU3.out.vs.c0
      have f1:=HU3.out.vs.c1
      have f2:=HU3.out.vs.c2
      have f3:=HU3.out.vs.c3
      cases hz3:(E3 == 0) with
      | false =>
       have HZ:Hid (E3 ≠ 0):=by show E3 ≠ 0;simpa using hz3
       have FIN:Hid (X=(E3,c3,zeroV)):=by
        show X=_
        have h9:¬ (rdNum l (j2+1)).1=0:=fun e=>HZ.out (HK3.out.1.trans e)
        have hr:=HRn.out
        rw [if_neg h9,<-HK3.out.1,<-HK3.out.2.2 HZ.out] at hr
        rw [HV.out,hr,if_neg HZ.out]
       go_wp2_with (first | (go_at_call 55;refine (rtail_skip (A+1) (A+2) s j3 E3 HZ.out c3 _ HU3.out.vs).mono ?_))
       rintro e t1 ⟨rfl,n,hn⟩
       have HT:Hid (RV w A s j3 E3 c3 x1 x2 x3 ⟨#[]⟩ ⟨#[]⟩ t1):=by show RV _ _ _ _ _ _ _ _ _ _ _ t1;rw [hn];exact HU3.out.drew n
       clear hn f0 f1 f2 f3
       have f0:=HT.out.vs.c0
       have f1:=HT.out.vs.c1
       have f2:=HT.out.vs.c2
       have f3:=HT.out.vs.c3
       obtain ⟨z0,z1,z2,z3,z4⟩:=HT.out.vz.cells
       have zf:=HT.out.vz.f
       go_wp2
       go_region
       go_wp2
       refine bodyPost_ret (res_row_tmp2 (p:=2) (u:=3) (r:=4) rfl _ _ A _ _ (0,0) _ rfl (putr_row HT.out.vz 0 0 0 ⟨#[]⟩ ⟨#[]⟩) Tryz.underlying39 rfl (by kernel_rfl)) rfl ⟨?_,gb_drew (put5_gb0 HT.out.gb HT.out.le 0 0 0 ⟨#[]⟩ ⟨#[]⟩) 1⟩
       rw [FIN.out];rfl
      | true =>
       have h0:E3=0:=by simpa using hz3
       subst h0
       clear hz3
       have HJ3:Hid (j3<=s.size):=(HK3.out.2.1 rfl).2.2
       have HR3:Hid (R=rest3 l j3 x1 x2 x3):=by
        show R=_
        obtain ⟨e1,e2,-⟩:=HK3.out.2.1 rfl
        have hr:=HRn.out
        rw [if_pos HK3.out.1.symm,<-e1,<-e2] at hr
        exact hr
       clear HK3 HRn
       have CTl:Hid (Calls Tryz.prog 55 #[.pointer (some ⟨A+1,0,none⟩),.pointer (some ⟨A+2,0,none⟩)] U3 fun e w'=>e=.returned (.tuple #[])/\RTailPost (A+1) (A+2) s j3 x1 x2 x3 U3 w'):=CT.out _ _ _ _ _ _ _ _ HJ3.out HU3.out.vs HU3.out.vr (by omega)
       go_wp2_with (first | (go_at_call 55;refine CTl.out.mono ?_))
       rintro e t1 ⟨rfl,j4,E4,c4,P4,B4,hvs,hvr,hg,hE,hok,herr⟩
       have HT:Hid (RV w A s j4 E4 c4 x1 x2 x3 P4 B4 t1):=HU3.out.two hg hvs hvr
       have HK4:Hid (E4=(tailP l j3).1/\(E4=0->P4=⟨(tailP l j3).2.2.1.toArray⟩/\B4=⟨(tailP l j3).2.2.2.toArray⟩/\j4=(tailP l j3).2.1/\j4<=s.size)/\(E4 ≠ 0->c4=(tailP l j3).2.1)):=by rw [HL.out.1];exact ⟨hE,hok,herr⟩
       have HX4:Hid (X=if (tailP l j3).1=0 then (if (tailP l j3).2.1 < l.length then (2,(tailP l j3).2.1,zeroV) else (0,0,⟨x1,x2,x3,(tailP l j3).2.2.1,(tailP l j3).2.2.2⟩)) else ((tailP l j3).1,(tailP l j3).2.1,zeroV)):=by
        show X=_
        have hr:=HR3.out
        unfold rest3 at hr
        rw [HV.out,hr];rfl
       clear hvs hvr hg hE hok herr f0 f1 f2 f3 q0 q1 q2 q3 q4 qf hU3 HV HR3
       cases hz4:(E4 == 0) with
       | false =>
        have HZ:Hid (E4 ≠ 0):=by show E4 ≠ 0;simpa using hz4
        have FIN:Hid (X=(E4,c4,zeroV)):=by
         show X=_
         have h9:¬ (tailP l j3).1=0:=fun e=>HZ.out (HK4.out.1.trans e)
         rw [HX4.out,if_neg h9,<-HK4.out.1,<-HK4.out.2.2 HZ.out]
        have f0:=HT.out.vs.c0
        have f1:=HT.out.vs.c1
        have f2:=HT.out.vs.c2
        have f3:=HT.out.vs.c3
        obtain ⟨z0,z1,z2,z3,z4⟩:=HT.out.vz.cells
        have zf:=HT.out.vz.f
        go_wp2
        go_region
        go_wp2
        refine bodyPost_ret (res_row_tmp2 (p:=2) (u:=3) (r:=4) rfl _ _ A _ _ (0,0) _ rfl (putr_row HT.out.vz 0 0 0 ⟨#[]⟩ ⟨#[]⟩) Tryz.underlying39 rfl (by kernel_rfl)) rfl ⟨?_,gb_drew (put5_gb0 HT.out.gb HT.out.le 0 0 0 ⟨#[]⟩ ⟨#[]⟩) 1⟩
        rw [FIN.out];rfl
       | true =>
        have h0:E4=0:=by simpa using hz4
        subst h0
        clear hz4
        have HK5:Hid (P4=⟨(tailP l j3).2.2.1.toArray⟩/\B4=⟨(tailP l j3).2.2.2.toArray⟩/\j4=(tailP l j3).2.1/\j4<=s.size):=HK4.out.2.1 rfl
        have HX5:Hid (X=if j4 < l.length then (2,j4,zeroV) else (0,0,⟨x1,x2,x3,(tailP l j3).2.2.1,(tailP l j3).2.2.2⟩)):=by
         show X=_
         rw [HX4.out,if_pos HK4.out.1.symm,<-HK5.out.2.2.1]
        clear HK4 HX4
        have f0:=HT.out.vs.c0
        have f1:=HT.out.vs.c1
        have f2:=HT.out.vs.c2
        have f3:=HT.out.vs.c3
        by_cases hlt:j4 < s.size
        ·have hl2:((j4:Nat):Int) < (s.size:Int):=by omega
         have FIN:Hid (X=(2,j4,zeroV)):=by show X=_;rw [HX5.out,if_pos (by rw [HL.out.2];exact hlt)]
         go_wp2_with (first | (go_at_call 56;refine (fail_first (A+1) s j4 c4 2 j4 _ HT.out.vs).mono ?_))
         rintro e t2 ⟨rfl,hvs,hg⟩
         have HT3:Hid (RV w A s j4 2 j4 x1 x2 x3 P4 B4 t2):=HT.out.call hg hvs
         clear hvs hg f0 f1 f2 f3
         have f0:=HT3.out.vs.c0
         have f1:=HT3.out.vs.c1
         have f2:=HT3.out.vs.c2
         have f3:=HT3.out.vs.c3
         obtain ⟨z0,z1,z2,z3,z4⟩:=HT3.out.vz.cells
         have zf:=HT3.out.vz.f
         go_wp2
         go_region
         go_wp2
         refine bodyPost_ret (res_row_tmp2 (p:=2) (u:=3) (r:=4) rfl _ _ A _ _ (0,0) _ rfl (putr_row HT3.out.vz 0 0 0 ⟨#[]⟩ ⟨#[]⟩) Tryz.underlying39 rfl (by kernel_rfl)) rfl ⟨?_,gb_drew (put5_gb0 HT3.out.gb HT3.out.le 0 0 0 ⟨#[]⟩ ⟨#[]⟩) 1⟩
         rw [FIN.out];rfl
        ·have hl2:¬ ((j4:Nat):Int) < (s.size:Int):=by omega
         have FIN:Hid (X=(0,0,⟨x1,x2,x3,(tailP l j3).2.2.1,(tailP l j3).2.2.2⟩)):=by show X=_;rw [HX5.out,if_neg (by rw [HL.out.2];exact hlt)]
         clear hlt
         obtain ⟨z0,z1,z2,z3,z4⟩:=HT.out.vz.cells
         have zf:=HT.out.vz.f
         obtain ⟨q0,q1,q2,q3,q4⟩:=HT.out.vr.cells
         go_wp2
         refine bodyPost_ret (res_row_tmp2 (p:=2) (u:=3) (r:=4) rfl _ _ A _ _ (0,0) _ rfl (putr_row HT.out.vz x1 x2 x3 P4 B4) Tryz.underlying39 rfl (by kernel_rfl)) rfl ⟨?_,put5_gb0 HT.out.gb HT.out.le x1 x2 x3 P4 B4⟩
         rw [FIN.out,HK5.out.1,HK5.out.2.1];rfl
end Go.Proofs.YtonfldbigenfhaaGreatDoor
