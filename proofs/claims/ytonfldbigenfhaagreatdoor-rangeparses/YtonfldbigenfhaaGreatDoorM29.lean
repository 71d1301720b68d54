import Derived.Test.YtonfldbigenfhaaGreatDoorM28
import Derived.Test.YtonfldbigenfhaaGreatDoorM20
import Derived.Test.YtonfldbigenfhaaGreatDoorM23
import Derived.Test.YtonfldbigenfhaaGreatDoorM22
namespace Go.Proofs.YtonfldbigenfhaaGreatDoor
open Go.RowKit
set_option linter.unusedVariables false
def VR (v:Nat) (y1 y2 y3:Int) (x4 x5:ByteArray) (w:World):Prop:=w.heap[v]?=some (.cells #[.int .i64 y1,.int .i64 y2,.int .i64 y3,.string x4,.string x5] 39 (0,0))
theorem VR.cells {v:Nat} {y1 y2 y3:Int} {x4 x5:ByteArray} {w:World} (h:VR v y1 y2 y3 x4 x5 w):w.cell? ⟨v,0,none⟩=some (.int .i64 y1)/\w.cell? ⟨v,1,none⟩=some (.int .i64 y2)/\w.cell? ⟨v,2,none⟩=some (.int .i64 y3)/\w.cell? ⟨v,3,none⟩=some (.string x4)/\w.cell? ⟨v,4,none⟩=some (.string x5) :=
 ⟨by rw [Lib.cell_of_heap h];rfl,by rw [Lib.cell_of_heap h];rfl,by rw [Lib.cell_of_heap h];rfl,by rw [Lib.cell_of_heap h];rfl,by rw [Lib.cell_of_heap h];rfl⟩
theorem VR.f {v:Nat} {y1 y2 y3:Int} {x4 x5:ByteArray} {w:World} (h:VR v y1 y2 y3 x4 x5 w) (o:Nat):w.frozen? ⟨v,o,none⟩=false:=Lib.frozen_of_heap h o
theorem VR.grow {b v:Nat} {y1 y2 y3:Int} {x4 x5:ByteArray} {w w':World} (h:VR v y1 y2 y3 x4 x5 w) (hg:w.grownBy w' (some b)) (hn:v ≠ b):VR v y1 y2 y3 x4 x5 w':=by
 unfold VR at h ⊢
 rw [hg.block v ((Array.getElem?_eq_some_iff.1 h).1) (by simpa using hn)];exact h
theorem VR.set3 {v:Nat} {y1 y2 y3:Int} {x4 x5:ByteArray} {w:World} (h:VR v y1 y2 y3 x4 x5 w) (z:ByteArray):VR v y1 y2 y3 z x5 (w.setCell ⟨v,3,none⟩ (.string z)):=by
 unfold VR at h ⊢;simp [World.setCell,Array.getElem?_modify,h]
theorem VR.set4 {v:Nat} {y1 y2 y3:Int} {x4 x5:ByteArray} {w:World} (h:VR v y1 y2 y3 x4 x5 w) (z:ByteArray):VR v y1 y2 y3 x4 z (w.setCell ⟨v,4,none⟩ (.string z)):=by
 unfold VR at h ⊢;simp [World.setCell,Array.getElem?_modify,h]
theorem VR.other {v u:Nat} {y1 y2 y3:Int} {x4 x5:ByteArray} {w:World} (h:VR v y1 y2 y3 x4 x5 w) (hn:v ≠ u) (o:Nat) (x:Value):VR v y1 y2 y3 x4 x5 (w.setCell ⟨u,o,none⟩ x):=by
 unfold VR at h ⊢;rw [<-h];exact heap_setCell_other w _ v x hn
theorem putr_row {w:World} {A:Nat} {z1 z2 z3:Int} {z4 z5:ByteArray} (h:VR A z1 z2 z3 z4 z5 w) (y1 y2 y3:Int) (x4 x5:ByteArray):VR A y1 y2 y3 x4 x5 (put5 w A y1 y2 y3 x4 x5):=by
 unfold VR at h ⊢;unfold put5;simp [World.setCell,Array.getElem?_modify,h]
theorem VS.other {b v:Nat} {s:ByteArray} {i:Nat} {E:Int} {a:Nat} {w:World} (h:VS b s i E a w) (hn:b ≠ v) (o:Nat) (x:Value):VS b s i E a (w.setCell ⟨v,o,none⟩ x):=by
 unfold VS at h ⊢;rw [<-h];exact heap_setCell_other w _ b x hn
theorem G2.set1 {b v:Nat} {w w1:World} (h:G2 b v w w1) (o:Nat) (x:Value):G2 b v w (w1.setCell ⟨b,o,none⟩ x) :=
 ⟨h.os,h.tape,h.output,by simpa [World.setCell] using h.size,fun k hk h1 h2=>by rw [<-h.block k hk h1 h2];exact heap_setCell_other w1 _ k x (fun e=>h1 e)⟩
def RTailPost (b v:Nat) (s:ByteArray) (i:Nat) (y1 y2 y3:Int) (w w':World):Prop :=
 ∃(j:Nat) (E:Int) (c:Nat) (P B:ByteArray),VS b s j E c w'/\VR v y1 y2 y3 P B w'/\G2 b v w w'/\E=(tailP s.data.toList i).1/\(E=0->P=⟨(tailP s.data.toList i).2.2.1.toArray⟩/\B=⟨(tailP s.data.toList i).2.2.2.toArray⟩/\j=(tailP s.data.toList i).2.1/\j<=s.size)/\(E ≠ 0->c=(tailP s.data.toList i).2.1)
theorem rtail_skip (b v:Nat) (s:ByteArray) (i:Nat) (E:Int) (hE:E ≠ 0) (a:Nat) (w:World) (h:VS b s i E a w) :
  Calls Tryz.prog 55 #[.pointer (some ⟨b,0,none⟩),.pointer (some ⟨v,0,none⟩)] w fun e w'=>e=.returned (.tuple #[])/\∃n,w'=w.drewN n:=by
 have h0:=h.c0
 have h1:=h.c1
 have h2:=h.c2
 have HR:Hid (VS b s i E a w):=h
 have hn:(E == 0)=false:=by simpa using hE
 clear h hE
 go_enter Tryz.func55,Tryz.ntmps55
 go_wp2
 go_quiet (fail)
 go_wp2
 obtain ⟨W,hW⟩:∃W,w.drewN nq=W:=⟨_,rfl⟩
 have HW:Hid (W=w.drewN nq):=hW.symm
 have e0:W.cell? ⟨b,0,none⟩=some (.string s):=by rw [<-hW];exact h0
 have e1:W.cell? ⟨b,1,none⟩=some (.int .i64 (i:Int)):=by rw [<-hW];exact h1
 have e2:W.cell? ⟨b,2,none⟩=some (.int .i64 E):=by rw [<-hW];exact h2
 rw [hW]
 clear hW h0 h1 h2
 go_quiet (fail)
 go_wp2
 go_end0
 exact ⟨rfl,_,by rw [HW.out,World.drewN_drewN]⟩
set_option maxRecDepth 100000 in
set_option maxHeartbeats 6400000 in
theorem rtail_any (b v:Nat) (s:ByteArray) (i:Nat) (a:Nat) (y1 y2 y3:Int) (w:World) (hi:i<=s.size) (h:VS b s i 0 a w) (hv:VR v y1 y2 y3 ⟨#[]⟩ ⟨#[]⟩ w) (hbv:b ≠ v) (hs:s.size < 2 ^ 62) :
  Calls Tryz.prog 55 #[.pointer (some ⟨b,0,none⟩),.pointer (some ⟨v,0,none⟩)] w fun e w'=>e=.returned (.tuple #[])/\RTailPost b v s i y1 y2 y3 w w':=by
 have HLL:Hid (s.data.toList.length=s.size):=by show s.data.toList.length=s.size;simp
 have PP:Hid (∀st i a w,i<=s.size->VS b s i 0 a w->Calls Tryz.prog 86 #[.pointer (some ⟨b,0,none⟩),.bool st] w (PartsPost st b s i w)):=fun st i a w hi h=>rparts_any st b s i a w hi h hs
 have HI:Hid (VS b s i 0 a w):=h
 have HVI:Hid (VR v y1 y2 y3 ⟨#[]⟩ ⟨#[]⟩ w):=hv
 have HBV:Hid (b ≠ v):=hbv
 have HIi:Hid (i<=s.size):=hi
 have HS:Hid (s.size < 2 ^ 62):=hs
 have GET:Hid (∀i,(h:i < s.size)->s.data.toList[i]?=some s[i]):=fun i h=>get_data s i h
 have g0:=h.c0
 have g1:=h.c1
 have g2:=h.c2
 clear h hv hbv hi hs
 go_enter Tryz.func55,Tryz.ntmps55
 by_cases hlt1:i < s.size
 ·have hl2:((i:Nat):Int) < (s.size:Int):=by omega
  cases hc1:((s[i].toNat:Int) == 45) with
  | true =>
   have HC1:Hid (s.data.toList[i]?=some 45):=by
    show s.data.toList[i]?=some 45
    rw [GET.out _ hlt1,show s[i]=45 from UInt8.toNat_inj.1 (by have:=eq_of_beq hc1;have e:(45:UInt8).toNat=45:=rfl;omega)]
   have HLT1:Hid (i < s.size):=hlt1
   go_wp2
   go_quiet (fail)
   obtain ⟨U1,hU⟩:∃U,(w).drewN nq=U:=⟨_,rfl⟩
   have HU1:Hid (VS b s (i) 0 a U1):=by show VS _ _ _ _ _ U1;rw [<-hU];exact HI.out.drew _
   have HUV1:Hid (VR v y1 y2 y3 ⟨#[]⟩ ⟨#[]⟩ U1):=by show VR _ _ _ _ _ _ U1;rw [<-hU];exact HVI.out
   have HUG1:Hid (G2 b v w U1):=by show G2 b v w U1;rw [<-hU];exact (G2.refl b v w).drew _
   have k0:=HU1.out.c0
   have k1:=HU1.out.c1
   have k2:=HU1.out.c2
   have kf:=HU1.out.f1
   try rw [hU]
   clear hU g0 g1 g2
   clear hc1
   have hO1:=opt_yes (st:=true) HC1.out
   have hw:IntKind.i64.wrap ((i:Int)+1)=((i+1:Nat):Int):=by rw [IntKind.wrap_i64];have:=HS.out;have:=HLT1.out;omega
   have HO0:Hid (optP 45 true s.data.toList (i)=((rdParts true s.data.toList (i+1)).1,(rdParts true s.data.toList (i+1)).2,partsR true s.data.toList (i+1))):=hO1
   clear hO1
   go_wp2_with (first | (go_at_call 86;refine (PP.out true (i+1) _ _ HLT1.out (HU1.out.set1 (i+1))).mono ?_))
   rintro e u1 ⟨V1,j1,E1,c1,rfl,hvs,hg,hE,hok,herr⟩
   have HF1:Hid (VS b s j1 E1 c1 u1):=hvs
   have HFV1:Hid (VR v y1 y2 y3 ⟨#[]⟩ ⟨#[]⟩ u1):=(HUV1.out.other (Ne.symm HBV.out) _ _).grow hg (Ne.symm HBV.out)
   have HFG1:Hid (G2 b v w u1):=(HUG1.out.set1 _ _).step hg
   have HK1:Hid (E1=(rdParts true s.data.toList (i+1)).1/\(E1=0->V1=⟨(subT s.data.toList (i+1) (j1 - (i+1))).toArray⟩/\j1=(rdParts true s.data.toList (i+1)).2/\j1<=s.size)/\(E1 ≠ 0->c1=(rdParts true s.data.toList (i+1)).2)):=⟨hE,hok,herr⟩
   have kv:=HFV1.out.f
   obtain ⟨q0,q1,q2,q3,q4⟩:=HFV1.out.cells
   clear hvs hg hE hok herr k0 k1 k2 kf hw
   obtain ⟨W1,hW⟩:∃W,u1.setCell ⟨v,3,none⟩ (.string V1)=W:=⟨_,rfl⟩
   have HW1:Hid (VS b s j1 E1 c1 W1):=by show VS _ _ _ _ _ W1;rw [<-hW];exact HF1.out.other HBV.out _ _
   have HWV1:Hid (VR v y1 y2 y3 V1 ⟨#[]⟩ W1):=by show VR _ _ _ _ _ _ W1;rw [<-hW];exact HFV1.out.set3 _
   have HWG1:Hid (G2 b v w W1):=by show G2 b v w W1;rw [<-hW];exact HFG1.out.set _ _
   go_wp2
   try rw [hW]
   clear hW kv q0 q1 q2 q3 q4
   have g0:=HW1.out.c0
   have g1:=HW1.out.c1
   have g2:=HW1.out.c2
   cases hz:(E1 == 0) with
   | false =>
    have HZ:Hid (¬ E1=0):=by show ¬ E1=0;simpa using hz
    go_quiet (fail)
    go_wp2
    go_end0
    refine ⟨rfl,j1,E1,c1,V1,⟨#[]⟩,HW1.out.drew _,HWV1.out,HWG1.out.drew _,?_,fun h=>absurd h HZ.out,fun _=>?_⟩
    ·have h9:¬ (rdParts true s.data.toList (i+1)).1=0:=fun e=>HZ.out (HK1.out.1.trans e)
     unfold tailP;rw [HO0.out];simp only [if_neg h9];exact HK1.out.1
    ·have h9:¬ (rdParts true s.data.toList (i+1)).1=0:=fun e=>HZ.out (HK1.out.1.trans e)
     unfold tailP;rw [HO0.out];simp only [if_neg h9];exact HK1.out.2.2 HZ.out
   | true =>
    have h0:E1=0:=by simpa using hz
    subst h0
    clear hz
    have HK:Hid (V1=⟨(subT s.data.toList (i+1) (j1 - (i+1))).toArray⟩/\j1=(rdParts true s.data.toList (i+1)).2/\j1<=s.size):=HK1.out.2.1 rfl
    have HJ3:Hid (j1<=s.size):=HK.out.2.2
    have HO1:Hid (optP 45 true s.data.toList (i)=(0,j1,subT s.data.toList (i+1) (j1 - (i+1)))):=by
     show optP 45 true s.data.toList i=_
     have h9:=HK1.out.1.symm
     rw [HO0.out,h9,HK.out.2.1];unfold partsR;rw [if_pos h9]
    have HP1:Hid (V1=⟨(subT s.data.toList (i+1) (j1 - (i+1))).toArray⟩):=HK.out.1
    clear HK1
    by_cases hlt3:j1 < s.size
    ·have hl2:((j1:Nat):Int) < (s.size:Int):=by omega
     cases hc3:((s[j1].toNat:Int) == 43) with
     | true =>
      have HC3:Hid (s.data.toList[j1]?=some 43):=by
       show s.data.toList[j1]?=some 43
       rw [GET.out _ hlt3,show s[j1]=43 from UInt8.toNat_inj.1 (by have:=eq_of_beq hc3;have e:(43:UInt8).toNat=43:=rfl;omega)]
      have HLT3:Hid (j1 < s.size):=hlt3
      try go_wp2
      go_quiet (fail)
      obtain ⟨U3,hU⟩:∃U,(W1).drewN nq=U:=⟨_,rfl⟩
      have HU3:Hid (VS b s (j1) 0 c1 U3):=by show VS _ _ _ _ _ U3;rw [<-hU];exact HW1.out.drew _
      have HUV3:Hid (VR v y1 y2 y3 V1 ⟨#[]⟩ U3):=by show VR _ _ _ _ _ _ U3;rw [<-hU];exact HWV1.out
      have HUG3:Hid (G2 b v w U3):=by show G2 b v w U3;rw [<-hU];exact HWG1.out.drew _
      have k0:=HU3.out.c0
      have k1:=HU3.out.c1
      have k2:=HU3.out.c2
      have kf:=HU3.out.f1
      try rw [hU]
      clear hU g0 g1 g2
      clear hc3
      have hO2:=opt_yes (st:=false) HC3.out
      have HO2:Hid (optP 43 false s.data.toList (j1)=((rdParts false s.data.toList (j1+1)).1,(rdParts false s.data.toList (j1+1)).2,partsR false s.data.toList (j1+1))):=hO2
      clear hO2
      have hw:IntKind.i64.wrap (((j1:Nat):Int)+1)=((j1+1:Nat):Int):=by rw [IntKind.wrap_i64];have:=HS.out;have:=HLT3.out;omega
      go_wp2_with (first | (go_at_call 86;refine (PP.out false (j1+1) _ _ HLT3.out (HU3.out.set1 (j1+1))).mono ?_))
      rintro e u3 ⟨V3,j3,E3,c3,rfl,hvs,hg,hE,hok,herr⟩
      have HF3:Hid (VS b s j3 E3 c3 u3):=hvs
      have HFV3:Hid (VR v y1 y2 y3 V1 ⟨#[]⟩ u3):=(HUV3.out.other (Ne.symm HBV.out) _ _).grow hg (Ne.symm HBV.out)
      have HFG3:Hid (G2 b v w u3):=(HUG3.out.set1 _ _).step hg
      have HK3:Hid (E3=(rdParts false s.data.toList (j1+1)).1/\(E3=0->V3=⟨(subT s.data.toList (j1+1) (j3 - (j1+1))).toArray⟩/\j3=(rdParts false s.data.toList (j1+1)).2/\j3<=s.size)/\(E3 ≠ 0->c3=(rdParts false s.data.toList (j1+1)).2)):=⟨hE,hok,herr⟩
      have kv:=HFV3.out.f
      obtain ⟨q0,q1,q2,q3,q4⟩:=HFV3.out.cells
      clear hvs hg hE hok herr k0 k1 k2 kf hw
      go_wp2
      go_end0
      refine ⟨rfl,j3,E3,c3,V1,V3,HF3.out.other HBV.out _ _,HFV3.out.set4 _,HFG3.out.set _ _,?_,?_,?_⟩
      ·rw [HK3.out.1];unfold tailP;rw [HO1.out];simp only [if_true];rw [HO2.out];simp only;split <;> simp_all
      ·intro h0
       obtain ⟨e1,e2,e3⟩:=HK3.out.2.1 h0
       have h9:=HK3.out.1.symm.trans h0
       have hp:partsR false s.data.toList (j1+1)=subT s.data.toList (j1+1) ((rdParts false s.data.toList (j1+1)).2 - (j1+1)):=by unfold partsR;rw [if_pos h9]
       unfold tailP;rw [HO1.out];simp only [if_true];rw [HO2.out];simp only [if_pos h9]
       exact ⟨HP1.out,by rw [e1,e2,hp],e2,e3⟩
      ·intro h0
       have h9:¬ (rdParts false s.data.toList (j1+1)).1=0:=fun e=>h0 (HK3.out.1.trans e)
       unfold tailP;rw [HO1.out];simp only [if_true];rw [HO2.out];simp only [if_neg h9]
       exact HK3.out.2.2 h0
     | false =>
      have HC3:Hid (¬ s.data.toList[j1]?=some 43):=by
       show ¬ s.data.toList[j1]?=some 43
       rw [GET.out _ hlt3]
       intro e
       rw [Option.some.inj e] at hc3
       exact absurd hc3 (by decide)
      try go_wp2
      go_quiet (fail)
      obtain ⟨U3,hU⟩:∃U,(W1).drewN nq=U:=⟨_,rfl⟩
      have HU3:Hid (VS b s (j1) 0 c1 U3):=by show VS _ _ _ _ _ U3;rw [<-hU];exact HW1.out.drew _
      have HUV3:Hid (VR v y1 y2 y3 V1 ⟨#[]⟩ U3):=by show VR _ _ _ _ _ _ U3;rw [<-hU];exact HWV1.out
      have HUG3:Hid (G2 b v w U3):=by show G2 b v w U3;rw [<-hU];exact HWG1.out.drew _
      have k0:=HU3.out.c0
      have k1:=HU3.out.c1
      have k2:=HU3.out.c2
      have kf:=HU3.out.f1
      try rw [hU]
      clear hU g0 g1 g2
      clear hc3
      have HO2:Hid (optP 43 false s.data.toList (j1)=(0,j1,[])):=opt_no HC3.out
      go_wp2
      go_end0
      refine ⟨rfl,j1,0,_,V1,⟨#[]⟩,HU3.out,HUV3.out,HUG3.out,?_,?_,fun h=>absurd rfl h⟩
      ·unfold tailP;rw [HO1.out];simp only [if_true];rw [HO2.out];simp only [if_true]
      ·intro _
       unfold tailP;rw [HO1.out];simp only [if_true];rw [HO2.out];simp only [if_true]
       exact ⟨HP1.out,by first | trivial | rfl,by first | trivial | rfl,HJ3.out⟩
    ·have hl2:decide (((j1:Nat):Int) < (s.size:Int))=false:=by simp;omega
     have HC3:Hid (¬ s.data.toList[j1]?=some 43):=by
      show ¬ s.data.toList[j1]?=some 43
      intro e
      have:=(List.getElem?_eq_some_iff.1 e).1
      rw [HLL.out] at this
      exact hlt3 this
     try go_wp2
     go_quiet (fail)
     obtain ⟨U3,hU⟩:∃U,(W1).drewN nq=U:=⟨_,rfl⟩
     have HU3:Hid (VS b s (j1) 0 c1 U3):=by show VS _ _ _ _ _ U3;rw [<-hU];exact HW1.out.drew _
     have HUV3:Hid (VR v y1 y2 y3 V1 ⟨#[]⟩ U3):=by show VR _ _ _ _ _ _ U3;rw [<-hU];exact HWV1.out
     have HUG3:Hid (G2 b v w U3):=by show G2 b v w U3;rw [<-hU];exact HWG1.out.drew _
     have k0:=HU3.out.c0
     have k1:=HU3.out.c1
     have k2:=HU3.out.c2
     have kf:=HU3.out.f1
     try rw [hU]
     clear hU g0 g1 g2
     clear hl2 hlt3
     have HO2:Hid (optP 43 false s.data.toList (j1)=(0,j1,[])):=opt_no HC3.out
     go_wp2
     go_end0
     refine ⟨rfl,j1,0,_,V1,⟨#[]⟩,HU3.out,HUV3.out,HUG3.out,?_,?_,fun h=>absurd rfl h⟩
     ·unfold tailP;rw [HO1.out];simp only [if_true];rw [HO2.out];simp only [if_true]
     ·intro _
      unfold tailP;rw [HO1.out];simp only [if_true];rw [HO2.out];simp only [if_true]
      exact ⟨HP1.out,by first | trivial | rfl,by first | trivial | rfl,HJ3.out⟩
  | false =>
   have HC1:Hid (¬ s.data.toList[i]?=some 45):=by
    show ¬ s.data.toList[i]?=some 45
    rw [GET.out _ hlt1]
    intro e
    rw [Option.some.inj e] at hc1
    exact absurd hc1 (by decide)
   go_wp2
   go_quiet (fail)
   obtain ⟨U1,hU⟩:∃U,(w).drewN nq=U:=⟨_,rfl⟩
   have HU1:Hid (VS b s (i) 0 a U1):=by show VS _ _ _ _ _ U1;rw [<-hU];exact HI.out.drew _
   have HUV1:Hid (VR v y1 y2 y3 ⟨#[]⟩ ⟨#[]⟩ U1):=by show VR _ _ _ _ _ _ U1;rw [<-hU];exact HVI.out
   have HUG1:Hid (G2 b v w U1):=by show G2 b v w U1;rw [<-hU];exact (G2.refl b v w).drew _
   have k0:=HU1.out.c0
   have k1:=HU1.out.c1
   have k2:=HU1.out.c2
   have kf:=HU1.out.f1
   try rw [hU]
   clear hU g0 g1 g2
   clear hc1
   have HO1:Hid (optP 45 true s.data.toList (i)=(0,i,[])):=opt_no HC1.out
   have HJ2:Hid (i<=s.size):=HIi.out
   have g0:=HU1.out.c0
   have g1:=HU1.out.c1
   have g2:=HU1.out.c2
   clear k0 k1 k2 kf
   by_cases hlt2:i < s.size
   ·have hl2:((i:Nat):Int) < (s.size:Int):=by omega
    cases hc2:((s[i].toNat:Int) == 43) with
    | true =>
     have HC2:Hid (s.data.toList[i]?=some 43):=by
      show s.data.toList[i]?=some 43
      rw [GET.out _ hlt2,show s[i]=43 from UInt8.toNat_inj.1 (by have:=eq_of_beq hc2;have e:(43:UInt8).toNat=43:=rfl;omega)]
     have HLT2:Hid (i < s.size):=hlt2
     try go_wp2
     go_quiet (fail)
     obtain ⟨U2,hU⟩:∃U,(U1).drewN nq=U:=⟨_,rfl⟩
     have HU2:Hid (VS b s (i) 0 a U2):=by show VS _ _ _ _ _ U2;rw [<-hU];exact HU1.out.drew _
     have HUV2:Hid (VR v y1 y2 y3 ⟨#[]⟩ ⟨#[]⟩ U2):=by show VR _ _ _ _ _ _ U2;rw [<-hU];exact HUV1.out
     have HUG2:Hid (G2 b v w U2):=by show G2 b v w U2;rw [<-hU];exact HUG1.out.drew _
     have k0:=HU2.out.c0
     have k1:=HU2.out.c1
     have k2:=HU2.out.c2
     have kf:=HU2.out.f1
     try rw [hU]
     clear hU g0 g1 g2
     clear hc2
     have hO2:=opt_yes (st:=false) HC2.out
     have HO2:Hid (optP 43 false s.data.toList (i)=((rdParts false s.data.toList (i+1)).1,(rdParts false s.data.toList (i+1)).2,partsR false s.data.toList (i+1))):=hO2
     clear hO2
     have hw:IntKind.i64.wrap (((i:Nat):Int)+1)=((i+1:Nat):Int):=by rw [IntKind.wrap_i64];have:=HS.out;have:=HLT2.out;omega
     go_wp2_with (first | (go_at_call 86;refine (PP.out false (i+1) _ _ HLT2.out (HU2.out.set1 (i+1))).mono ?_))
     rintro e u2 ⟨V2,j2,E2,c2,rfl,hvs,hg,hE,hok,herr⟩
     have HF2:Hid (VS b s j2 E2 c2 u2):=hvs
     have HFV2:Hid (VR v y1 y2 y3 ⟨#[]⟩ ⟨#[]⟩ u2):=(HUV2.out.other (Ne.symm HBV.out) _ _).grow hg (Ne.symm HBV.out)
     have HFG2:Hid (G2 b v w u2):=(HUG2.out.set1 _ _).step hg
     have HK2:Hid (E2=(rdParts false s.data.toList (i+1)).1/\(E2=0->V2=⟨(subT s.data.toList (i+1) (j2 - (i+1))).toArray⟩/\j2=(rdParts false s.data.toList (i+1)).2/\j2<=s.size)/\(E2 ≠ 0->c2=(rdParts false s.data.toList (i+1)).2)):=⟨hE,hok,herr⟩
     have kv:=HFV2.out.f
     obtain ⟨q0,q1,q2,q3,q4⟩:=HFV2.out.cells
     clear hvs hg hE hok herr k0 k1 k2 kf hw
     go_wp2
     go_end0
     refine ⟨rfl,j2,E2,c2,⟨#[]⟩,V2,HF2.out.other HBV.out _ _,HFV2.out.set4 _,HFG2.out.set _ _,?_,?_,?_⟩
     ·rw [HK2.out.1];unfold tailP;rw [HO1.out];simp only [if_true];rw [HO2.out];simp only;split <;> simp_all
     ·intro h0
      obtain ⟨e1,e2,e3⟩:=HK2.out.2.1 h0
      have h9:=HK2.out.1.symm.trans h0
      have hp:partsR false s.data.toList (i+1)=subT s.data.toList (i+1) ((rdParts false s.data.toList (i+1)).2 - (i+1)):=by unfold partsR;rw [if_pos h9]
      unfold tailP;rw [HO1.out];simp only [if_true];rw [HO2.out];simp only [if_pos h9]
      exact ⟨by first | trivial | rfl,by rw [e1,e2,hp],e2,e3⟩
     ·intro h0
      have h9:¬ (rdParts false s.data.toList (i+1)).1=0:=fun e=>h0 (HK2.out.1.trans e)
      unfold tailP;rw [HO1.out];simp only [if_true];rw [HO2.out];simp only [if_neg h9]
      exact HK2.out.2.2 h0
    | false =>
     have HC2:Hid (¬ s.data.toList[i]?=some 43):=by
      show ¬ s.data.toList[i]?=some 43
      rw [GET.out _ hlt2]
      intro e
      rw [Option.some.inj e] at hc2
      exact absurd hc2 (by decide)
     try go_wp2
     go_quiet (fail)
     obtain ⟨U2,hU⟩:∃U,(U1).drewN nq=U:=⟨_,rfl⟩
     have HU2:Hid (VS b s (i) 0 a U2):=by show VS _ _ _ _ _ U2;rw [<-hU];exact HU1.out.drew _
     have HUV2:Hid (VR v y1 y2 y3 ⟨#[]⟩ ⟨#[]⟩ U2):=by show VR _ _ _ _ _ _ U2;rw [<-hU];exact HUV1.out
     have HUG2:Hid (G2 b v w U2):=by show G2 b v w U2;rw [<-hU];exact HUG1.out.drew _
     have k0:=HU2.out.c0
     have k1:=HU2.out.c1
     have k2:=HU2.out.c2
     have kf:=HU2.out.f1
     try rw [hU]
     clear hU g0 g1 g2
     clear hc2
     have HO2:Hid (optP 43 false s.data.toList (i)=(0,i,[])):=opt_no HC2.out
     go_wp2
     go_end0
     refine ⟨rfl,i,0,_,⟨#[]⟩,⟨#[]⟩,HU2.out,HUV2.out,HUG2.out,?_,?_,fun h=>absurd rfl h⟩
     ·unfold tailP;rw [HO1.out];simp only [if_true];rw [HO2.out];simp only [if_true]
     ·intro _
      unfold tailP;rw [HO1.out];simp only [if_true];rw [HO2.out];simp only [if_true]
      exact ⟨by first | trivial | rfl,by first | trivial | rfl,by first | trivial | rfl,HJ2.out⟩
   ·exact absurd hlt1 hlt2
 ·have hl2:decide (((i:Nat):Int) < (s.size:Int))=false:=by simp;omega
  have HC1:Hid (¬ s.data.toList[i]?=some 45):=by
   show ¬ s.data.toList[i]?=some 45
   intro e
   have:=(List.getElem?_eq_some_iff.1 e).1
   rw [HLL.out] at this
   exact hlt1 this
  go_wp2
  go_quiet (fail)
  obtain ⟨U1,hU⟩:∃U,(w).drewN nq=U:=⟨_,rfl⟩
  have HU1:Hid (VS b s (i) 0 a U1):=by show VS _ _ _ _ _ U1;rw [<-hU];exact HI.out.drew _
  have HUV1:Hid (VR v y1 y2 y3 ⟨#[]⟩ ⟨#[]⟩ U1):=by show VR _ _ _ _ _ _ U1;rw [<-hU];exact HVI.out
  have HUG1:Hid (G2 b v w U1):=by show G2 b v w U1;rw [<-hU];exact (G2.refl b v w).drew _
  have k0:=HU1.out.c0
  have k1:=HU1.out.c1
  have k2:=HU1.out.c2
  have kf:=HU1.out.f1
  try rw [hU]
  clear hU g0 g1 g2
  clear hl2 hlt1
  have HO1:Hid (optP 45 true s.data.toList (i)=(0,i,[])):=opt_no HC1.out
  have HJ2:Hid (i<=s.size):=HIi.out
  have g0:=HU1.out.c0
  have g1:=HU1.out.c1
  have g2:=HU1.out.c2
  clear k0 k1 k2 kf
  by_cases hlt2:i < s.size
  ·have hl2:((i:Nat):Int) < (s.size:Int):=by omega
   cases hc2:((s[i].toNat:Int) == 43) with
   | true =>
    have HC2:Hid (s.data.toList[i]?=some 43):=by
     show s.data.toList[i]?=some 43
     rw [GET.out _ hlt2,show s[i]=43 from UInt8.toNat_inj.1 (by have:=eq_of_beq hc2;have e:(43:UInt8).toNat=43:=rfl;omega)]
    have HLT2:Hid (i < s.size):=hlt2
    try go_wp2
    go_quiet (fail)
    obtain ⟨U2,hU⟩:∃U,(U1).drewN nq=U:=⟨_,rfl⟩
    have HU2:Hid (VS b s (i) 0 a U2):=by show VS _ _ _ _ _ U2;rw [<-hU];exact HU1.out.drew _
    have HUV2:Hid (VR v y1 y2 y3 ⟨#[]⟩ ⟨#[]⟩ U2):=by show VR _ _ _ _ _ _ U2;rw [<-hU];exact HUV1.out
    have HUG2:Hid (G2 b v w U2):=by show G2 b v w U2;rw [<-hU];exact HUG1.out.drew _
    have k0:=HU2.out.c0
    have k1:=HU2.out.c1
    have k2:=HU2.out.c2
    have kf:=HU2.out.f1
    try rw [hU]
    clear hU g0 g1 g2
    clear hc2
    have hO2:=opt_yes (st:=false) HC2.out
    have HO2:Hid (optP 43 false s.data.toList (i)=((rdParts false s.data.toList (i+1)).1,(rdParts false s.data.toList (i+1)).2,partsR false s.data.toList (i+1))):=hO2
    clear hO2
    have hw:IntKind.i64.wrap (((i:Nat):Int)+1)=((i+1:Nat):Int):=by rw [IntKind.wrap_i64];have:=HS.out;have:=HLT2.out;omega
    go_wp2_with (first | (go_at_call 86;refine (PP.out false (i+1) _ _ HLT2.out (HU2.out.set1 (i+1))).mono ?_))
    rintro e u2 ⟨V2,j2,E2,c2,rfl,hvs,hg,hE,hok,herr⟩
    have HF2:Hid (VS b s j2 E2 c2 u2):=hvs
    have HFV2:Hid (VR v y1 y2 y3 ⟨#[]⟩ ⟨#[]⟩ u2):=(HUV2.out.other (Ne.symm HBV.out) _ _).grow hg (Ne.symm HBV.out)
    have HFG2:Hid (G2 b v w u2):=(HUG2.out.set1 _ _).step hg
    have HK2:Hid (E2=(rdParts false s.data.toList (i+1)).1/\(E2=0->V2=⟨(subT s.data.toList (i+1) (j2 - (i+1))).toArray⟩/\j2=(rdParts false s.data.toList (i+1)).2/\j2<=s.size)/\(E2 ≠ 0->c2=(rdParts false s.data.toList (i+1)).2)):=⟨hE,hok,herr⟩
    have kv:=HFV2.out.f
    obtain ⟨q0,q1,q2,q3,q4⟩:=HFV2.out.cells
    clear hvs hg hE hok herr k0 k1 k2 kf hw
    go_wp2
    go_end0
    refine ⟨rfl,j2,E2,c2,⟨#[]⟩,V2,HF2.out.other HBV.out _ _,HFV2.out.set4 _,HFG2.out.set _ _,?_,?_,?_⟩
    ·rw [HK2.out.1];unfold tailP;rw [HO1.out];simp only [if_true];rw [HO2.out];simp only;split <;> simp_all
    ·intro h0
     obtain ⟨e1,e2,e3⟩:=HK2.out.2.1 h0
     have h9:=HK2.out.1.symm.trans h0
     have hp:partsR false s.data.toList (i+1)=subT s.data.toList (i+1) ((rdParts false s.data.toList (i+1)).2 - (i+1)):=by unfold partsR;rw [if_pos h9]
     unfold tailP;rw [HO1.out];simp only [if_true];rw [HO2.out];simp only [if_pos h9]
     exact ⟨by first | trivial | rfl,by rw [e1,e2,hp],e2,e3⟩
    ·intro h0
     have h9:¬ (rdParts false s.data.toList (i+1)).1=0:=fun e=>h0 (HK2.out.1.trans e)
     unfold tailP;rw [HO1.out];simp only [if_true];rw [HO2.out];simp only [if_neg h9]
     exact HK2.out.2.2 h0
   | false =>
    have HC2:Hid (¬ s.data.toList[i]?=some 43):=by
     show ¬ s.data.toList[i]?=some 43
     rw [GET.out _ hlt2]
     intro e
     rw [Option.some.inj e] at hc2
     exact absurd hc2 (by decide)
    try go_wp2
    go_quiet (fail)
    obtain ⟨U2,hU⟩:∃U,(U1).drewN nq=U:=⟨_,rfl⟩
    have HU2:Hid (VS b s (i) 0 a U2):=by show VS _ _ _ _ _ U2;rw [<-hU];exact HU1.out.drew _
    have HUV2:Hid (VR v y1 y2 y3 ⟨#[]⟩ ⟨#[]⟩ U2):=by show VR _ _ _ _ _ _ U2;rw [<-hU];exact HUV1.out
    have HUG2:Hid (G2 b v w U2):=by show G2 b v w U2;rw [<-hU];exact HUG1.out.drew _
    have k0:=HU2.out.c0
    have k1:=HU2.out.c1
    have k2:=HU2.out.c2
    have kf:=HU2.out.f1
    try rw [hU]
    clear hU g0 g1 g2
    clear hc2
    have HO2:Hid (optP 43 false s.data.toList (i)=(0,i,[])):=opt_no HC2.out
    go_wp2
    go_end0
    refine ⟨rfl,i,0,_,⟨#[]⟩,⟨#[]⟩,HU2.out,HUV2.out,HUG2.out,?_,?_,fun h=>absurd rfl h⟩
    ·unfold tailP;rw [HO1.out];simp only [if_true];rw [HO2.out];simp only [if_true]
    ·intro _
     unfold tailP;rw [HO1.out];simp only [if_true];rw [HO2.out];simp only [if_true]
     exact ⟨by first | trivial | rfl,by first | trivial | rfl,by first | trivial | rfl,HJ2.out⟩
  ·have hl2:decide (((i:Nat):Int) < (s.size:Int))=false:=by simp;omega
   have HC2:Hid (¬ s.data.toList[i]?=some 43):=by
    show ¬ s.data.toList[i]?=some 43
    intro e
    have:=(List.getElem?_eq_some_iff.1 e).1
    rw [HLL.out] at this
    exact hlt2 this
   try go_wp2
   go_quiet (fail)
   obtain ⟨U2,hU⟩:∃U,(U1).drewN nq=U:=⟨_,rfl⟩
   have HU2:Hid (VS b s (i) 0 a U2):=by show VS _ _ _ _ _ U2;rw [<-hU];exact HU1.out.drew _
   have HUV2:Hid (VR v y1 y2 y3 ⟨#[]⟩ ⟨#[]⟩ U2):=by show VR _ _ _ _ _ _ U2;rw [<-hU];exact HUV1.out
   have HUG2:Hid (G2 b v w U2):=by show G2 b v w U2;rw [<-hU];exact HUG1.out.drew _
   have k0:=HU2.out.c0
   have k1:=HU2.out.c1
   have k2:=HU2.out.c2
   have kf:=HU2.out.f1
   try rw [hU]
   clear hU g0 g1 g2
   clear hl2 hlt2
   have HO2:Hid (optP 43 false s.data.toList (i)=(0,i,[])):=opt_no HC2.out
   go_wp2
   go_end0
   refine ⟨rfl,i,0,_,⟨#[]⟩,⟨#[]⟩,HU2.out,HUV2.out,HUG2.out,?_,?_,fun h=>absurd rfl h⟩
   ·unfold tailP;rw [HO1.out];simp only [if_true];rw [HO2.out];simp only [if_true]
   ·intro _
    unfold tailP;rw [HO1.out];simp only [if_true];rw [HO2.out];simp only [if_true]
    exact ⟨by first | trivial | rfl,by first | trivial | rfl,by first | trivial | rfl,HJ2.out⟩
open Go.RowKit
set_option linter.unusedVariables false
def GR (g b:Nat) (w:World):Prop:=w.cell? ⟨g,0,none⟩=some (.pointer (some ⟨b,0,none⟩))
theorem GR.drew {g b:Nat} {w:World} (h:GR g b w) (n:Nat):GR g b (w.drewN n):=h
theorem GR.growb {g b q:Nat} {w w':World} (h:GR g b w) (hg:w.grownBy w' (some q)) (hn:g ≠ q):GR g b w':=hg.cell h (by simpa using hn)
theorem GR.grow {g b:Nat} {w w':World} (h:GR g b w) (hg:w.grownBy w' none):GR g b w':=hg.cell h (by simp)
theorem GR.other {g b v:Nat} {w:World} (h:GR g b w) (hn:g ≠ v) (o:Nat) (x:Value):GR g b (w.setCell ⟨v,o,none⟩ x):=by
 unfold GR at h ⊢
 unfold World.cell? at h ⊢
 rw [heap_setCell_other w _ g x (by simpa using hn)];exact h
theorem prefix_take:∀(l t:List UInt8),Lib.hasPrefix l t=(decide (t.length<=l.length) && (l.take t.length == t))
 | l,[]=>by cases l <;> simp [Lib.hasPrefix]
 | [],c :: t=>by simp [Lib.hasPrefix]
 | x :: l,c :: t=>by
  show (c == x && Lib.hasPrefix l t)=_
  rw [prefix_take l t]
  simp only [List.length_cons,List.take_succ_cons,Nat.add_le_add_iff_right]
  rw [Bool.eq_iff_iff]
  simp only [Bool.and_eq_true,beq_iff_eq,decide_eq_true_eq,List.cons.injEq]
  constructor
  ·rintro ⟨h1,h2,h3⟩;exact ⟨h2,h1.symm,h3⟩
  ·rintro ⟨h2,h1,h3⟩;exact ⟨h1.symm,h2,h3⟩
theorem prefix_fits (l t:List UInt8) (i:Nat) (h:i+t.length<=l.length):Lib.hasPrefix (l.drop i) t=(subT l i t.length == t):=by
 rw [prefix_take]
 unfold subT
 rw [decide_eq_true (by rw [List.length_drop];omega),Bool.true_and]
theorem prefix_long (l t:List UInt8) (i:Nat) (h:¬ i+t.length<=l.length) (hi:i<=l.length):Lib.hasPrefix (l.drop i) t=false:=by
 rw [prefix_take,decide_eq_false (by rw [List.length_drop];omega),Bool.false_and]
theorem toList_eq (a b:ByteArray):(a.toList == b.toList)=(a.data.toList == b.data.toList):=by rw [Go.Lib.toList_data,Go.Lib.toList_data]
set_option maxRecDepth 100000 in
set_option maxHeartbeats 800000 in
theorem is_late (g b:Nat) (s t:ByteArray) (i:Nat) (E:Int) (a:Nat) (w:World) (hE:¬ E=0) (hg:GR g b w) (h:VS b s i E a w) :
  Calls Tryz.prog 36 #[.pointer (some ⟨g,0,none⟩),.string t] w fun e w'=>e=.returned (.bool false)/\∃n,w'=w.drewN n:=by
 have h0:=h.c0
 have h1:=h.c1
 have h2:=h.c2
 have hn:(E == 0)=false:=by simpa using hE
 have g0:w.cell? ⟨g,0,none⟩=some (.pointer (some ⟨b,0,none⟩)):=hg
 clear h hg hE
 go_enter Tryz.func36,Tryz.ntmps36
 go_wp2
 go_quiet (fail)
 go_wp2
 go_ret
 exact ⟨rfl,_,rfl⟩
set_option maxRecDepth 100000 in
set_option maxHeartbeats 800000 in
theorem is_any (g b:Nat) (s t:ByteArray) (i:Nat) (a:Nat) (w:World) (hi:i<=s.size) (hg:GR g b w) (h:VS b s i 0 a w) (hs:s.size < 2 ^ 61) (ht:t.size < 2 ^ 61) :
  Calls Tryz.prog 36 #[.pointer (some ⟨g,0,none⟩),.string t] w fun e w'=>e=.returned (.bool (Lib.hasPrefix (s.data.toList.drop i) t.data.toList))/\∃n,w'=w.drewN n:=by
 have h0:=h.c0
 have h1:=h.c1
 have h2:=h.c2
 have g0:w.cell? ⟨g,0,none⟩=some (.pointer (some ⟨b,0,none⟩)):=hg
 have hw:IntKind.i64.wrap ((i:Int)+(t.size:Int))=(i:Int)+(t.size:Int):=by rw [IntKind.wrap_i64];omega
 clear h hg
 by_cases hf:i+t.size<=s.size
 ·have hle:decide ((i:Int)+(t.size:Int)<=(s.size:Int))=true:=by simp;omega
  obtain ⟨X,hX⟩:∃X:ByteArray,X=⟨(subT s.data.toList i t.size).toArray⟩:=⟨_,rfl⟩
  have sl:∀wx,(Instr.slice 9 (.string s) (some (.int .i64 (i:Int))) (some (.int .i64 ((i:Int)+(t.size:Int)))) none).run Tryz.prog wx=.ok (.string X) wx:=fun wx=>by
   rw [hX]
   have:=run_sub s i (i+t.size) (by omega) hf wx
   rw [show i+t.size - i=t.size by omega,show ((i+t.size:Nat):Int)=(i:Int)+(t.size:Int) by omega] at this
   exact this
  have hp:=prefix_fits s.data.toList t.data.toList i (by simpa using hf)
  obtain ⟨r,hr⟩:∃r,(X.toList == t.toList)=r:=⟨_,rfl⟩
  have HP:Hid (Lib.hasPrefix (s.data.toList.drop i) t.data.toList=r):=by
   show _=_
   rw [hp,<-hr,toList_eq,hX]
   simp
  rw [HP.out]
  clear hX hp hf hi hs ht
  cases r with
  | true =>
   go_enter Tryz.func36,Tryz.ntmps36
   go_wp2
   go_quiet (fail)
   go_wp2
   go_ret
   exact ⟨rfl,_,rfl⟩
  | false =>
   go_enter Tryz.func36,Tryz.ntmps36
   go_wp2
   go_quiet (fail)
   go_wp2
   go_ret
   exact ⟨rfl,_,rfl⟩
 ·have hle:decide ((i:Int)+(t.size:Int)<=(s.size:Int))=false:=by simp;omega
  have HP:Hid (Lib.hasPrefix (s.data.toList.drop i) t.data.toList=false):=prefix_long s.data.toList t.data.toList i (by simpa using hf) (by simpa using hi)
  rw [HP.out]
  clear hf hi hs ht
  go_enter Tryz.func36,Tryz.ntmps36
  go_wp2
  go_quiet (fail)
  go_wp2
  go_ret
  exact ⟨rfl,_,rfl⟩
end Go.Proofs.YtonfldbigenfhaaGreatDoor
