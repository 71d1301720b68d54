import Derived.Test.YtbgnflcebafjjaaGreatDoorA26
import Derived.Test.YtbgnflcebafjjaaGreatDoorA21
namespace Go.Proofs.YtbgnflcebafjjaaGreatDoor
open Go.RowKit Go.Maps Go.WideMaps Go.Joins
set_option linter.unusedVariables false
def DhC:Prop:=∀(B P R:Nat) (s:ByteArray) (now i:Nat) (ns:List Tn) (own:List Nat) (w:World),Dt w B P R s now 0 (.ok i) ns own->P < B->s.size<=100000->nx s.data.toList i=91->Li s.data.toList ⟨i,ns,own,now⟩ →
 Calls Tryz.prog 28 #[.pointer (some ⟨R,0,none⟩)] w (PrPost B P R s now own (rdHead s.data.toList ⟨i,ns,own,now⟩) w)
theorem mfin_post {B P R:Nat} {s:ByteArray} {now now0:Nat} {ns:List Tn} {own own0:List Nat} {q:Rs Nat} {w w':World} (hd:Dq w' B P R s now 0 q ns own) (hf:DFr B P w w'):PrPost B P R s now0 own0 (mFin ns own now q) w (.returned (.tuple #[])) w':=by
 match q,hd with
 | .error e,hd=>exact ⟨rfl,fun d hh=>(by cases hh),fun c hh=>(by have hh:(Except.error e:Rs Sd)=.error c:=hh;injection hh with hh;subst hh;exact ⟨now,hd⟩),hf⟩
 | .ok j,hd=>exact ⟨rfl,fun d hh=>(by have hh:(Except.ok ⟨j,ns,own,now⟩:Rs Sd)=.ok d:=hh;injection hh with hh;subst hh;exact hd),fun c hh=>(by cases hh),hf⟩
set_option maxRecDepth 100000 in
set_option maxHeartbeats 6400000 in
theorem dLine_any (CH0:DhC) (B P R:Nat) (s:ByteArray) (now i:Nat) (ns:List Tn) (own:List Nat) (w:World) (h:Dt w B P R s now 0 (.ok i) ns own) (hB:P < B) (hs:s.size<=100000) (LI:Li s.data.toList ⟨i,ns,own,now⟩) :
  Calls Tryz.prog 18 #[.pointer (some ⟨R,0,none⟩)] w (PrPost B P R s now own (rdLine s.data.toList ⟨i,ns,own,now⟩) w):=by
 have hl:s.data.toList.length=s.size:=by simp
 have CB:Hid (∀now ns own (q:Rs Nat) w,Dq w B P R s now 0 q ns own->Calls Tryz.prog 26 #[.pointer (some ⟨R,0,none⟩)] w fun e w'=>e=.returned (.tuple #[])/\Dq w' B P R s now 0 (q.bind fun i=>.ok (bl s.data.toList i)) ns own/\DFr B P w w'):=fun now ns own q w h=>qBlanks B P R s now 0 ns own q w h hs
 have CC:Hid (∀now ns own (q:Rs Nat) w,Dq w B P R s now 0 q ns own->Calls Tryz.prog 30 #[.pointer (some ⟨R,0,none⟩)] w fun e w'=>e=.returned (.tuple #[])/\Dq w' B P R s now 0 (q.bind (cmtR s.data.toList)) ns own/\DFr B P w w'):=fun now ns own q w h=>qComment B P R s now 0 ns own q w h hs
 have CM:Hid (∀now ns own (q:Rs Nat) w,Dq w B P R s now 0 q ns own->Calls Tryz.prog 31 #[.pointer (some ⟨R,0,none⟩),.int .u8 10] w fun e w'=>e=.returned (.tuple #[])/\Dq w' B P R s now 0 (q.bind fun i=>must s.data.toList i 10) ns own/\DFr B P w w'):=fun now ns own q w h=>qMust B P R s now 0 ns own q w h hs 10 (by decide)
 have hi:i<=s.size:=h.cells.2.2.2.2.2.1
 have hbl:=bl_le s.data.toList i (by omega)
 have LB:=li_to LI (bl s.data.toList i) hbl.1 hbl.2
 have HG0:Hid (rdLine s.data.toList ⟨i,ns,own,now⟩=lend s.data.toList (if nx s.data.toList (bl s.data.toList i)=91 then rdHead s.data.toList ⟨bl s.data.toList i,ns,own,now⟩ else if ¬ nx s.data.toList (bl s.data.toList i)=-1/\¬ nx s.data.toList (bl s.data.toList i)=35/\¬ nx s.data.toList (bl s.data.toList i)=10 then rdPair s.data.toList ⟨bl s.data.toList i,ns,own,now⟩ else .ok ⟨bl s.data.toList i,ns,own,now⟩)):=rdLine_doc _ _
 have hn1:=LI.nn
 simp only [] at hn1
 obtain ⟨G,hG⟩:∃G,rdLine s.data.toList ⟨i,ns,own,now⟩=G:=⟨_,rfl⟩
 rw [hG] at HG0 ⊢
 obtain ⟨j,hj⟩:∃j,bl s.data.toList i=j:=⟨_,rfl⟩
 have HBJ:Hid ((Except.bind (.ok i) fun i=>.ok (bl s.data.toList i):Rs Nat)=.ok j):=by show Except.ok _=_;rw [hj]
 rw [hj] at HG0 LB hbl
 obtain ⟨hij,hjs⟩:=hbl
 have CI:Hid (∀w,Dq w B P R s now 0 (.ok j) ns own->Calls Tryz.prog 27 #[.pointer (some ⟨R,0,none⟩),.int .u8 91] w fun e w'=>e=.returned (.bool (decide (nx s.data.toList j=91)))/\Dq w' B P R s now 0 (.ok j) ns own/\DFr B P w w'):=fun w h=>qIs B P R s now 0 ns own (.ok j) w h hs 91 (by decide)
 have CHd:Hid (∀w,Dt w B P R s now 0 (.ok j) ns own->nx s.data.toList j=91->Calls Tryz.prog 28 #[.pointer (some ⟨R,0,none⟩)] w (PrPost B P R s now own (rdHead s.data.toList ⟨j,ns,own,now⟩) w)):=fun w h hx=>CH0 B P R s now j ns own w h hB hs hx LB
 have CP:Hid (∀w,Dt w B P R s now 0 (.ok j) ns own->Calls Tryz.prog 29 #[.pointer (some ⟨R,0,none⟩)] w (PrPost B P R s now own (rdPair s.data.toList ⟨j,ns,own,now⟩) w)):=fun w h=>dPair_any B P R s now j ns own w h LB.jt.wf LB.jt.wt LB.jt.lt (by rw [LB.jt.kd];decide) (by rw [hl] at hjs;omega) hs
 have HD0:Hid (Dq w B P R s now 0 (.ok i) ns own):=h
 have HX:Hid (∀(hk:j < s.size),nx s.data.toList j=(s[j].toNat:Int)):=byte_at s j
 have HXE:Hid (¬ j < s.size->nx s.data.toList j=-1):=fun hh=>nx_end _ _ (by omega)
 clear h hG hj LB LI CH0 hn1
 go_enter Tryz.func18,Tryz.ntmps18
 go_wp2_with (first | (go_at_call 26;refine (CB.out now ns own (.ok i) _ HD0.out).mono ?_))
 rintro e w1 ⟨rfl,hd1,hf1⟩
 rw [HBJ.out] at hd1
 have HD1:Hid (Dq w1 B P R s now 0 (.ok j) ns own):=hd1
 have HF1:Hid (DFr B P w w1):=hf1
 clear hd1 hf1
 by_cases h91:nx s.data.toList j=91
 ·rw [decide_eq_true h91] at CI
  have HG1:Hid (G=lend s.data.toList (rdHead s.data.toList ⟨j,ns,own,now⟩)):=by have:=HG0.out;rw [if_pos h91] at this;exact this
  have CH1:Hid (∀w,Dt w B P R s now 0 (.ok j) ns own->Calls Tryz.prog 28 #[.pointer (some ⟨R,0,none⟩)] w (PrPost B P R s now own (rdHead s.data.toList ⟨j,ns,own,now⟩) w)):=fun w h=>CHd.out w h h91
  obtain ⟨V,hV⟩:∃V,rdHead s.data.toList ⟨j,ns,own,now⟩=V:=⟨_,rfl⟩
  rw [hV] at HG1 CH1
  clear h91 hV
  go_wp2_with (first | (go_at_call 27;refine (CI.out _ HD1.out).mono ?_;rintro e w2 ⟨rfl,hd2,hf2⟩) | (go_at_call 28;refine (CH1.out _ hd2).mono ?_))
  rintro e w4 ⟨rfl,a1,a2,hf4⟩
  have HFQ:Hid (DFr B P w w4):=(HF1.out.two hf2).two hf4
  clear hd2 hf2 hf4
  match V,a1,a2,HG1 with
  | .error c,_,a2,HG1 =>
   obtain ⟨now',hd4⟩:=a2 c rfl
   obtain ⟨q1,hq1⟩:∃q1:Rs Nat,q1=.error c:=⟨_,rfl⟩
   have HQ1:Hid (Dq w4 B P R s now' 0 q1 ns own):=by rw [hq1];exact hd4
   have HTL:Hid (ltl s.data.toList ns own now' ((q1.bind fun i=>.ok (bl s.data.toList i)).bind (cmtR s.data.toList))=G):=by
    show _=_
    rw [hq1,HG1.out];rfl
   clear a1 a2 hd4 hq1
   go_wp2_with (first | (go_at_call 26;refine (CB.out now' ns own q1 _ HQ1.out).mono ?_;rintro e w5 ⟨rfl,hd5,hf5⟩) | (go_at_call 30;refine (CC.out now' ns own _ _ hd5).mono ?_))
   rintro e w6 ⟨rfl,hd6,hf6⟩
   have HF6:Hid (DFr B P w w6):=(HFQ.out.two hf5).two hf6
   have HQ6:Hid (Dq w6 B P R s now' 0 ((q1.bind fun i=>.ok (bl s.data.toList i)).bind (cmtR s.data.toList)) ns own):=hd6
   obtain ⟨q6,hq6⟩:∃q6,(q1.bind fun i=>.ok (bl s.data.toList i)).bind (cmtR s.data.toList)=q6:=⟨_,rfl⟩
   have HT6:Hid (ltl s.data.toList ns own now' q6=G):=by
    show _=_
    rw [<-hq6];exact HTL.out
   rw [hq6] at HQ6
   clear hd5 hf5 hd6 hf6 hq6
   match q6,HQ6,HT6 with
   | .error c,HQ6,HT6 =>
    obtain ⟨Lx,Ox,⟨y1,jj,y2,y3⟩,y4⟩:=HQ6.out
    obtain ⟨z0,z1,-,-,-,-,-,-,-⟩:=y3.cells
    have HGG:Hid (G=.error c):=HT6.out.symm
    clear y1 y3 y4
    by_cases hjj:jj < s.size
    ·have hlt1:decide ((jj:Int) < (s.size:Int))=true:=by simp;omega
     have hlt2:(jj:Int) < (s.size:Int):=by omega
     go_wp2
     go_quiet (fail)
     have HDA:=Fq.drew HQ6.out nq
     have HDA1:Hid (Dq (w6.drewN nq) B P R s now' 0 (.error c) ns own):=HDA.1
     have HFA:Hid (DFr B P w (w6.drewN nq)):=HF6.out.two HDA.2
     obtain ⟨wA,hwA⟩:∃W,w6.drewN nq=W:=⟨_,rfl⟩
     rw [hwA] at HDA1 HFA ⊢
     clear hwA HDA z0 z1
     go_wp2_with (first | (go_at_call 31;refine (CM.out now' ns own (.error c) _ HDA1.out).mono ?_;rintro e w7 ⟨rfl,hd7,hf7⟩))
     refine bodyPost_end (results_none rfl _ _ _) rfl ?_
     rw [HGG.out]
     exact ⟨rfl,fun d hh=>(by cases hh),fun c' hh=>(by injection hh with hh;subst hh;exact ⟨now',hd7⟩),HFA.out.two hf7⟩
    ·have hlt1:decide ((jj:Int) < (s.size:Int))=false:=by simp;omega
     have hlt2:¬ (jj:Int) < (s.size:Int):=by omega
     go_wp2
     go_quiet (fail)
     have HDA:=Fq.drew HQ6.out nq
     have HDA1:Hid (Fq (w6.drewN nq) B P R s now' 0 c):=HDA.1
     have HFA:Hid (DFr B P w (w6.drewN nq)):=HF6.out.two HDA.2
     go_wp2
     refine bodyPost_end (results_none rfl _ _ _) rfl ?_
     rw [HGG.out]
     exact ⟨rfl,fun d hh=>(by cases hh),fun c' hh=>(by injection hh with hh;subst hh;exact ⟨now',HDA1.out⟩),HFA.out⟩
   | .ok m,HQ6,HT6 =>
    obtain ⟨z0,z1,-,-,-,hms,-⟩:=Dt.cells HQ6.out
    by_cases hm:m < s.size
    ·have hlt1:decide ((m:Int) < (s.size:Int))=true:=by simp;omega
     have hlt2:(m:Int) < (s.size:Int):=by omega
     have HGM:Hid (mFin ns own now' (must s.data.toList m 10)=G):=(ltl_in s.data.toList ns own now' m (by omega)).symm.trans HT6.out
     go_wp2
     go_quiet (fail)
     have HDA:=Dt.drew HQ6.out nq
     have HDA1:Hid (Dq (w6.drewN nq) B P R s now' 0 (.ok m) ns own):=HDA.1
     have HFA:Hid (DFr B P w (w6.drewN nq)):=HF6.out.two HDA.2
     obtain ⟨wA,hwA⟩:∃W,w6.drewN nq=W:=⟨_,rfl⟩
     rw [hwA] at HDA1 HFA ⊢
     clear hwA HDA z0 z1
     go_wp2_with (first | (go_at_call 31;refine (CM.out now' ns own (.ok m) _ HDA1.out).mono ?_;rintro e w7 ⟨rfl,hd7,hf7⟩))
     refine bodyPost_end (results_none rfl _ _ _) rfl ?_
     have hd7':Dq w7 B P R s now' 0 (must s.data.toList m 10) ns own:=hd7
     rw [<-HGM.out]
     exact mfin_post hd7' (HFA.out.two hf7)
    ·have hlt1:decide ((m:Int) < (s.size:Int))=false:=by simp;omega
     have hlt2:¬ (m:Int) < (s.size:Int):=by omega
     have HGG:Hid (G=.ok ⟨m,ns,own,now'⟩):=HT6.out.symm.trans (ltl_end s.data.toList ns own now' m (by omega))
     go_wp2
     go_quiet (fail)
     have HDA:=Dt.drew HQ6.out nq
     have HDA1:Hid (Dt (w6.drewN nq) B P R s now' 0 (.ok m) ns own):=HDA.1
     have HFA:Hid (DFr B P w (w6.drewN nq)):=HF6.out.two HDA.2
     go_wp2
     refine bodyPost_end (results_none rfl _ _ _) rfl ?_
     rw [HGG.out]
     exact ⟨rfl,fun d hh=>(by cases hh;exact HDA1.out),fun c' hh=>(by cases hh),HFA.out⟩
  | .ok d,a1,_,HG1 =>
   have hd4:=a1 d rfl
   obtain ⟨q1,hq1⟩:∃q1:Rs Nat,q1=.ok d.i:=⟨_,rfl⟩
   have HQ1:Hid (Dq w4 B P R s d.now 0 q1 d.ns d.own):=by rw [hq1];exact hd4
   have HTL:Hid (ltl s.data.toList d.ns d.own d.now ((q1.bind fun i=>.ok (bl s.data.toList i)).bind (cmtR s.data.toList))=G):=by
    show _=_
    rw [hq1,HG1.out];rfl
   clear a1 a2 hd4 hq1
   go_wp2_with (first | (go_at_call 26;refine (CB.out d.now d.ns d.own q1 _ HQ1.out).mono ?_;rintro e w5 ⟨rfl,hd5,hf5⟩) | (go_at_call 30;refine (CC.out d.now d.ns d.own _ _ hd5).mono ?_))
   rintro e w6 ⟨rfl,hd6,hf6⟩
   have HF6:Hid (DFr B P w w6):=(HFQ.out.two hf5).two hf6
   have HQ6:Hid (Dq w6 B P R s d.now 0 ((q1.bind fun i=>.ok (bl s.data.toList i)).bind (cmtR s.data.toList)) d.ns d.own):=hd6
   obtain ⟨q6,hq6⟩:∃q6,(q1.bind fun i=>.ok (bl s.data.toList i)).bind (cmtR s.data.toList)=q6:=⟨_,rfl⟩
   have HT6:Hid (ltl s.data.toList d.ns d.own d.now q6=G):=by
    show _=_
    rw [<-hq6];exact HTL.out
   rw [hq6] at HQ6
   clear hd5 hf5 hd6 hf6 hq6
   match q6,HQ6,HT6 with
   | .error c,HQ6,HT6 =>
    obtain ⟨Lx,Ox,⟨y1,jj,y2,y3⟩,y4⟩:=HQ6.out
    obtain ⟨z0,z1,-,-,-,-,-,-,-⟩:=y3.cells
    have HGG:Hid (G=.error c):=HT6.out.symm
    clear y1 y3 y4
    by_cases hjj:jj < s.size
    ·have hlt1:decide ((jj:Int) < (s.size:Int))=true:=by simp;omega
     have hlt2:(jj:Int) < (s.size:Int):=by omega
     go_wp2
     go_quiet (fail)
     have HDA:=Fq.drew HQ6.out nq
     have HDA1:Hid (Dq (w6.drewN nq) B P R s d.now 0 (.error c) d.ns d.own):=HDA.1
     have HFA:Hid (DFr B P w (w6.drewN nq)):=HF6.out.two HDA.2
     obtain ⟨wA,hwA⟩:∃W,w6.drewN nq=W:=⟨_,rfl⟩
     rw [hwA] at HDA1 HFA ⊢
     clear hwA HDA z0 z1
     go_wp2_with (first | (go_at_call 31;refine (CM.out d.now d.ns d.own (.error c) _ HDA1.out).mono ?_;rintro e w7 ⟨rfl,hd7,hf7⟩))
     refine bodyPost_end (results_none rfl _ _ _) rfl ?_
     rw [HGG.out]
     exact ⟨rfl,fun d hh=>(by cases hh),fun c' hh=>(by injection hh with hh;subst hh;exact ⟨d.now,hd7⟩),HFA.out.two hf7⟩
    ·have hlt1:decide ((jj:Int) < (s.size:Int))=false:=by simp;omega
     have hlt2:¬ (jj:Int) < (s.size:Int):=by omega
     go_wp2
     go_quiet (fail)
     have HDA:=Fq.drew HQ6.out nq
     have HDA1:Hid (Fq (w6.drewN nq) B P R s d.now 0 c):=HDA.1
     have HFA:Hid (DFr B P w (w6.drewN nq)):=HF6.out.two HDA.2
     go_wp2
     refine bodyPost_end (results_none rfl _ _ _) rfl ?_
     rw [HGG.out]
     exact ⟨rfl,fun d hh=>(by cases hh),fun c' hh=>(by injection hh with hh;subst hh;exact ⟨d.now,HDA1.out⟩),HFA.out⟩
   | .ok m,HQ6,HT6 =>
    obtain ⟨z0,z1,-,-,-,hms,-⟩:=Dt.cells HQ6.out
    by_cases hm:m < s.size
    ·have hlt1:decide ((m:Int) < (s.size:Int))=true:=by simp;omega
     have hlt2:(m:Int) < (s.size:Int):=by omega
     have HGM:Hid (mFin d.ns d.own d.now (must s.data.toList m 10)=G):=(ltl_in s.data.toList d.ns d.own d.now m (by omega)).symm.trans HT6.out
     go_wp2
     go_quiet (fail)
     have HDA:=Dt.drew HQ6.out nq
     have HDA1:Hid (Dq (w6.drewN nq) B P R s d.now 0 (.ok m) d.ns d.own):=HDA.1
     have HFA:Hid (DFr B P w (w6.drewN nq)):=HF6.out.two HDA.2
     obtain ⟨wA,hwA⟩:∃W,w6.drewN nq=W:=⟨_,rfl⟩
     rw [hwA] at HDA1 HFA ⊢
     clear hwA HDA z0 z1
     go_wp2_with (first | (go_at_call 31;refine (CM.out d.now d.ns d.own (.ok m) _ HDA1.out).mono ?_;rintro e w7 ⟨rfl,hd7,hf7⟩))
     refine bodyPost_end (results_none rfl _ _ _) rfl ?_
     have hd7':Dq w7 B P R s d.now 0 (must s.data.toList m 10) d.ns d.own:=hd7
     rw [<-HGM.out]
     exact mfin_post hd7' (HFA.out.two hf7)
    ·have hlt1:decide ((m:Int) < (s.size:Int))=false:=by simp;omega
     have hlt2:¬ (m:Int) < (s.size:Int):=by omega
     have HGG:Hid (G=.ok ⟨m,d.ns,d.own,d.now⟩):=HT6.out.symm.trans (ltl_end s.data.toList d.ns d.own d.now m (by omega))
     go_wp2
     go_quiet (fail)
     have HDA:=Dt.drew HQ6.out nq
     have HDA1:Hid (Dt (w6.drewN nq) B P R s d.now 0 (.ok m) d.ns d.own):=HDA.1
     have HFA:Hid (DFr B P w (w6.drewN nq)):=HF6.out.two HDA.2
     go_wp2
     refine bodyPost_end (results_none rfl _ _ _) rfl ?_
     rw [HGG.out]
     exact ⟨rfl,fun d hh=>(by cases hh;exact HDA1.out),fun c' hh=>(by cases hh),HFA.out⟩
 ·rw [decide_eq_false h91] at CI
  go_wp2_with (first | (go_at_call 27;refine (CI.out _ HD1.out).mono ?_))
  rintro e w2 ⟨rfl,hd2,hf2⟩
  have HD2:Hid (Dt w2 B P R s now 0 (.ok j) ns own):=hd2
  have HF2:Hid (DFr B P w w2):=HF1.out.two hf2
  obtain ⟨c0,c1,-,-,-,-,-⟩:=HD2.out.cells
  clear hd2 hf2
  by_cases hjl:j < s.size
  ·have hlt1:decide ((j:Int) < (s.size:Int))=true:=by simp;omega
   have hxj:=HX.out hjl
   obtain ⟨b35,hb35⟩:∃b,((s[j].toNat:Int) != 35)=b:=⟨_,rfl⟩
   obtain ⟨b10,hb10⟩:∃b,((s[j].toNat:Int) != 10)=b:=⟨_,rfl⟩
   by_cases hpp:b35=true/\b10=true
   ·obtain ⟨rfl,rfl⟩:=hpp
    have HG1:Hid (G=lend s.data.toList (rdPair s.data.toList ⟨j,ns,own,now⟩)):=by
     have:=HG0.out
     rw [if_neg h91,if_pos ⟨by rw [hxj];omega,by rw [hxj];simpa using hb35,by rw [hxj];simpa using hb10⟩] at this
     exact this
    have CP1:Hid (∀w,Dt w B P R s now 0 (.ok j) ns own->Calls Tryz.prog 29 #[.pointer (some ⟨R,0,none⟩)] w (PrPost B P R s now own (rdPair s.data.toList ⟨j,ns,own,now⟩) w)):=CP.out
    obtain ⟨V,hV⟩:∃V,rdPair s.data.toList ⟨j,ns,own,now⟩=V:=⟨_,rfl⟩
    rw [hV] at HG1 CP1
    clear h91 hV hxj CP
    go_wp2
    go_quiet (fail)
    have HDA:=HD2.out.drew nq
    have HDA1:Hid (Dt (w2.drewN nq) B P R s now 0 (.ok j) ns own):=HDA.1
    have HFA:Hid (DFr B P w (w2.drewN nq)):=HF2.out.two HDA.2
    obtain ⟨wA,hwA⟩:∃W,w2.drewN nq=W:=⟨_,rfl⟩
    rw [hwA] at HDA1 HFA ⊢
    clear hwA HDA c0 c1
    go_wp2_with (first | (go_at_call 29;refine (CP1.out _ HDA1.out).mono ?_))
    rintro e w4 ⟨rfl,a1,a2,hf4⟩
    have HFQ:Hid (DFr B P w w4):=HFA.out.two hf4
    clear hf4
    match V,a1,a2,HG1 with
    | .error c,_,a2,HG1 =>
     obtain ⟨now',hd4⟩:=a2 c rfl
     obtain ⟨q1,hq1⟩:∃q1:Rs Nat,q1=.error c:=⟨_,rfl⟩
     have HQ1:Hid (Dq w4 B P R s now' 0 q1 ns own):=by rw [hq1];exact hd4
     have HTL:Hid (ltl s.data.toList ns own now' ((q1.bind fun i=>.ok (bl s.data.toList i)).bind (cmtR s.data.toList))=G):=by
      show _=_
      rw [hq1,HG1.out];rfl
     clear a1 a2 hd4 hq1
     go_wp2_with (first | (go_at_call 26;refine (CB.out now' ns own q1 _ HQ1.out).mono ?_;rintro e w5 ⟨rfl,hd5,hf5⟩) | (go_at_call 30;refine (CC.out now' ns own _ _ hd5).mono ?_))
     rintro e w6 ⟨rfl,hd6,hf6⟩
     have HF6:Hid (DFr B P w w6):=(HFQ.out.two hf5).two hf6
     have HQ6:Hid (Dq w6 B P R s now' 0 ((q1.bind fun i=>.ok (bl s.data.toList i)).bind (cmtR s.data.toList)) ns own):=hd6
     obtain ⟨q6,hq6⟩:∃q6,(q1.bind fun i=>.ok (bl s.data.toList i)).bind (cmtR s.data.toList)=q6:=⟨_,rfl⟩
     have HT6:Hid (ltl s.data.toList ns own now' q6=G):=by
      show _=_
      rw [<-hq6];exact HTL.out
     rw [hq6] at HQ6
     clear hd5 hf5 hd6 hf6 hq6
     match q6,HQ6,HT6 with
     | .error c,HQ6,HT6 =>
      obtain ⟨Lx,Ox,⟨y1,jj,y2,y3⟩,y4⟩:=HQ6.out
      obtain ⟨z0,z1,-,-,-,-,-,-,-⟩:=y3.cells
      have HGG:Hid (G=.error c):=HT6.out.symm
      clear y1 y3 y4
      by_cases hjj:jj < s.size
      ·have hlt1:decide ((jj:Int) < (s.size:Int))=true:=by simp;omega
       have hlt2:(jj:Int) < (s.size:Int):=by omega
       go_wp2
       go_quiet (fail)
       have HDA:=Fq.drew HQ6.out nq
       have HDA1:Hid (Dq (w6.drewN nq) B P R s now' 0 (.error c) ns own):=HDA.1
       have HFA:Hid (DFr B P w (w6.drewN nq)):=HF6.out.two HDA.2
       obtain ⟨wA,hwA⟩:∃W,w6.drewN nq=W:=⟨_,rfl⟩
       rw [hwA] at HDA1 HFA ⊢
       clear hwA HDA z0 z1
       go_wp2_with (first | (go_at_call 31;refine (CM.out now' ns own (.error c) _ HDA1.out).mono ?_;rintro e w7 ⟨rfl,hd7,hf7⟩))
       refine bodyPost_end (results_none rfl _ _ _) rfl ?_
       rw [HGG.out]
       exact ⟨rfl,fun d hh=>(by cases hh),fun c' hh=>(by injection hh with hh;subst hh;exact ⟨now',hd7⟩),HFA.out.two hf7⟩
      ·have hlt1:decide ((jj:Int) < (s.size:Int))=false:=by simp;omega
       have hlt2:¬ (jj:Int) < (s.size:Int):=by omega
       go_wp2
       go_quiet (fail)
       have HDA:=Fq.drew HQ6.out nq
       have HDA1:Hid (Fq (w6.drewN nq) B P R s now' 0 c):=HDA.1
       have HFA:Hid (DFr B P w (w6.drewN nq)):=HF6.out.two HDA.2
       go_wp2
       refine bodyPost_end (results_none rfl _ _ _) rfl ?_
       rw [HGG.out]
       exact ⟨rfl,fun d hh=>(by cases hh),fun c' hh=>(by injection hh with hh;subst hh;exact ⟨now',HDA1.out⟩),HFA.out⟩
     | .ok m,HQ6,HT6 =>
      obtain ⟨z0,z1,-,-,-,hms,-⟩:=Dt.cells HQ6.out
      by_cases hm:m < s.size
      ·have hlt1:decide ((m:Int) < (s.size:Int))=true:=by simp;omega
       have hlt2:(m:Int) < (s.size:Int):=by omega
       have HGM:Hid (mFin ns own now' (must s.data.toList m 10)=G):=(ltl_in s.data.toList ns own now' m (by omega)).symm.trans HT6.out
       go_wp2
       go_quiet (fail)
       have HDA:=Dt.drew HQ6.out nq
       have HDA1:Hid (Dq (w6.drewN nq) B P R s now' 0 (.ok m) ns own):=HDA.1
       have HFA:Hid (DFr B P w (w6.drewN nq)):=HF6.out.two HDA.2
       obtain ⟨wA,hwA⟩:∃W,w6.drewN nq=W:=⟨_,rfl⟩
       rw [hwA] at HDA1 HFA ⊢
       clear hwA HDA z0 z1
       go_wp2_with (first | (go_at_call 31;refine (CM.out now' ns own (.ok m) _ HDA1.out).mono ?_;rintro e w7 ⟨rfl,hd7,hf7⟩))
       refine bodyPost_end (results_none rfl _ _ _) rfl ?_
       have hd7':Dq w7 B P R s now' 0 (must s.data.toList m 10) ns own:=hd7
       rw [<-HGM.out]
       exact mfin_post hd7' (HFA.out.two hf7)
      ·have hlt1:decide ((m:Int) < (s.size:Int))=false:=by simp;omega
       have hlt2:¬ (m:Int) < (s.size:Int):=by omega
       have HGG:Hid (G=.ok ⟨m,ns,own,now'⟩):=HT6.out.symm.trans (ltl_end s.data.toList ns own now' m (by omega))
       go_wp2
       go_quiet (fail)
       have HDA:=Dt.drew HQ6.out nq
       have HDA1:Hid (Dt (w6.drewN nq) B P R s now' 0 (.ok m) ns own):=HDA.1
       have HFA:Hid (DFr B P w (w6.drewN nq)):=HF6.out.two HDA.2
       go_wp2
       refine bodyPost_end (results_none rfl _ _ _) rfl ?_
       rw [HGG.out]
       exact ⟨rfl,fun d hh=>(by cases hh;exact HDA1.out),fun c' hh=>(by cases hh),HFA.out⟩
    | .ok d,a1,_,HG1 =>
     have hd4:=a1 d rfl
     obtain ⟨q1,hq1⟩:∃q1:Rs Nat,q1=.ok d.i:=⟨_,rfl⟩
     have HQ1:Hid (Dq w4 B P R s d.now 0 q1 d.ns d.own):=by rw [hq1];exact hd4
     have HTL:Hid (ltl s.data.toList d.ns d.own d.now ((q1.bind fun i=>.ok (bl s.data.toList i)).bind (cmtR s.data.toList))=G):=by
      show _=_
      rw [hq1,HG1.out];rfl
     clear a1 a2 hd4 hq1
     go_wp2_with (first | (go_at_call 26;refine (CB.out d.now d.ns d.own q1 _ HQ1.out).mono ?_;rintro e w5 ⟨rfl,hd5,hf5⟩) | (go_at_call 30;refine (CC.out d.now d.ns d.own _ _ hd5).mono ?_))
     rintro e w6 ⟨rfl,hd6,hf6⟩
     have HF6:Hid (DFr B P w w6):=(HFQ.out.two hf5).two hf6
     have HQ6:Hid (Dq w6 B P R s d.now 0 ((q1.bind fun i=>.ok (bl s.data.toList i)).bind (cmtR s.data.toList)) d.ns d.own):=hd6
     obtain ⟨q6,hq6⟩:∃q6,(q1.bind fun i=>.ok (bl s.data.toList i)).bind (cmtR s.data.toList)=q6:=⟨_,rfl⟩
     have HT6:Hid (ltl s.data.toList d.ns d.own d.now q6=G):=by
      show _=_
      rw [<-hq6];exact HTL.out
     rw [hq6] at HQ6
     clear hd5 hf5 hd6 hf6 hq6
     match q6,HQ6,HT6 with
     | .error c,HQ6,HT6 =>
      obtain ⟨Lx,Ox,⟨y1,jj,y2,y3⟩,y4⟩:=HQ6.out
      obtain ⟨z0,z1,-,-,-,-,-,-,-⟩:=y3.cells
      have HGG:Hid (G=.error c):=HT6.out.symm
      clear y1 y3 y4
      by_cases hjj:jj < s.size
      ·have hlt1:decide ((jj:Int) < (s.size:Int))=true:=by simp;omega
       have hlt2:(jj:Int) < (s.size:Int):=by omega
       go_wp2
       go_quiet (fail)
       have HDA:=Fq.drew HQ6.out nq
       have HDA1:Hid (Dq (w6.drewN nq) B P R s d.now 0 (.error c) d.ns d.own):=HDA.1
       have HFA:Hid (DFr B P w (w6.drewN nq)):=HF6.out.two HDA.2
       obtain ⟨wA,hwA⟩:∃W,w6.drewN nq=W:=⟨_,rfl⟩
       rw [hwA] at HDA1 HFA ⊢
       clear hwA HDA z0 z1
       go_wp2_with (first | (go_at_call 31;refine (CM.out d.now d.ns d.own (.error c) _ HDA1.out).mono ?_;rintro e w7 ⟨rfl,hd7,hf7⟩))
       refine bodyPost_end (results_none rfl _ _ _) rfl ?_
       rw [HGG.out]
       exact ⟨rfl,fun d hh=>(by cases hh),fun c' hh=>(by injection hh with hh;subst hh;exact ⟨d.now,hd7⟩),HFA.out.two hf7⟩
      ·have hlt1:decide ((jj:Int) < (s.size:Int))=false:=by simp;omega
       have hlt2:¬ (jj:Int) < (s.size:Int):=by omega
       go_wp2
       go_quiet (fail)
       have HDA:=Fq.drew HQ6.out nq
       have HDA1:Hid (Fq (w6.drewN nq) B P R s d.now 0 c):=HDA.1
       have HFA:Hid (DFr B P w (w6.drewN nq)):=HF6.out.two HDA.2
       go_wp2
       refine bodyPost_end (results_none rfl _ _ _) rfl ?_
       rw [HGG.out]
       exact ⟨rfl,fun d hh=>(by cases hh),fun c' hh=>(by injection hh with hh;subst hh;exact ⟨d.now,HDA1.out⟩),HFA.out⟩
     | .ok m,HQ6,HT6 =>
      obtain ⟨z0,z1,-,-,-,hms,-⟩:=Dt.cells HQ6.out
      by_cases hm:m < s.size
      ·have hlt1:decide ((m:Int) < (s.size:Int))=true:=by simp;omega
       have hlt2:(m:Int) < (s.size:Int):=by omega
       have HGM:Hid (mFin d.ns d.own d.now (must s.data.toList m 10)=G):=(ltl_in s.data.toList d.ns d.own d.now m (by omega)).symm.trans HT6.out
       go_wp2
       go_quiet (fail)
       have HDA:=Dt.drew HQ6.out nq
       have HDA1:Hid (Dq (w6.drewN nq) B P R s d.now 0 (.ok m) d.ns d.own):=HDA.1
       have HFA:Hid (DFr B P w (w6.drewN nq)):=HF6.out.two HDA.2
       obtain ⟨wA,hwA⟩:∃W,w6.drewN nq=W:=⟨_,rfl⟩
       rw [hwA] at HDA1 HFA ⊢
       clear hwA HDA z0 z1
       go_wp2_with (first | (go_at_call 31;refine (CM.out d.now d.ns d.own (.ok m) _ HDA1.out).mono ?_;rintro e w7 ⟨rfl,hd7,hf7⟩))
       refine bodyPost_end (results_none rfl _ _ _) rfl ?_
       have hd7':Dq w7 B P R s d.now 0 (must s.data.toList m 10) d.ns d.own:=hd7
       rw [<-HGM.out]
       exact mfin_post hd7' (HFA.out.two hf7)
      ·have hlt1:decide ((m:Int) < (s.size:Int))=false:=by simp;omega
       have hlt2:¬ (m:Int) < (s.size:Int):=by omega
       have HGG:Hid (G=.ok ⟨m,d.ns,d.own,d.now⟩):=HT6.out.symm.trans (ltl_end s.data.toList d.ns d.own d.now m (by omega))
       go_wp2
       go_quiet (fail)
       have HDA:=Dt.drew HQ6.out nq
       have HDA1:Hid (Dt (w6.drewN nq) B P R s d.now 0 (.ok m) d.ns d.own):=HDA.1
       have HFA:Hid (DFr B P w (w6.drewN nq)):=HF6.out.two HDA.2
       go_wp2
       refine bodyPost_end (results_none rfl _ _ _) rfl ?_
       rw [HGG.out]
       exact ⟨rfl,fun d hh=>(by cases hh;exact HDA1.out),fun c' hh=>(by cases hh),HFA.out⟩
   ·have HG1:Hid (G=lend s.data.toList (.ok ⟨j,ns,own,now⟩)):=by
     have:=HG0.out
     rw [if_neg h91,if_neg (fun hh=>hpp ⟨by rw [<-hb35];simpa [hxj] using hh.2.1,by rw [<-hb10];simpa [hxj] using hh.2.2⟩)] at this
     exact this
    clear h91 hxj CP
    cases b35 with
    | false =>
     go_wp2
     go_quiet (fail)
     have HDA:=HD2.out.drew nq
     have HFQ:Hid (DFr B P w (w2.drewN nq)):=HF2.out.two HDA.2
     obtain ⟨q1,hq1⟩:∃q1:Rs Nat,q1=.ok j:=⟨_,rfl⟩
     have HQ1:Hid (Dq (w2.drewN nq) B P R s now 0 q1 ns own):=by rw [hq1];exact HDA.1
     have HTL:Hid (ltl s.data.toList ns own now ((q1.bind fun i=>.ok (bl s.data.toList i)).bind (cmtR s.data.toList))=G):=by
      show _=_
      rw [hq1,HG1.out];rfl
     obtain ⟨wA,hwA⟩:∃W,w2.drewN nq=W:=⟨_,rfl⟩
     rw [hwA] at HQ1 HFQ ⊢
     clear hwA HDA c0 c1 hq1
     go_wp2_with (first | (go_at_call 26;refine (CB.out now ns own q1 _ HQ1.out).mono ?_;rintro e w5 ⟨rfl,hd5,hf5⟩) | (go_at_call 30;refine (CC.out now ns own _ _ hd5).mono ?_))
     rintro e w6 ⟨rfl,hd6,hf6⟩
     have HF6:Hid (DFr B P w w6):=(HFQ.out.two hf5).two hf6
     have HQ6:Hid (Dq w6 B P R s now 0 ((q1.bind fun i=>.ok (bl s.data.toList i)).bind (cmtR s.data.toList)) ns own):=hd6
     obtain ⟨q6,hq6⟩:∃q6,(q1.bind fun i=>.ok (bl s.data.toList i)).bind (cmtR s.data.toList)=q6:=⟨_,rfl⟩
     have HT6:Hid (ltl s.data.toList ns own now q6=G):=by
      show _=_
      rw [<-hq6];exact HTL.out
     rw [hq6] at HQ6
     clear hd5 hf5 hd6 hf6 hq6
     match q6,HQ6,HT6 with
     | .error c,HQ6,HT6 =>
      obtain ⟨Lx,Ox,⟨y1,jj,y2,y3⟩,y4⟩:=HQ6.out
      obtain ⟨z0,z1,-,-,-,-,-,-,-⟩:=y3.cells
      have HGG:Hid (G=.error c):=HT6.out.symm
      clear y1 y3 y4
      by_cases hjj:jj < s.size
      ·have hlt1:decide ((jj:Int) < (s.size:Int))=true:=by simp;omega
       have hlt2:(jj:Int) < (s.size:Int):=by omega
       go_wp2
       go_quiet (fail)
       have HDA:=Fq.drew HQ6.out nq
       have HDA1:Hid (Dq (w6.drewN nq) B P R s now 0 (.error c) ns own):=HDA.1
       have HFA:Hid (DFr B P w (w6.drewN nq)):=HF6.out.two HDA.2
       obtain ⟨wA,hwA⟩:∃W,w6.drewN nq=W:=⟨_,rfl⟩
       rw [hwA] at HDA1 HFA ⊢
       clear hwA HDA z0 z1
       go_wp2_with (first | (go_at_call 31;refine (CM.out now ns own (.error c) _ HDA1.out).mono ?_;rintro e w7 ⟨rfl,hd7,hf7⟩))
       refine bodyPost_end (results_none rfl _ _ _) rfl ?_
       rw [HGG.out]
       exact ⟨rfl,fun d hh=>(by cases hh),fun c' hh=>(by injection hh with hh;subst hh;exact ⟨now,hd7⟩),HFA.out.two hf7⟩
      ·have hlt1:decide ((jj:Int) < (s.size:Int))=false:=by simp;omega
       have hlt2:¬ (jj:Int) < (s.size:Int):=by omega
       go_wp2
       go_quiet (fail)
       have HDA:=Fq.drew HQ6.out nq
       have HDA1:Hid (Fq (w6.drewN nq) B P R s now 0 c):=HDA.1
       have HFA:Hid (DFr B P w (w6.drewN nq)):=HF6.out.two HDA.2
       go_wp2
       refine bodyPost_end (results_none rfl _ _ _) rfl ?_
       rw [HGG.out]
       exact ⟨rfl,fun d hh=>(by cases hh),fun c' hh=>(by injection hh with hh;subst hh;exact ⟨now,HDA1.out⟩),HFA.out⟩
     | .ok m,HQ6,HT6 =>
      obtain ⟨z0,z1,-,-,-,hms,-⟩:=Dt.cells HQ6.out
      by_cases hm:m < s.size
      ·have hlt1:decide ((m:Int) < (s.size:Int))=true:=by simp;omega
       have hlt2:(m:Int) < (s.size:Int):=by omega
       have HGM:Hid (mFin ns own now (must s.data.toList m 10)=G):=(ltl_in s.data.toList ns own now m (by omega)).symm.trans HT6.out
       go_wp2
       go_quiet (fail)
       have HDA:=Dt.drew HQ6.out nq
       have HDA1:Hid (Dq (w6.drewN nq) B P R s now 0 (.ok m) ns own):=HDA.1
       have HFA:Hid (DFr B P w (w6.drewN nq)):=HF6.out.two HDA.2
       obtain ⟨wA,hwA⟩:∃W,w6.drewN nq=W:=⟨_,rfl⟩
       rw [hwA] at HDA1 HFA ⊢
       clear hwA HDA z0 z1
       go_wp2_with (first | (go_at_call 31;refine (CM.out now ns own (.ok m) _ HDA1.out).mono ?_;rintro e w7 ⟨rfl,hd7,hf7⟩))
       refine bodyPost_end (results_none rfl _ _ _) rfl ?_
       have hd7':Dq w7 B P R s now 0 (must s.data.toList m 10) ns own:=hd7
       rw [<-HGM.out]
       exact mfin_post hd7' (HFA.out.two hf7)
      ·have hlt1:decide ((m:Int) < (s.size:Int))=false:=by simp;omega
       have hlt2:¬ (m:Int) < (s.size:Int):=by omega
       have HGG:Hid (G=.ok ⟨m,ns,own,now⟩):=HT6.out.symm.trans (ltl_end s.data.toList ns own now m (by omega))
       go_wp2
       go_quiet (fail)
       have HDA:=Dt.drew HQ6.out nq
       have HDA1:Hid (Dt (w6.drewN nq) B P R s now 0 (.ok m) ns own):=HDA.1
       have HFA:Hid (DFr B P w (w6.drewN nq)):=HF6.out.two HDA.2
       go_wp2
       refine bodyPost_end (results_none rfl _ _ _) rfl ?_
       rw [HGG.out]
       exact ⟨rfl,fun d hh=>(by cases hh;exact HDA1.out),fun c' hh=>(by cases hh),HFA.out⟩
    | true =>
     cases b10 with
     | true=>exact (hpp ⟨rfl,rfl⟩).elim
     | false =>
      go_wp2
      go_quiet (fail)
      have HDA:=HD2.out.drew nq
      have HFQ:Hid (DFr B P w (w2.drewN nq)):=HF2.out.two HDA.2
      obtain ⟨q1,hq1⟩:∃q1:Rs Nat,q1=.ok j:=⟨_,rfl⟩
      have HQ1:Hid (Dq (w2.drewN nq) B P R s now 0 q1 ns own):=by rw [hq1];exact HDA.1
      have HTL:Hid (ltl s.data.toList ns own now ((q1.bind fun i=>.ok (bl s.data.toList i)).bind (cmtR s.data.toList))=G):=by
       show _=_
       rw [hq1,HG1.out];rfl
      obtain ⟨wA,hwA⟩:∃W,w2.drewN nq=W:=⟨_,rfl⟩
      rw [hwA] at HQ1 HFQ ⊢
      clear hwA HDA c0 c1 hq1
      go_wp2_with (first | (go_at_call 26;refine (CB.out now ns own q1 _ HQ1.out).mono ?_;rintro e w5 ⟨rfl,hd5,hf5⟩) | (go_at_call 30;refine (CC.out now ns own _ _ hd5).mono ?_))
      rintro e w6 ⟨rfl,hd6,hf6⟩
      have HF6:Hid (DFr B P w w6):=(HFQ.out.two hf5).two hf6
      have HQ6:Hid (Dq w6 B P R s now 0 ((q1.bind fun i=>.ok (bl s.data.toList i)).bind (cmtR s.data.toList)) ns own):=hd6
      obtain ⟨q6,hq6⟩:∃q6,(q1.bind fun i=>.ok (bl s.data.toList i)).bind (cmtR s.data.toList)=q6:=⟨_,rfl⟩
      have HT6:Hid (ltl s.data.toList ns own now q6=G):=by
       show _=_
       rw [<-hq6];exact HTL.out
      rw [hq6] at HQ6
      clear hd5 hf5 hd6 hf6 hq6
      match q6,HQ6,HT6 with
      | .error c,HQ6,HT6 =>
       obtain ⟨Lx,Ox,⟨y1,jj,y2,y3⟩,y4⟩:=HQ6.out
       obtain ⟨z0,z1,-,-,-,-,-,-,-⟩:=y3.cells
       have HGG:Hid (G=.error c):=HT6.out.symm
       clear y1 y3 y4
       by_cases hjj:jj < s.size
       ·have hlt1:decide ((jj:Int) < (s.size:Int))=true:=by simp;omega
        have hlt2:(jj:Int) < (s.size:Int):=by omega
        go_wp2
        go_quiet (fail)
        have HDA:=Fq.drew HQ6.out nq
        have HDA1:Hid (Dq (w6.drewN nq) B P R s now 0 (.error c) ns own):=HDA.1
        have HFA:Hid (DFr B P w (w6.drewN nq)):=HF6.out.two HDA.2
        obtain ⟨wA,hwA⟩:∃W,w6.drewN nq=W:=⟨_,rfl⟩
        rw [hwA] at HDA1 HFA ⊢
        clear hwA HDA z0 z1
        go_wp2_with (first | (go_at_call 31;refine (CM.out now ns own (.error c) _ HDA1.out).mono ?_;rintro e w7 ⟨rfl,hd7,hf7⟩))
        refine bodyPost_end (results_none rfl _ _ _) rfl ?_
        rw [HGG.out]
        exact ⟨rfl,fun d hh=>(by cases hh),fun c' hh=>(by injection hh with hh;subst hh;exact ⟨now,hd7⟩),HFA.out.two hf7⟩
       ·have hlt1:decide ((jj:Int) < (s.size:Int))=false:=by simp;omega
        have hlt2:¬ (jj:Int) < (s.size:Int):=by omega
        go_wp2
        go_quiet (fail)
        have HDA:=Fq.drew HQ6.out nq
        have HDA1:Hid (Fq (w6.drewN nq) B P R s now 0 c):=HDA.1
        have HFA:Hid (DFr B P w (w6.drewN nq)):=HF6.out.two HDA.2
        go_wp2
        refine bodyPost_end (results_none rfl _ _ _) rfl ?_
        rw [HGG.out]
        exact ⟨rfl,fun d hh=>(by cases hh),fun c' hh=>(by injection hh with hh;subst hh;exact ⟨now,HDA1.out⟩),HFA.out⟩
      | .ok m,HQ6,HT6 =>
       obtain ⟨z0,z1,-,-,-,hms,-⟩:=Dt.cells HQ6.out
       by_cases hm:m < s.size
       ·have hlt1:decide ((m:Int) < (s.size:Int))=true:=by simp;omega
        have hlt2:(m:Int) < (s.size:Int):=by omega
        have HGM:Hid (mFin ns own now (must s.data.toList m 10)=G):=(ltl_in s.data.toList ns own now m (by omega)).symm.trans HT6.out
        go_wp2
        go_quiet (fail)
        have HDA:=Dt.drew HQ6.out nq
        have HDA1:Hid (Dq (w6.drewN nq) B P R s now 0 (.ok m) ns own):=HDA.1
        have HFA:Hid (DFr B P w (w6.drewN nq)):=HF6.out.two HDA.2
        obtain ⟨wA,hwA⟩:∃W,w6.drewN nq=W:=⟨_,rfl⟩
        rw [hwA] at HDA1 HFA ⊢
        clear hwA HDA z0 z1
        go_wp2_with (first | (go_at_call 31;refine (CM.out now ns own (.ok m) _ HDA1.out).mono ?_;rintro e w7 ⟨rfl,hd7,hf7⟩))
        refine bodyPost_end (results_none rfl _ _ _) rfl ?_
        have hd7':Dq w7 B P R s now 0 (must s.data.toList m 10) ns own:=hd7
        rw [<-HGM.out]
        exact mfin_post hd7' (HFA.out.two hf7)
       ·have hlt1:decide ((m:Int) < (s.size:Int))=false:=by simp;omega
        have hlt2:¬ (m:Int) < (s.size:Int):=by omega
        have HGG:Hid (G=.ok ⟨m,ns,own,now⟩):=HT6.out.symm.trans (ltl_end s.data.toList ns own now m (by omega))
        go_wp2
        go_quiet (fail)
        have HDA:=Dt.drew HQ6.out nq
        have HDA1:Hid (Dt (w6.drewN nq) B P R s now 0 (.ok m) ns own):=HDA.1
        have HFA:Hid (DFr B P w (w6.drewN nq)):=HF6.out.two HDA.2
        go_wp2
        refine bodyPost_end (results_none rfl _ _ _) rfl ?_
        rw [HGG.out]
        exact ⟨rfl,fun d hh=>(by cases hh;exact HDA1.out),fun c' hh=>(by cases hh),HFA.out⟩
  ·have hlt1:decide ((j:Int) < (s.size:Int))=false:=by simp;omega
   have HG1:Hid (G=lend s.data.toList (.ok ⟨j,ns,own,now⟩)):=by
    have:=HG0.out
    rw [if_neg h91,if_neg (fun hh=>hh.1 (HXE.out hjl))] at this
    exact this
   clear h91 CP
   go_wp2
   go_quiet (fail)
   have HDA:=HD2.out.drew nq
   have HFQ:Hid (DFr B P w (w2.drewN nq)):=HF2.out.two HDA.2
   obtain ⟨q1,hq1⟩:∃q1:Rs Nat,q1=.ok j:=⟨_,rfl⟩
   have HQ1:Hid (Dq (w2.drewN nq) B P R s now 0 q1 ns own):=by rw [hq1];exact HDA.1
   have HTL:Hid (ltl s.data.toList ns own now ((q1.bind fun i=>.ok (bl s.data.toList i)).bind (cmtR s.data.toList))=G):=by
    show _=_
    rw [hq1,HG1.out];rfl
   obtain ⟨wA,hwA⟩:∃W,w2.drewN nq=W:=⟨_,rfl⟩
   rw [hwA] at HQ1 HFQ ⊢
   clear hwA HDA c0 c1 hq1
   go_wp2_with (first | (go_at_call 26;refine (CB.out now ns own q1 _ HQ1.out).mono ?_;rintro e w5 ⟨rfl,hd5,hf5⟩) | (go_at_call 30;refine (CC.out now ns own _ _ hd5).mono ?_))
   rintro e w6 ⟨rfl,hd6,hf6⟩
   have HF6:Hid (DFr B P w w6):=(HFQ.out.two hf5).two hf6
   have HQ6:Hid (Dq w6 B P R s now 0 ((q1.bind fun i=>.ok (bl s.data.toList i)).bind (cmtR s.data.toList)) ns own):=hd6
   obtain ⟨q6,hq6⟩:∃q6,(q1.bind fun i=>.ok (bl s.data.toList i)).bind (cmtR s.data.toList)=q6:=⟨_,rfl⟩
   have HT6:Hid (ltl s.data.toList ns own now q6=G):=by
    show _=_
    rw [<-hq6];exact HTL.out
   rw [hq6] at HQ6
   clear hd5 hf5 hd6 hf6 hq6
   match q6,HQ6,HT6 with
   | .error c,HQ6,HT6 =>
    obtain ⟨Lx,Ox,⟨y1,jj,y2,y3⟩,y4⟩:=HQ6.out
    obtain ⟨z0,z1,-,-,-,-,-,-,-⟩:=y3.cells
    have HGG:Hid (G=.error c):=HT6.out.symm
    clear y1 y3 y4
    by_cases hjj:jj < s.size
    ·have hlt1:decide ((jj:Int) < (s.size:Int))=true:=by simp;omega
     have hlt2:(jj:Int) < (s.size:Int):=by omega
     go_wp2
     go_quiet (fail)
     have HDA:=Fq.drew HQ6.out nq
     have HDA1:Hid (Dq (w6.drewN nq) B P R s now 0 (.error c) ns own):=HDA.1
     have HFA:Hid (DFr B P w (w6.drewN nq)):=HF6.out.two HDA.2
     obtain ⟨wA,hwA⟩:∃W,w6.drewN nq=W:=⟨_,rfl⟩
     rw [hwA] at HDA1 HFA ⊢
     clear hwA HDA z0 z1
     go_wp2_with (first | (go_at_call 31;refine (CM.out now ns own (.error c) _ HDA1.out).mono ?_;rintro e w7 ⟨rfl,hd7,hf7⟩))
     refine bodyPost_end (results_none rfl _ _ _) rfl ?_
     rw [HGG.out]
     exact ⟨rfl,fun d hh=>(by cases hh),fun c' hh=>(by injection hh with hh;subst hh;exact ⟨now,hd7⟩),HFA.out.two hf7⟩
    ·have hlt1:decide ((jj:Int) < (s.size:Int))=false:=by simp;omega
     have hlt2:¬ (jj:Int) < (s.size:Int):=by omega
     go_wp2
     go_quiet (fail)
     have HDA:=Fq.drew HQ6.out nq
     have HDA1:Hid (Fq (w6.drewN nq) B P R s now 0 c):=HDA.1
     have HFA:Hid (DFr B P w (w6.drewN nq)):=HF6.out.two HDA.2
     go_wp2
     refine bodyPost_end (results_none rfl _ _ _) rfl ?_
     rw [HGG.out]
     exact ⟨rfl,fun d hh=>(by cases hh),fun c' hh=>(by injection hh with hh;subst hh;exact ⟨now,HDA1.out⟩),HFA.out⟩
   | .ok m,HQ6,HT6 =>
    obtain ⟨z0,z1,-,-,-,hms,-⟩:=Dt.cells HQ6.out
    by_cases hm:m < s.size
    ·have hlt1:decide ((m:Int) < (s.size:Int))=true:=by simp;omega
     have hlt2:(m:Int) < (s.size:Int):=by omega
     have HGM:Hid (mFin ns own now (must s.data.toList m 10)=G):=(ltl_in s.data.toList ns own now m (by omega)).symm.trans HT6.out
     go_wp2
     go_quiet (fail)
     have HDA:=Dt.drew HQ6.out nq
     have HDA1:Hid (Dq (w6.drewN nq) B P R s now 0 (.ok m) ns own):=HDA.1
     have HFA:Hid (DFr B P w (w6.drewN nq)):=HF6.out.two HDA.2
     obtain ⟨wA,hwA⟩:∃W,w6.drewN nq=W:=⟨_,rfl⟩
     rw [hwA] at HDA1 HFA ⊢
     clear hwA HDA z0 z1
     go_wp2_with (first | (go_at_call 31;refine (CM.out now ns own (.ok m) _ HDA1.out).mono ?_;rintro e w7 ⟨rfl,hd7,hf7⟩))
     refine bodyPost_end (results_none rfl _ _ _) rfl ?_
     have hd7':Dq w7 B P R s now 0 (must s.data.toList m 10) ns own:=hd7
     rw [<-HGM.out]
     exact mfin_post hd7' (HFA.out.two hf7)
    ·have hlt1:decide ((m:Int) < (s.size:Int))=false:=by simp;omega
     have hlt2:¬ (m:Int) < (s.size:Int):=by omega
     have HGG:Hid (G=.ok ⟨m,ns,own,now⟩):=HT6.out.symm.trans (ltl_end s.data.toList ns own now m (by omega))
     go_wp2
     go_quiet (fail)
     have HDA:=Dt.drew HQ6.out nq
     have HDA1:Hid (Dt (w6.drewN nq) B P R s now 0 (.ok m) ns own):=HDA.1
     have HFA:Hid (DFr B P w (w6.drewN nq)):=HF6.out.two HDA.2
     go_wp2
     refine bodyPost_end (results_none rfl _ _ _) rfl ?_
     rw [HGG.out]
     exact ⟨rfl,fun d hh=>(by cases hh;exact HDA1.out),fun c' hh=>(by cases hh),HFA.out⟩
theorem dt_nil (w:World) (B P:Nat) (hP:P < w.heap.size):DtD w B P [] 0 [] (.slice none 0 0) (.slice none 0 0) [] (fun _=>.slice none 0 0) :=
 ⟨World.ownsRow_nil _ _ _ _,fun i hi=>absurd hi (by simp),fun i hi=>absurd hi (by simp),fun i j g hi=>absurd hi (by simp),World.ownsRow_nil _ _ _ _,fun i hi=>absurd hi (by simp),hP⟩
set_option maxRecDepth 100000 in
set_option maxHeartbeats 3200000 in
theorem dAdd_first (B P R:Nat) (s:ByteArray) (now de:Nat) (q:Rs Nat) (w:World) (hS:Ds w R s (.slice none 0 0) (.slice none 0 0) now de q) (hBR:B<=R) (hPR:¬ P=R) (hP:P < w.heap.size) :
  Calls Tryz.prog 17 #[.pointer (some ⟨R,0,none⟩),.int .i64 (-1),.agg #[.int .i64 0,.string ⟨#[]⟩,.string ⟨#[]⟩,.int .i64 0,.slice none 0 0,.int .i64 0]] w fun e w'=>e=.returned (.int .i64 0)/\Dt w' B P R s now de q [⟨0,[],[],0,[],0⟩] []/\DFr B P w w':=by
 obtain ⟨i0,hi0,hii⟩:=Option.map_eq_some_iff.1 infoDNode
 simp only [Prod.mk.injEq] at hii
 obtain ⟨hz0,hz1,hzb⟩:=hii
 obtain ⟨b0,hb0,hbb⟩:=Option.map_eq_some_iff.1 infoBool
 simp only [Prod.mk.injEq] at hbb
 obtain ⟨hx0,hx1,hxb⟩:=hbb
 have hone:=ndC_one ⟨0,[],[],0,[],0⟩
 have HND:Hid (ndC ⟨0,[],[],0,[],0⟩=[.int .i64 0,.string ⟨#[]⟩,.string ⟨#[]⟩,.int .i64 0,.slice none 0 0,.int .i64 0]):=rfl
 rw [HND.out] at hone
 have hone3:=bool_one
 obtain ⟨K,hKe⟩:∃K,w.heap.size=K:=⟨_,rfl⟩
 have hgK:w.grownBy (w.alloc (.cells #[.int .i64 0,.string ⟨#[]⟩,.string ⟨#[]⟩,.int .i64 0,.slice none 0 0,.int .i64 0] 53)) none:=World.grownBy_alloc w _ none
 have hbK:=heap_alloc_new w (.cells #[.int .i64 0,.string ⟨#[]⟩,.string ⟨#[]⟩,.int .i64 0,.slice none 0 0,.int .i64 0] 53)
 have hsK:(w.alloc (.cells #[.int .i64 0,.string ⟨#[]⟩,.string ⟨#[]⟩,.int .i64 0,.slice none 0 0,.int .i64 0] 53)).heap.size=K+1:=by rw [World.size_alloc,hKe]
 rw [hKe] at hbK
 have hS1:=hS.grow hgK
 obtain ⟨ii,er,pp,hdd⟩:=hS.dd
 have hBs:B<=w.heap.size:=Nat.le_of_lt (Nat.lt_of_le_of_lt hBR (blk_lt hdd))
 have HF1:Hid (DFr B P w (w.alloc (.cells #[.int .i64 0,.string ⟨#[]⟩,.string ⟨#[]⟩,.int .i64 0,.slice none 0 0,.int .i64 0] 53))):=DFr.gb hgK hBs hP
 obtain ⟨w1,hw1⟩:∃w1,w.alloc (.cells #[.int .i64 0,.string ⟨#[]⟩,.string ⟨#[]⟩,.int .i64 0,.slice none 0 0,.int .i64 0] 53)=w1:=⟨_,rfl⟩
 rw [hw1] at hbK hsK HF1 hS1
 have hP1:P < w1.heap.size:=by omega
 have hBs1:B<=w1.heap.size:=by omega
 have hD1:=dt_nil w1 B P hP1
 obtain ⟨ii1,er1,pp1,hdd1⟩:=hS1.dd
 obtain ⟨-,-,d2,d3,-,-,-,-,dfz⟩:=hdd1.cells
 have HFAR:Hid (some R ≠ (Value.slice none 0 0).ownBlock):=by show some R ≠ none;simp
 have dA:(w1.alloc (.cells #[.int .i64 0,.string ⟨#[]⟩,.string ⟨#[]⟩,.int .i64 0,.slice none 0 0,.int .i64 0] 53)).cell? ⟨R,2,none⟩=some (.slice none 0 0):=(World.grownBy_alloc w1 _ none).cell d2 (by simp)
 have HBT:Hid (Dd w1 R s (.slice none 0 0) (.slice none 0 0) now de ii1 er1 pp1):=hdd1
 have k0:w1.cell? ⟨K,0,none⟩=some (.int .i64 0):=by rw [Lib.cell_of_heap hbK];rfl
 have k1:w1.cell? ⟨K,1,none⟩=some (.string ⟨#[]⟩):=by rw [Lib.cell_of_heap hbK];rfl
 have k2:w1.cell? ⟨K,2,none⟩=some (.string ⟨#[]⟩):=by rw [Lib.cell_of_heap hbK];rfl
 have k3:w1.cell? ⟨K,3,none⟩=some (.int .i64 0):=by rw [Lib.cell_of_heap hbK];rfl
 have k4:w1.cell? ⟨K,4,none⟩=some (.slice none 0 0):=by rw [Lib.cell_of_heap hbK];rfl
 have k5:w1.cell? ⟨K,5,none⟩=some (.int .i64 0):=by rw [Lib.cell_of_heap hbK];rfl
 have HD1:Hid (DtD w1 B P [] 0 [] (.slice none 0 0) (.slice none 0 0) [] (fun _=>.slice none 0 0)):=hD1
 have HS1:Hid (Ds w1 R s (.slice none 0 0) (.slice none 0 0) now de q):=hS1
 have HBE:Hid ((w1.drew.alloc (.cells #[.int .i64 0,.string ⟨#[]⟩,.string ⟨#[]⟩,.int .i64 0,.slice none 0 0,.int .i64 0] 53)).heap[K+1]?=some (.cells #[.int .i64 0,.string ⟨#[]⟩,.string ⟨#[]⟩,.int .i64 0,.slice none 0 0,.int .i64 0] 53 (0,0))):=by
  have:=heap_alloc_new w1.drew (.cells #[.int .i64 0,.string ⟨#[]⟩,.string ⟨#[]⟩,.int .i64 0,.slice none 0 0,.int .i64 0] 53)
  rw [show w1.drew.heap.size=K+1 from hsK] at this
  exact this
 have hupI:¬ (0:Int)<=(-1:Int):=by omega
 clear hgK hbK hS hS1 hdd hdd1 dfz hD1
 go_enter Tryz.func17,Tryz.ntmps17
 go_upto_region 2 with fail
 go_cut [] from 13 (fun wx=>∃(g cap:Nat) (xs':List Value) (ks':Nat->Value),DtD wx B P [⟨0,[],[],0,[],0⟩] 0 [] (.slice (some ⟨g,0,none⟩) 1 cap) (.slice none 0 0) xs' ks'/\Ds wx R s (.slice (some ⟨g,0,none⟩) 1 cap) (.slice none 0 0) now de q/\DFr B P w1 wx/\¬ P=g)
 case first =>
  go_region_law (refine step_append_lies _ (by rfl) _ _ _ (by rfl) B 53 i0 _ 6 80 Tryz.underlying26 hi0 hz0 hz1 hzb (by rfl) (by decide) (.slice none 0 0) 0 [] (by rfl) (World.ownsRow_nil _ _ _ _) ⟨K+1,0,none⟩ 1 1 [.int .i64 0,.string ⟨#[]⟩,.string ⟨#[]⟩,.int .i64 0,.slice none 0 0,.int .i64 0] (by rfl) (by rfl) (World.news_of_block HBE.out) hone (by omega) (by unfold maxLen;omega) (by omega) (by simp;omega) _ rfl ?_;intro g cap w3 hown3 hgrow hat hlt3;have hc3:w3.cell? ⟨R,2,none⟩=some (.slice none 0 0):=cel_app d2 hgrow HFAR.out;have hfz3:w3.frozen? ⟨R,2,none⟩=false:=frz_app HBT.out hgrow HFAR.out)
  all_goals (
   go_wp2_with fail
   go_meet
   obtain ⟨xs',ks',q1,q2,q3,q4⟩:=dadd_one (ns:=[]) ⟨0,[],[],0,[],0⟩ rfl HD1.out HS1.out hBR hPR (by show (none:Option Nat) ≠ _;simp) hown3 hgrow hat
   exact ⟨g,cap,xs',ks',q1,q2,q3,q4⟩)
 case rest =>
  obtain ⟨N1,c1,xs1,ks1,hD2,hS2,hF2,hPN1⟩:=hcut
  obtain ⟨ii2,er2,pp2,hdd2⟩:=hS2.dd
  obtain ⟨-,-,e2,e3,-,-,-,-,efz⟩:=hdd2.cells
  have HFO:Hid (some R ≠ (Value.slice none 0 0).ownBlock):=HFAR.out
  have HBR2:Hid (Dd wc R s (.slice (some ⟨N1,0,none⟩) 1 c1) (.slice none 0 0) now de ii2 er2 pp2):=hdd2
  have HD2:Hid (DtD wc B P [⟨0,[],[],0,[],0⟩] 0 [] (.slice (some ⟨N1,0,none⟩) 1 c1) (.slice none 0 0) xs1 ks1):=hD2
  have HS2:Hid (Ds wc R s (.slice (some ⟨N1,0,none⟩) 1 c1) (.slice none 0 0) now de q):=hS2
  have HF2:Hid (DFr B P w1 wc):=hF2
  have HPN1:Hid (¬ P=N1):=hPN1
  have hBc:B<=wc.heap.size:=Nat.le_of_lt (Nat.lt_of_le_of_lt hBR (blk_lt hdd2))
  clear hD2 hS2 hF2 hPN1 hdd2 efz
  go_wp2_with (first | (at_builtin;refine wpList_append_lies _ rfl _ _ 49 rfl B 4 b0 _ 1 1 Tryz.underlying49 hb0 hx0 hx1 hxb rfl (by decide) (.slice none 0 0) 0 [] rfl (World.ownsRow_nil _ _ _ _) ⟨wc.heap.size,0,none⟩ 1 1 [.bool false] rfl rfl (World.news_of_block (heap_alloc_new _ _)) hone3 (by omega) (by unfold maxLen;omega) (by omega) (by simp;omega) _ rfl ?_;intro g cap w3 hown3 hgrow hat hlt3;have hc3:w3.cell? ⟨R,3,none⟩=some (.slice none 0 0):=hgrow.cell ((World.grownBy_alloc wc _ none).cell e3 (by simp)) HFO.out;have hfz3:w3.frozen? ⟨R,3,none⟩=false:=Lib.frozen_of_heap ((hgrow.block R (by have:=blk_lt HBR2.out;simp;omega) HFO.out).trans (((World.grownBy_alloc wc _ none).block R (blk_lt HBR2.out) (by simp)).trans HBR2.out)) 3))
  obtain ⟨hD4,hS4,hF4,hPO4⟩:=dadd_flag HD2.out HS2.out hBR hPR (by show (none:Option Nat) ≠ _;simp) (by simp) hown3 hgrow hat
  go_ret
  exact ⟨rfl,⟨hBR,hPR,N1,c1,g,cap,xs1,ks1,HPN1.out,hPO4,hD4,hS4⟩,(HF1.out.two HF2.out).two hF4⟩
end Go.Proofs.YtbgnflcebafjjaaGreatDoor
