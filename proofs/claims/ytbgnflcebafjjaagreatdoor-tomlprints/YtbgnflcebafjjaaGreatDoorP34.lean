import Derived.Test.YtbgnflcebafjjaaGreatDoorP33
namespace Go.Proofs.YtbgnflcebafjjaaGreatDoor
open Go.RowKit Go.Maps Go.WideMaps Go.Joins
set_option linter.unusedVariables false
def DhC:Prop:=∀(B P R:Nat) (s:ByteArray) (now i:Nat) (ns:List Tn) (own:List Nat) (w:World),Dt w B P R s now 0 (.ok i) ns own->P < B->s.size<=100000->nx s.data.toList i=91->Li s.data.toList ⟨i,ns,own,now⟩ →
 Calls Tryz.prog 28 #[.pointer (some ⟨R,0,none⟩)] w (PrPost B P R s now own (rdHead s.data.toList ⟨i,ns,own,now⟩) w)
theorem mfin_post {B P R:Nat} {s:ByteArray} {now now0:Nat} {ns:List Tn} {own own0:List Nat} {q:Rs Nat} {w w':World} (hd:Dq w' B P R s now 0 q ns own) (hf:DFr B P w w'):PrPost B P R s now0 own0 (mFin ns own now q) w (.returned (.tuple #[])) w':=by
 match q,hd with
 | .error e,hd=>exact ⟨rfl,fun d hh=>(by cases hh),fun c hh=>(by have hh:(Except.error e:Rs Sd)=.error c:=hh;injection hh with hh;subst hh;exact ⟨now,hd⟩),hf⟩
 | .ok j,hd=>exact ⟨rfl,fun d hh=>(by have hh:(Except.ok ⟨j,ns,own,now⟩:Rs Sd)=.ok d:=hh;injection hh with hh;subst hh;exact hd),fun c hh=>(by cases hh),hf⟩
set_option maxRecDepth 100000 in
set_option maxHeartbeats 6400000 in
theorem dLine_any (CH0:DhC) (B P R:Nat) (s:ByteArray) (now i:Nat) (ns:List Tn) (own:List Nat) (w:World) (h:Dt w B P R s now 0 (.ok i) ns own) (hB:P < B) (hs:s.size<=100000) (LI:Li s.data.toList ⟨i,ns,own,now⟩) :
  Calls Tryz.prog 18 #[.pointer (some ⟨R,0,none⟩)] w (PrPost B P R s now own (rdLine s.data.toList ⟨i,ns,own,now⟩) w):=by
 have hl:s.data.toList.length=s.size:=by simp
 have CB:Hid (∀now ns own (q:Rs Nat) w,Dq w B P R s now 0 q ns own->Calls Tryz.prog 26 #[.pointer (some ⟨R,0,none⟩)] w fun e w'=>e=.returned (.tuple #[])/\Dq w' B P R s now 0 (q.bind fun i=>.ok (bl s.data.toList i)) ns own/\DFr B P w w'):=fun now ns own q w h=>qBlanks B P R s now 0 ns own q w h hs
 have CC:Hid (∀now ns own (q:Rs Nat) w,Dq w B P R s now 0 q ns own->Calls Tryz.prog 30 #[.pointer (some ⟨R,0,none⟩)] w fun e w'=>e=.returned (.tuple #[])/\Dq w' B P R s now 0 (q.bind (cmtR s.data.toList)) ns own/\DFr B P w w'):=fun now ns own q w h=>qComment B P R s now 0 ns own q w h hs
 have CM:Hid (∀now ns own (q:Rs Nat) w,Dq w B P R s now 0 q ns own->Calls Tryz.prog 31 #[.pointer (some ⟨R,0,none⟩),.int .u8 10] w fun e w'=>e=.returned (.tuple #[])/\Dq w' B P R s now 0 (q.bind fun i=>must s.data.toList i 10) ns own/\DFr B P w w'):=fun now ns own q w h=>qMust B P R s now 0 ns own q w h hs 10 (by decide)
 have hi:i<=s.size:=h.cells.2.2.2.2.2.1
 have hbl:=bl_le s.data.toList i (by omega)
 have LB:=li_to LI (bl s.data.toList i) hbl.1 hbl.2
 have HG0:Hid (rdLine s.data.toList ⟨i,ns,own,now⟩=lend s.data.toList (if nx s.data.toList (bl s.data.toList i)=91 then rdHead s.data.toList ⟨bl s.data.toList i,ns,own,now⟩ else if ¬ nx s.data.toList (bl s.data.toList i)=-1/\¬ nx s.data.toList (bl s.data.toList i)=35/\¬ nx s.data.toList (bl s.data.toList i)=10 then rdPair s.data.toList ⟨bl s.data.toList i,ns,own,now⟩ else .ok ⟨bl s.data.toList i,ns,own,now⟩)):=rdLine_doc _ _
 have hn1:=LI.nn
 simp only [] at hn1
 obtain ⟨G,hG⟩:∃G,rdLine s.data.toList ⟨i,ns,own,now⟩=G:=⟨_,rfl⟩
 rw [hG] at HG0 ⊢
 obtain ⟨j,hj⟩:∃j,bl s.data.toList i=j:=⟨_,rfl⟩
 have HBJ:Hid ((Except.bind (.ok i) fun i=>.ok (bl s.data.toList i):Rs Nat)=.ok j):=by show Except.ok _=_;rw [hj]
 rw [hj] at HG0 LB hbl
 obtain ⟨hij,hjs⟩:=hbl
 have CI:Hid (∀w,Dq w B P R s now 0 (.ok j) ns own->Calls Tryz.prog 27 #[.pointer (some ⟨R,0,none⟩),.int .u8 91] w fun e w'=>e=.returned (.bool (decide (nx s.data.toList j=91)))/\Dq w' B P R s now 0 (.ok j) ns own/\DFr B P w w'):=fun w h=>qIs B P R s now 0 ns own (.ok j) w h hs 91 (by decide)
 have CHd:Hid (∀w,Dt w B P R s now 0 (.ok j) ns own->nx s.data.toList j=91->Calls Tryz.prog 28 #[.pointer (some ⟨R,0,none⟩)] w (PrPost B P R s now own (rdHead s.data.toList ⟨j,ns,own,now⟩) w)):=fun w h hx=>CH0 B P R s now j ns own w h hB hs hx LB
 have CP:Hid (∀w,Dt w B P R s now 0 (.ok j) ns own->Calls Tryz.prog 29 #[.pointer (some ⟨R,0,none⟩)] w (PrPost B P R s now own (rdPair s.data.toList ⟨j,ns,own,now⟩) w)):=fun w h=>dPair_any B P R s now j ns own w h LB.jt.wf LB.jt.wt LB.jt.lt (by rw [LB.jt.kd];decide) (by rw [hl] at hjs;omega) hs
 have HD0:Hid (Dq w B P R s now 0 (.ok i) ns own):=h
 have HX:Hid (∀(hk:j < s.size),nx s.data.toList j=(s[j].toNat:Int)):=byte_at s j
 have HXE:Hid (¬ j < s.size->nx s.data.toList j=-1):=fun hh=>nx_end _ _ (by omega)
 clear h hG hj LB LI CH0 hn1
 go_enter Tryz.func18,Tryz.ntmps18
 go_wp2_with (first | (go_at_call 26;refine (CB.out now ns own (.ok i) _ HD0.out).mono ?_))
 rintro e w1 ⟨rfl,hd1,hf1⟩
 rw [HBJ.out] at hd1
 have HD1:Hid (Dq w1 B P R s now 0 (.ok j) ns own):=hd1
 have HF1:Hid (DFr B P w w1):=hf1
 clear hd1 hf1
 by_cases h91:nx s.data.toList j=91
 ·rw [decide_eq_true h91] at CI
  have HG1:Hid (G=lend s.data.toList (rdHead s.data.toList ⟨j,ns,own,now⟩)):=by have:=HG0.out;rw [if_pos h91] at this;exact this
  have CH1:Hid (∀w,Dt w B P R s now 0 (.ok j) ns own->Calls Tryz.prog 28 #[.pointer (some ⟨R,0,none⟩)] w (PrPost B P R s now own (rdHead s.data.toList ⟨j,ns,own,now⟩) w)):=fun w h=>CHd.out w h h91
  obtain ⟨V,hV⟩:∃V,rdHead s.data.toList ⟨j,ns,own,now⟩=V:=⟨_,rfl⟩
  rw [hV] at HG1 CH1
  clear h91 hV
  go_wp2_with (first | (go_at_call 27;refine (CI.out _ HD1.out).mono ?_;rintro e w2 ⟨rfl,hd2,hf2⟩) | (go_at_call 28;refine (CH1.out _ hd2).mono ?_))
  rintro e w4 ⟨rfl,a1,a2,hf4⟩
  have HFQ:Hid (DFr B P w w4):=(HF1.out.two hf2).two hf4
  clear hd2 hf2 hf4
  match V,a1,a2,HG1 with
  | .error c,_,a2,HG1 =>
   obtain ⟨now',hd4⟩:=a2 c rfl
   obtain ⟨q1,hq1⟩:∃q1:Rs Nat,q1=.error c:=⟨_,rfl⟩
   have HQ1:Hid (Dq w4 B P R s now' 0 q1 ns own):=by rw [hq1];exact hd4
   have HTL:Hid (ltl s.data.toList ns own now' ((q1.bind fun i=>.ok (bl s.data.toList i)).bind (cmtR s.data.toList))=G):=by
    show _=_
    rw [hq1,HG1.out];rfl
   clear a1 a2 hd4 hq1
   go_wp2_with (first | (go_at_call 26;refine (CB.out now' ns own q1 _ HQ1.out).mono ?_;rintro e w5 ⟨rfl,hd5,hf5⟩) | (go_at_call 30;refine (CC.out now' ns own _ _ hd5).mono ?_))
   rintro e w6 ⟨rfl,hd6,hf6⟩
   have HF6:Hid (DFr B P w w6):=(HFQ.out.two hf5).two hf6
   have HQ6:Hid (Dq w6 B P R s now' 0 ((q1.bind fun i=>.ok (bl s.data.toList i)).bind (cmtR s.data.toList)) ns own):=hd6
   obtain ⟨q6,hq6⟩:∃q6,(q1.bind fun i=>.ok (bl s.data.toList i)).bind (cmtR s.data.toList)=q6:=⟨_,rfl⟩
   have HT6:Hid (ltl s.data.toList ns own now' q6=G):=by
    show _=_
    rw [<-hq6];exact HTL.out
   rw [hq6] at HQ6
   clear hd5 hf5 hd6 hf6 hq6
   match q6,HQ6,HT6 with
   | .error c,HQ6,HT6 =>
    obtain ⟨Lx,Ox,⟨y1,jj,y2,y3⟩,y4⟩:=HQ6.out
    obtain ⟨z0,z1,-,-,-,-,-,-,-⟩:=y3.cells
    have HGG:Hid (G=.error c):=HT6.out.symm
    clear y1 y3 y4
    by_cases hjj:jj < s.size
    ·have hlt1:decide ((jj:Int) < (s.size:Int))=true:=by simp;omega
     have hlt2:(jj:Int) < (s.size:Int):=by omega
     go_wp2
     go_quiet (fail)
     have HDA:=Fq.drew HQ6.out nq
     have HDA1:Hid (Dq (w6.drewN nq) B P R s now' 0 (.error c) ns own):=HDA.1
     have HFA:Hid (DFr B P w (w6.drewN nq)):=HF6.out.two HDA.2
     obtain ⟨wA,hwA⟩:∃W,w6.drewN nq=W:=⟨_,rfl⟩
     rw [hwA] at HDA1 HFA ⊢
     clear hwA HDA z0 z1
     go_wp2_with (first | (go_at_call 31;refine (CM.out now' ns own (.error c) _ HDA1.out).mono ?_;rintro e w7 ⟨rfl,hd7,hf7⟩))
     refine bodyPost_end (results_none rfl _ _ _) rfl ?_
     rw [HGG.out]
     exact ⟨rfl,fun d hh=>(by cases hh),fun c' hh=>(by injection hh with hh;subst hh;exact ⟨now',hd7⟩),HFA.out.two hf7⟩
    ·have hlt1:decide ((jj:Int) < (s.size:Int))=false:=by simp;omega
     have hlt2:¬ (jj:Int) < (s.size:Int):=by omega
     go_wp2
     go_quiet (fail)
     have HDA:=Fq.drew HQ6.out nq
     have HDA1:Hid (Fq (w6.drewN nq) B P R s now' 0 c):=HDA.1
     have HFA:Hid (DFr B P w (w6.drewN nq)):=HF6.out.two HDA.2
     go_wp2
     refine bodyPost_end (results_none rfl _ _ _) rfl ?_
     rw [HGG.out]
     exact ⟨rfl,fun d hh=>(by cases hh),fun c' hh=>(by injection hh with hh;subst hh;exact ⟨now',HDA1.out⟩),HFA.out⟩
   | .ok m,HQ6,HT6 =>
    obtain ⟨z0,z1,-,-,-,hms,-⟩:=Dt.cells HQ6.out
    by_cases hm:m < s.size
    ·have hlt1:decide ((m:Int) < (s.size:Int))=true:=by simp;omega
     have hlt2:(m:Int) < (s.size:Int):=by omega
     have HGM:Hid (mFin ns own now' (must s.data.toList m 10)=G):=(ltl_in s.data.toList ns own now' m (by omega)).symm.trans HT6.out
     go_wp2
     go_quiet (fail)
     have HDA:=Dt.drew HQ6.out nq
     have HDA1:Hid (Dq (w6.drewN nq) B P R s now' 0 (.ok m) ns own):=HDA.1
     have HFA:Hid (DFr B P w (w6.drewN nq)):=HF6.out.two HDA.2
     obtain ⟨wA,hwA⟩:∃W,w6.drewN nq=W:=⟨_,rfl⟩
     rw [hwA] at HDA1 HFA ⊢
     clear hwA HDA z0 z1
     go_wp2_with (first | (go_at_call 31;refine (CM.out now' ns own (.ok m) _ HDA1.out).mono ?_;rintro e w7 ⟨rfl,hd7,hf7⟩))
     refine bodyPost_end (results_none rfl _ _ _) rfl ?_
     have hd7':Dq w7 B P R s now' 0 (must s.data.toList m 10) ns own:=hd7
     rw [<-HGM.out]
     exact mfin_post hd7' (HFA.out.two hf7)
    ·have hlt1:decide ((m:Int) < (s.size:Int))=false:=by simp;omega
     have hlt2:¬ (m:Int) < (s.size:Int):=by omega
     have HGG:Hid (G=.ok ⟨m,ns,own,now'⟩):=HT6.out.symm.trans (ltl_end s.data.toList ns own now' m (by omega))
     go_wp2
     go_quiet (fail)
     have HDA:=Dt.drew HQ6.out nq
     have HDA1:Hid (Dt (w6.drewN nq) B P R s now' 0 (.ok m) ns own):=HDA.1
     have HFA:Hid (DFr B P w (w6.drewN nq)):=HF6.out.two HDA.2
     go_wp2
     refine bodyPost_end (results_none rfl _ _ _) rfl ?_
     rw [HGG.out]
     exact ⟨rfl,fun d hh=>(by cases hh;exact HDA1.out),fun c' hh=>(by cases hh),HFA.out⟩
  | .ok d,a1,_,HG1 =>
   have hd4:=a1 d rfl
   obtain ⟨q1,hq1⟩:∃q1:Rs Nat,q1=.ok d.i:=⟨_,rfl⟩
   have HQ1:Hid (Dq w4 B P R s d.now 0 q1 d.ns d.own):=by rw [hq1];exact hd4
   have HTL:Hid (ltl s.data.toList d.ns d.own d.now ((q1.bind fun i=>.ok (bl s.data.toList i)).bind (cmtR s.data.toList))=G):=by
    show _=_
    rw [hq1,HG1.out];rfl
   clear a1 a2 hd4 hq1
   go_wp2_with (first | (go_at_call 26;refine (CB.out d.now d.ns d.own q1 _ HQ1.out).mono ?_;rintro e w5 ⟨rfl,hd5,hf5⟩) | (go_at_call 30;refine (CC.out d.now d.ns d.own _ _ hd5).mono ?_))
   rintro e w6 ⟨rfl,hd6,hf6⟩
   have HF6:Hid (DFr B P w w6):=(HFQ.out.two hf5).two hf6
   have HQ6:Hid (Dq w6 B P R s d.now 0 ((q1.bind fun i=>.ok (bl s.data.toList i)).bind (cmtR s.data.toList)) d.ns d.own):=hd6
   obtain ⟨q6,hq6⟩:∃q6,(q1.bind fun i=>.ok (bl s.data.toList i)).bind (cmtR s.data.toList)=q6:=⟨_,rfl⟩
   have HT6:Hid (ltl s.data.toList d.ns d.own d.now q6=G):=by
    show _=_
    rw [<-hq6];exact HTL.out
   rw [hq6] at HQ6
   clear hd5 hf5 hd6 hf6 hq6
   match q6,HQ6,HT6 with
   | .error c,HQ6,HT6 =>
    obtain ⟨Lx,Ox,⟨y1,jj,y2,y3⟩,y4⟩:=HQ6.out
    obtain ⟨z0,z1,-,-,-,-,-,-,-⟩:=y3.cells
    have HGG:Hid (G=.error c):=HT6.out.symm
    clear y1 y3 y4
    by_cases hjj:jj < s.size
    ·have hlt1:decide ((jj:Int) < (s.size:Int))=true:=by simp;omega
     have hlt2:(jj:Int) < (s.size:Int):=by omega
     go_wp2
     go_quiet (fail)
     have HDA:=Fq.drew HQ6.out nq
     have HDA1:Hid (Dq (w6.drewN nq) B P R s d.now 0 (.error c) d.ns d.own):=HDA.1
     have HFA:Hid (DFr B P w (w6.drewN nq)):=HF6.out.two HDA.2
     obtain ⟨wA,hwA⟩:∃W,w6.drewN nq=W:=⟨_,rfl⟩
     rw [hwA] at HDA1 HFA ⊢
     clear hwA HDA z0 z1
     go_wp2_with (first | (go_at_call 31;refine (CM.out d.now d.ns d.own (.error c) _ HDA1.out).mono ?_;rintro e w7 ⟨rfl,hd7,hf7⟩))
     refine bodyPost_end (results_none rfl _ _ _) rfl ?_
     rw [HGG.out]
     exact ⟨rfl,fun d hh=>(by cases hh),fun c' hh=>(by injection hh with hh;subst hh;exact ⟨d.now,hd7⟩),HFA.out.two hf7⟩
    ·have hlt1:decide ((jj:Int) < (s.size:Int))=false:=by simp;omega
     have hlt2:¬ (jj:Int) < (s.size:Int):=by omega
     go_wp2
     go_quiet (fail)
     have HDA:=Fq.drew HQ6.out nq
     have HDA1:Hid (Fq (w6.drewN nq) B P R s d.now 0 c):=HDA.1
     have HFA:Hid (DFr B P w (w6.drewN nq)):=HF6.out.two HDA.2
     go_wp2
     refine bodyPost_end (results_none rfl _ _ _) rfl ?_
     rw [HGG.out]
     exact ⟨rfl,fun d hh=>(by cases hh),fun c' hh=>(by injection hh with hh;subst hh;exact ⟨d.now,HDA1.out⟩),HFA.out⟩
   | .ok m,HQ6,HT6 =>
    obtain ⟨z0,z1,-,-,-,hms,-⟩:=Dt.cells HQ6.out
    by_cases hm:m < s.size
    ·have hlt1:decide ((m:Int) < (s.size:Int))=true:=by simp;omega
     have hlt2:(m:Int) < (s.size:Int):=by omega
     have HGM:Hid (mFin d.ns d.own d.now (must s.data.toList m 10)=G):=(ltl_in s.data.toList d.ns d.own d.now m (by omega)).symm.trans HT6.out
     go_wp2
     go_quiet (fail)
     have HDA:=Dt.drew HQ6.out nq
     have HDA1:Hid (Dq (w6.drewN nq) B P R s d.now 0 (.ok m) d.ns d.own):=HDA.1
     have HFA:Hid (DFr B P w (w6.drewN nq)):=HF6.out.two HDA.2
     obtain ⟨wA,hwA⟩:∃W,w6.drewN nq=W:=⟨_,rfl⟩
     rw [hwA] at HDA1 HFA ⊢
     clear hwA HDA z0 z1
     go_wp2_with (first | (go_at_call 31;refine (CM.out d.now d.ns d.own (.ok m) _ HDA1.out).mono ?_;rintro e w7 ⟨rfl,hd7,hf7⟩))
     refine bodyPost_end (results_none rfl _ _ _) rfl ?_
     have hd7':Dq w7 B P R s d.now 0 (must s.data.toList m 10) d.ns d.own:=hd7
     rw [<-HGM.out]
     exact mfin_post hd7' (HFA.out.two hf7)
    ·have hlt1:decide ((m:Int) < (s.size:Int))=false:=by simp;omega
     have hlt2:¬ (m:Int) < (s.size:Int):=by omega
     have HGG:Hid (G=.ok ⟨m,d.ns,d.own,d.now⟩):=HT6.out.symm.trans (ltl_end s.data.toList d.ns d.own d.now m (by omega))
     go_wp2
     go_quiet (fail)
     have HDA:=Dt.drew HQ6.out nq
     have HDA1:Hid (Dt (w6.drewN nq) B P R s d.now 0 (.ok m) d.ns d.own):=HDA.1
     have HFA:Hid (DFr B P w (w6.drewN nq)):=HF6.out.two HDA.2
     go_wp2
     refine bodyPost_end (results_none rfl _ _ _) rfl ?_
     rw [HGG.out]
     exact ⟨rfl,fun d hh=>(by cases hh;exact HDA1.out),fun c' hh=>(by cases hh),HFA.out⟩
 ·rw [decide_eq_false h91] at CI
  go_wp2_with (first | (go_at_call 27;refine (CI.out _ HD1.out).mono ?_))
  rintro e w2 ⟨rfl,hd2,hf2⟩
  have HD2:Hid (Dt w2 B P R s now 0 (.ok j) ns own):=hd2
  have HF2:Hid (DFr B P w w2):=HF1.out.two hf2
  obtain ⟨c0,c1,-,-,-,-,-⟩:=HD2.out.cells
  clear hd2 hf2
  by_cases hjl:j < s.size
  ·have hlt1:decide ((j:Int) < (s.size:Int))=true:=by simp;omega
   have hxj:=HX.out hjl
   obtain ⟨b35,hb35⟩:∃b,((s[j].toNat:Int) != 35)=b:=⟨_,rfl⟩
   obtain ⟨b10,hb10⟩:∃b,((s[j].toNat:Int) != 10)=b:=⟨_,rfl⟩
   by_cases hpp:b35=true/\b10=true
   ·obtain ⟨rfl,rfl⟩:=hpp
    have HG1:Hid (G=lend s.data.toList (rdPair s.data.toList ⟨j,ns,own,now⟩)):=by
     have:=HG0.out
     rw [if_neg h91,if_pos ⟨by rw [hxj];omega,by rw [hxj];simpa using hb35,by rw [hxj];simpa using hb10⟩] at this
     exact this
    have CP1:Hid (∀w,Dt w B P R s now 0 (.ok j) ns own->Calls Tryz.prog 29 #[.pointer (some ⟨R,0,none⟩)] w (PrPost B P R s now own (rdPair s.data.toList ⟨j,ns,own,now⟩) w)):=CP.out
    obtain ⟨V,hV⟩:∃V,rdPair s.data.toList ⟨j,ns,own,now⟩=V:=⟨_,rfl⟩
    rw [hV] at HG1 CP1
    clear h91 hV hxj CP
    go_wp2
    go_quiet (fail)
    have HDA:=HD2.out.drew nq
    have HDA1:Hid (Dt (w2.drewN nq) B P R s now 0 (.ok j) ns own):=HDA.1
    have HFA:Hid (DFr B P w (w2.drewN nq)):=HF2.out.two HDA.2
    obtain ⟨wA,hwA⟩:∃W,w2.drewN nq=W:=⟨_,rfl⟩
    rw [hwA] at HDA1 HFA ⊢
    clear hwA HDA c0 c1
    go_wp2_with (first | (go_at_call 29;refine (CP1.out _ HDA1.out).mono ?_))
    rintro e w4 ⟨rfl,a1,a2,hf4⟩
    have HFQ:Hid (DFr B P w w4):=HFA.out.two hf4
    clear hf4
    match V,a1,a2,HG1 with
    | .error c,_,a2,HG1 =>
     obtain ⟨now',hd4⟩:=a2 c rfl
     obtain ⟨q1,hq1⟩:∃q1:Rs Nat,q1=.error c:=⟨_,rfl⟩
     have HQ1:Hid (Dq w4 B P R s now' 0 q1 ns own):=by rw [hq1];exact hd4
     have HTL:Hid (ltl s.data.toList ns own now' ((q1.bind fun i=>.ok (bl s.data.toList i)).bind (cmtR s.data.toList))=G):=by
      show _=_
      rw [hq1,HG1.out];rfl
     clear a1 a2 hd4 hq1
     go_wp2_with (first | (go_at_call 26;refine (CB.out now' ns own q1 _ HQ1.out).mono ?_;rintro e w5 ⟨rfl,hd5,hf5⟩) | (go_at_call 30;refine (CC.out now' ns own _ _ hd5).mono ?_))
     rintro e w6 ⟨rfl,hd6,hf6⟩
     have HF6:Hid (DFr B P w w6):=(HFQ.out.two hf5).two hf6
     have HQ6:Hid (Dq w6 B P R s now' 0 ((q1.bind fun i=>.ok (bl s.data.toList i)).bind (cmtR s.data.toList)) ns own):=hd6
     obtain ⟨q6,hq6⟩:∃q6,(q1.bind fun i=>.ok (bl s.data.toList i)).bind (cmtR s.data.toList)=q6:=⟨_,rfl⟩
     have HT6:Hid (ltl s.data.toList ns own now' q6=G):=by
      show _=_
      rw [<-hq6];exact HTL.out
     rw [hq6] at HQ6
     clear hd5 hf5 hd6 hf6 hq6
     match q6,HQ6,HT6 with
     | .error c,HQ6,HT6 =>
      obtain ⟨Lx,Ox,⟨y1,jj,y2,y3⟩,y4⟩:=HQ6.out
      obtain ⟨z0,z1,-,-,-,-,-,-,-⟩:=y3.cells
      have HGG:Hid (G=.error c):=HT6.out.symm
      clear y1 y3 y4
      by_cases hjj:jj < s.size
      ·have hlt1:decide ((jj:Int) < (s.size:Int))=true:=by simp;omega
       have hlt2:(jj:Int) < (s.size:Int):=by omega
       go_wp2
       go_quiet (fail)
       have HDA:=Fq.drew HQ6.out nq
       have HDA1:Hid (Dq (w6.drewN nq) B P R s now' 0 (.error c) ns own):=HDA.1
       have HFA:Hid (DFr B P w (w6.drewN nq)):=HF6.out.two HDA.2
       obtain ⟨wA,hwA⟩:∃W,w6.drewN nq=W:=⟨_,rfl⟩
       rw [hwA] at HDA1 HFA ⊢
       clear hwA HDA z0 z1
       go_wp2_with (first | (go_at_call 31;refine (CM.out now' ns own (.error c) _ HDA1.out).mono ?_;rintro e w7 ⟨rfl,hd7,hf7⟩))
       refine bodyPost_end (results_none rfl _ _ _) rfl ?_
       rw [HGG.out]
       exact ⟨rfl,fun d hh=>(by cases hh),fun c' hh=>(by injection hh with hh;subst hh;exact ⟨now',hd7⟩),HFA.out.two hf7⟩
      ·have hlt1:decide ((jj:Int) < (s.size:Int))=false:=by simp;omega
       have hlt2:¬ (jj:Int) < (s.size:Int):=by omega
       go_wp2
       go_quiet (fail)
       have HDA:=Fq.drew HQ6.out nq
       have HDA1:Hid (Fq (w6.drewN nq) B P R s now' 0 c):=HDA.1
       have HFA:Hid (DFr B P w (w6.drewN nq)):=HF6.out.two HDA.2
       go_wp2
       refine bodyPost_end (results_none rfl _ _ _) rfl ?_
       rw [HGG.out]
       exact ⟨rfl,fun d hh=>(by cases hh),fun c' hh=>(by injection hh with hh;subst hh;exact ⟨now',HDA1.out⟩),HFA.out⟩
     | .ok m,HQ6,HT6 =>
      obtain ⟨z0,z1,-,-,-,hms,-⟩:=Dt.cells HQ6.out
      by_cases hm:m < s.size
      ·have hlt1:decide ((m:Int) < (s.size:Int))=true:=by simp;omega
       have hlt2:(m:Int) < (s.size:Int):=by omega
       have HGM:Hid (mFin ns own now' (must s.data.toList m 10)=G):=(ltl_in s.data.toList ns own now' m (by omega)).symm.trans HT6.out
       go_wp2
       go_quiet (fail)
       have HDA:=Dt.drew HQ6.out nq
       have HDA1:Hid (Dq (w6.drewN nq) B P R s now' 0 (.ok m) ns own):=HDA.1
       have HFA:Hid (DFr B P w (w6.drewN nq)):=HF6.out.two HDA.2
       obtain ⟨wA,hwA⟩:∃W,w6.drewN nq=W:=⟨_,rfl⟩
       rw [hwA] at HDA1 HFA ⊢
       clear hwA HDA z0 z1
       go_wp2_with (first | (go_at_call 31;refine (CM.out now' ns own (.ok m) _ HDA1.out).mono ?_;rintro e w7 ⟨rfl,hd7,hf7⟩))
       refine bodyPost_end (results_none rfl _ _ _) rfl ?_
       have hd7':Dq w7 B P R s now' 0 (must s.data.toList m 10) ns own:=hd7
       rw [<-HGM.out]
       exact mfin_post hd7' (HFA.out.two hf7)
      ·have hlt1:decide ((m:Int) < (s.size:Int))=false:=by simp;omega
       have hlt2:¬ (m:Int) < (s.size:Int):=by omega
       have HGG:Hid (G=.ok ⟨m,ns,own,now'⟩):=HT6.out.symm.trans (ltl_end s.data.toList ns own now' m (by omega))
       go_wp2
       go_quiet (fail)
       have HDA:=Dt.drew HQ6.out nq
       have HDA1:Hid (Dt (w6.drewN nq) B P R s now' 0 (.ok m) ns own):=HDA.1
       have HFA:Hid (DFr B P w (w6.drewN nq)):=HF6.out.two HDA.2
       go_wp2
       refine bodyPost_end (results_none rfl _ _ _) rfl ?_
       rw [HGG.out]
       exact ⟨rfl,fun d hh=>(by cases hh;exact HDA1.out),fun c' hh=>(by cases hh),HFA.out⟩
    | .ok d,a1,_,HG1 =>
     have hd4:=a1 d rfl
     obtain ⟨q1,hq1⟩:∃q1:Rs Nat,q1=.ok d.i:=⟨_,rfl⟩
     have HQ1:Hid (Dq w4 B P R s d.now 0 q1 d.ns d.own):=by rw [hq1];exact hd4
     have HTL:Hid (ltl s.data.toList d.ns d.own d.now ((q1.bind fun i=>.ok (bl s.data.toList i)).bind (cmtR s.data.toList))=G):=by
      show _=_
      rw [hq1,HG1.out];rfl
     clear a1 a2 hd4 hq1
     go_wp2_with (first | (go_at_call 26;refine (CB.out d.now d.ns d.own q1 _ HQ1.out).mono ?_;rintro e w5 ⟨rfl,hd5,hf5⟩) | (go_at_call 30;refine (CC.out d.now d.ns d.own _ _ hd5).mono ?_))
     rintro e w6 ⟨rfl,hd6,hf6⟩
     have HF6:Hid (DFr B P w w6):=(HFQ.out.two hf5).two hf6
     have HQ6:Hid (Dq w6 B P R s d.now 0 ((q1.bind fun i=>.ok (bl s.data.toList i)).bind (cmtR s.data.toList)) d.ns d.own):=hd6
     obtain ⟨q6,hq6⟩:∃q6,(q1.bind fun i=>.ok (bl s.data.toList i)).bind (cmtR s.data.toList)=q6:=⟨_,rfl⟩
     have HT6:Hid (ltl s.data.toList d.ns d.own d.now q6=G):=by
      show _=_
      rw [<-hq6];exact HTL.out
     rw [hq6] at HQ6
     clear hd5 hf5 hd6 hf6 hq6
     match q6,HQ6,HT6 with
     | .error c,HQ6,HT6 =>
      obtain ⟨Lx,Ox,⟨y1,jj,y2,y3⟩,y4⟩:=HQ6.out
      obtain ⟨z0,z1,-,-,-,-,-,-,-⟩:=y3.cells
      have HGG:Hid (G=.error c):=HT6.out.symm
      clear y1 y3 y4
      by_cases hjj:jj < s.size
      ·have hlt1:decide ((jj:Int) < (s.size:Int))=true:=by simp;omega
       have hlt2:(jj:Int) < (s.size:Int):=by omega
       go_wp2
       go_quiet (fail)
       have HDA:=Fq.drew HQ6.out nq
       have HDA1:Hid (Dq (w6.drewN nq) B P R s d.now 0 (.error c) d.ns d.own):=HDA.1
       have HFA:Hid (DFr B P w (w6.drewN nq)):=HF6.out.two HDA.2
       obtain ⟨wA,hwA⟩:∃W,w6.drewN nq=W:=⟨_,rfl⟩
       rw [hwA] at HDA1 HFA ⊢
       clear hwA HDA z0 z1
       go_wp2_with (first | (go_at_call 31;refine (CM.out d.now d.ns d.own (.error c) _ HDA1.out).mono ?_;rintro e w7 ⟨rfl,hd7,hf7⟩))
       refine bodyPost_end (results_none rfl _ _ _) rfl ?_
       rw [HGG.out]
       exact ⟨rfl,fun d hh=>(by cases hh),fun c' hh=>(by injection hh with hh;subst hh;exact ⟨d.now,hd7⟩),HFA.out.two hf7⟩
      ·have hlt1:decide ((jj:Int) < (s.size:Int))=false:=by simp;omega
       have hlt2:¬ (jj:Int) < (s.size:Int):=by omega
       go_wp2
       go_quiet (fail)
       have HDA:=Fq.drew HQ6.out nq
       have HDA1:Hid (Fq (w6.drewN nq) B P R s d.now 0 c):=HDA.1
       have HFA:Hid (DFr B P w (w6.drewN nq)):=HF6.out.two HDA.2
       go_wp2
       refine bodyPost_end (results_none rfl _ _ _) rfl ?_
       rw [HGG.out]
       exact ⟨rfl,fun d hh=>(by cases hh),fun c' hh=>(by injection hh with hh;subst hh;exact ⟨d.now,HDA1.out⟩),HFA.out⟩
     | .ok m,HQ6,HT6 =>
      obtain ⟨z0,z1,-,-,-,hms,-⟩:=Dt.cells HQ6.out
      by_cases hm:m < s.size
      ·have hlt1:decide ((m:Int) < (s.size:Int))=true:=by simp;omega
       have hlt2:(m:Int) < (s.size:Int):=by omega
       have HGM:Hid (mFin d.ns d.own d.now (must s.data.toList m 10)=G):=(ltl_in s.data.toList d.ns d.own d.now m (by omega)).symm.trans HT6.out
       go_wp2
       go_quiet (fail)
       have HDA:=Dt.drew HQ6.out nq
       have HDA1:Hid (Dq (w6.drewN nq) B P R s d.now 0 (.ok m) d.ns d.own):=HDA.1
       have HFA:Hid (DFr B P w (w6.drewN nq)):=HF6.out.two HDA.2
       obtain ⟨wA,hwA⟩:∃W,w6.drewN nq=W:=⟨_,rfl⟩
       rw [hwA] at HDA1 HFA ⊢
       clear hwA HDA z0 z1
       go_wp2_with (first | (go_at_call 31;refine (CM.out d.now d.ns d.own (.ok m) _ HDA1.out).mono ?_;rintro e w7 ⟨rfl,hd7,hf7⟩))
       refine bodyPost_end (results_none rfl _ _ _) rfl ?_
       have hd7':Dq w7 B P R s d.now 0 (must s.data.toList m 10) d.ns d.own:=hd7
       rw [<-HGM.out]
       exact mfin_post hd7' (HFA.out.two hf7)
      ·have hlt1:decide ((m:Int) < (s.size:Int))=false:=by simp;omega
       have hlt2:¬ (m:Int) < (s.size:Int):=by omega
       have HGG:Hid (G=.ok ⟨m,d.ns,d.own,d.now⟩):=HT6.out.symm.trans (ltl_end s.data.toList d.ns d.own d.now m (by omega))
       go_wp2
       go_quiet (fail)
       have HDA:=Dt.drew HQ6.out nq
       have HDA1:Hid (Dt (w6.drewN nq) B P R s d.now 0 (.ok m) d.ns d.own):=HDA.1
       have HFA:Hid (DFr B P w (w6.drewN nq)):=HF6.out.two HDA.2
       go_wp2
       refine bodyPost_end (results_none rfl _ _ _) rfl ?_
       rw [HGG.out]
       exact ⟨rfl,fun d hh=>(by cases hh;exact HDA1.out),fun c' hh=>(by cases hh),HFA.out⟩
   ·have HG1:Hid (G=lend s.data.toList (.ok ⟨j,ns,own,now⟩)):=by
     have:=HG0.out
     rw [if_neg h91,if_neg (fun hh=>hpp ⟨by rw [<-hb35];simpa [hxj] using hh.2.1,by rw [<-hb10];simpa [hxj] using hh.2.2⟩)] at this
     exact this
    clear h91 hxj CP
    cases b35 with
    | false =>
     go_wp2
     go_quiet (fail)
     have HDA:=HD2.out.drew nq
     have HFQ:Hid (DFr B P w (w2.drewN nq)):=HF2.out.two HDA.2
     obtain ⟨q1,hq1⟩:∃q1:Rs Nat,q1=.ok j:=⟨_,rfl⟩
     have HQ1:Hid (Dq (w2.drewN nq) B P R s now 0 q1 ns own):=by rw [hq1];exact HDA.1
     have HTL:Hid (ltl s.data.toList ns own now ((q1.bind fun i=>.ok (bl s.data.toList i)).bind (cmtR s.data.toList))=G):=by
      show _=_
      rw [hq1,HG1.out];rfl
     obtain ⟨wA,hwA⟩:∃W,w2.drewN nq=W:=⟨_,rfl⟩
     rw [hwA] at HQ1 HFQ ⊢
     clear hwA HDA c0 c1 hq1
     go_wp2_with (first | (go_at_call 26;refine (CB.out now ns own q1 _ HQ1.out).mono ?_;rintro e w5 ⟨rfl,hd5,hf5⟩) | (go_at_call 30;refine (CC.out now ns own _ _ hd5).mono ?_))
     rintro e w6 ⟨rfl,hd6,hf6⟩
     have HF6:Hid (DFr B P w w6):=(HFQ.out.two hf5).two hf6
     have HQ6:Hid (Dq w6 B P R s now 0 ((q1.bind fun i=>.ok (bl s.data.toList i)).bind (cmtR s.data.toList)) ns own):=hd6
     obtain ⟨q6,hq6⟩:∃q6,(q1.bind fun i=>.ok (bl s.data.toList i)).bind (cmtR s.data.toList)=q6:=⟨_,rfl⟩
     have HT6:Hid (ltl s.data.toList ns own now q6=G):=by
      show _=_
      rw [<-hq6];exact HTL.out
     rw [hq6] at HQ6
     clear hd5 hf5 hd6 hf6 hq6
     match q6,HQ6,HT6 with
     | .error c,HQ6,HT6 =>
      obtain ⟨Lx,Ox,⟨y1,jj,y2,y3⟩,y4⟩:=HQ6.out
      obtain ⟨z0,z1,-,-,-,-,-,-,-⟩:=y3.cells
      have HGG:Hid (G=.error c):=HT6.out.symm
      clear y1 y3 y4
      by_cases hjj:jj < s.size
      ·have hlt1:decide ((jj:Int) < (s.size:Int))=true:=by simp;omega
       have hlt2:(jj:Int) < (s.size:Int):=by omega
       go_wp2
       go_quiet (fail)
       have HDA:=Fq.drew HQ6.out nq
       have HDA1:Hid (Dq (w6.drewN nq) B P R s now 0 (.error c) ns own):=HDA.1
       have HFA:Hid (DFr B P w (w6.drewN nq)):=HF6.out.two HDA.2
       obtain ⟨wA,hwA⟩:∃W,w6.drewN nq=W:=⟨_,rfl⟩
       rw [hwA] at HDA1 HFA ⊢
       clear hwA HDA z0 z1
       go_wp2_with (first | (go_at_call 31;refine (CM.out now ns own (.error c) _ HDA1.out).mono ?_;rintro e w7 ⟨rfl,hd7,hf7⟩))
       refine bodyPost_end (results_none rfl _ _ _) rfl ?_
       rw [HGG.out]
       exact ⟨rfl,fun d hh=>(by cases hh),fun c' hh=>(by injection hh with hh;subst hh;exact ⟨now,hd7⟩),HFA.out.two hf7⟩
      ·have hlt1:decide ((jj:Int) < (s.size:Int))=false:=by simp;omega
       have hlt2:¬ (jj:Int) < (s.size:Int):=by omega
       go_wp2
       go_quiet (fail)
       have HDA:=Fq.drew HQ6.out nq
       have HDA1:Hid (Fq (w6.drewN nq) B P R s now 0 c):=HDA.1
       have HFA:Hid (DFr B P w (w6.drewN nq)):=HF6.out.two HDA.2
       go_wp2
       refine bodyPost_end (results_none rfl _ _ _) rfl ?_
       rw [HGG.out]
       exact ⟨rfl,fun d hh=>(by cases hh),fun c' hh=>(by injection hh with hh;subst hh;exact ⟨now,HDA1.out⟩),HFA.out⟩
     | .ok m,HQ6,HT6 =>
      obtain ⟨z0,z1,-,-,-,hms,-⟩:=Dt.cells HQ6.out
      by_cases hm:m < s.size
      ·have hlt1:decide ((m:Int) < (s.size:Int))=true:=by simp;omega
       have hlt2:(m:Int) < (s.size:Int):=by omega
       have HGM:Hid (mFin ns own now (must s.data.toList m 10)=G):=(ltl_in s.data.toList ns own now m (by omega)).symm.trans HT6.out
       go_wp2
       go_quiet (fail)
       have HDA:=Dt.drew HQ6.out nq
       have HDA1:Hid (Dq (w6.drewN nq) B P R s now 0 (.ok m) ns own):=HDA.1
       have HFA:Hid (DFr B P w (w6.drewN nq)):=HF6.out.two HDA.2
       obtain ⟨wA,hwA⟩:∃W,w6.drewN nq=W:=⟨_,rfl⟩
       rw [hwA] at HDA1 HFA ⊢
       clear hwA HDA z0 z1
       go_wp2_with (first | (go_at_call 31;refine (CM.out now ns own (.ok m) _ HDA1.out).mono ?_;rintro e w7 ⟨rfl,hd7,hf7⟩))
       refine bodyPost_end (results_none rfl _ _ _) rfl ?_
       have hd7':Dq w7 B P R s now 0 (must s.data.toList m 10) ns own:=hd7
       rw [<-HGM.out]
       exact mfin_post hd7' (HFA.out.two hf7)
      ·have hlt1:decide ((m:Int) < (s.size:Int))=false:=by simp;omega
       have hlt2:¬ (m:Int) < (s.size:Int):=by omega
       have HGG:Hid (G=.ok ⟨m,ns,own,now⟩):=HT6.out.symm.trans (ltl_end s.data.toList ns own now m (by omega))
       go_wp2
       go_quiet (fail)
       have HDA:=Dt.drew HQ6.out nq
       have HDA1:Hid (Dt (w6.drewN nq) B P R s now 0 (.ok m) ns own):=HDA.1
       have HFA:Hid (DFr B P w (w6.drewN nq)):=HF6.out.two HDA.2
       go_wp2
       refine bodyPost_end (results_none rfl _ _ _) rfl ?_
       rw [HGG.out]
       exact ⟨rfl,fun d hh=>(by cases hh;exact HDA1.out),fun c' hh=>(by cases hh),HFA.out⟩
    | true =>
     cases b10 with
     | true=>exact (hpp ⟨rfl,rfl⟩).elim
     | false =>
      go_wp2
      go_quiet (fail)
      have HDA:=HD2.out.drew nq
      have HFQ:Hid (DFr B P w (w2.drewN nq)):=HF2.out.two HDA.2
      obtain ⟨q1,hq1⟩:∃q1:Rs Nat,q1=.ok j:=⟨_,rfl⟩
      have HQ1:Hid (Dq (w2.drewN nq) B P R s now 0 q1 ns own):=by rw [hq1];exact HDA.1
      have HTL:Hid (ltl s.data.toList ns own now ((q1.bind fun i=>.ok (bl s.data.toList i)).bind (cmtR s.data.toList))=G):=by
       show _=_
       rw [hq1,HG1.out];rfl
      obtain ⟨wA,hwA⟩:∃W,w2.drewN nq=W:=⟨_,rfl⟩
      rw [hwA] at HQ1 HFQ ⊢
      clear hwA HDA c0 c1 hq1
      go_wp2_with (first | (go_at_call 26;refine (CB.out now ns own q1 _ HQ1.out).mono ?_;rintro e w5 ⟨rfl,hd5,hf5⟩) | (go_at_call 30;refine (CC.out now ns own _ _ hd5).mono ?_))
      rintro e w6 ⟨rfl,hd6,hf6⟩
      have HF6:Hid (DFr B P w w6):=(HFQ.out.two hf5).two hf6
      have HQ6:Hid (Dq w6 B P R s now 0 ((q1.bind fun i=>.ok (bl s.data.toList i)).bind (cmtR s.data.toList)) ns own):=hd6
      obtain ⟨q6,hq6⟩:∃q6,(q1.bind fun i=>.ok (bl s.data.toList i)).bind (cmtR s.data.toList)=q6:=⟨_,rfl⟩
      have HT6:Hid (ltl s.data.toList ns own now q6=G):=by
       show _=_
       rw [<-hq6];exact HTL.out
      rw [hq6] at HQ6
      clear hd5 hf5 hd6 hf6 hq6
      match q6,HQ6,HT6 with
      | .error c,HQ6,HT6 =>
       obtain ⟨Lx,Ox,⟨y1,jj,y2,y3⟩,y4⟩:=HQ6.out
       obtain ⟨z0,z1,-,-,-,-,-,-,-⟩:=y3.cells
       have HGG:Hid (G=.error c):=HT6.out.symm
       clear y1 y3 y4
       by_cases hjj:jj < s.size
       ·have hlt1:decide ((jj:Int) < (s.size:Int))=true:=by simp;omega
        have hlt2:(jj:Int) < (s.size:Int):=by omega
        go_wp2
        go_quiet (fail)
        have HDA:=Fq.drew HQ6.out nq
        have HDA1:Hid (Dq (w6.drewN nq) B P R s now 0 (.error c) ns own):=HDA.1
        have HFA:Hid (DFr B P w (w6.drewN nq)):=HF6.out.two HDA.2
        obtain ⟨wA,hwA⟩:∃W,w6.drewN nq=W:=⟨_,rfl⟩
        rw [hwA] at HDA1 HFA ⊢
        clear hwA HDA z0 z1
        go_wp2_with (first | (go_at_call 31;refine (CM.out now ns own (.error c) _ HDA1.out).mono ?_;rintro e w7 ⟨rfl,hd7,hf7⟩))
        refine bodyPost_end (results_none rfl _ _ _) rfl ?_
        rw [HGG.out]
        exact ⟨rfl,fun d hh=>(by cases hh),fun c' hh=>(by injection hh with hh;subst hh;exact ⟨now,hd7⟩),HFA.out.two hf7⟩
       ·have hlt1:decide ((jj:Int) < (s.size:Int))=false:=by simp;omega
        have hlt2:¬ (jj:Int) < (s.size:Int):=by omega
        go_wp2
        go_quiet (fail)
        have HDA:=Fq.drew HQ6.out nq
        have HDA1:Hid (Fq (w6.drewN nq) B P R s now 0 c):=HDA.1
        have HFA:Hid (DFr B P w (w6.drewN nq)):=HF6.out.two HDA.2
        go_wp2
        refine bodyPost_end (results_none rfl _ _ _) rfl ?_
        rw [HGG.out]
        exact ⟨rfl,fun d hh=>(by cases hh),fun c' hh=>(by injection hh with hh;subst hh;exact ⟨now,HDA1.out⟩),HFA.out⟩
      | .ok m,HQ6,HT6 =>
       obtain ⟨z0,z1,-,-,-,hms,-⟩:=Dt.cells HQ6.out
       by_cases hm:m < s.size
       ·have hlt1:decide ((m:Int) < (s.size:Int))=true:=by simp;omega
        have hlt2:(m:Int) < (s.size:Int):=by omega
        have HGM:Hid (mFin ns own now (must s.data.toList m 10)=G):=(ltl_in s.data.toList ns own now m (by omega)).symm.trans HT6.out
        go_wp2
        go_quiet (fail)
        have HDA:=Dt.drew HQ6.out nq
        have HDA1:Hid (Dq (w6.drewN nq) B P R s now 0 (.ok m) ns own):=HDA.1
        have HFA:Hid (DFr B P w (w6.drewN nq)):=HF6.out.two HDA.2
        obtain ⟨wA,hwA⟩:∃W,w6.drewN nq=W:=⟨_,rfl⟩
        rw [hwA] at HDA1 HFA ⊢
        clear hwA HDA z0 z1
        go_wp2_with (first | (go_at_call 31;refine (CM.out now ns own (.ok m) _ HDA1.out).mono ?_;rintro e w7 ⟨rfl,hd7,hf7⟩))
        refine bodyPost_end (results_none rfl _ _ _) rfl ?_
        have hd7':Dq w7 B P R s now 0 (must s.data.toList m 10) ns own:=hd7
        rw [<-HGM.out]
        exact mfin_post hd7' (HFA.out.two hf7)
       ·have hlt1:decide ((m:Int) < (s.size:Int))=false:=by simp;omega
        have hlt2:¬ (m:Int) < (s.size:Int):=by omega
        have HGG:Hid (G=.ok ⟨m,ns,own,now⟩):=HT6.out.symm.trans (ltl_end s.data.toList ns own now m (by omega))
        go_wp2
        go_quiet (fail)
        have HDA:=Dt.drew HQ6.out nq
        have HDA1:Hid (Dt (w6.drewN nq) B P R s now 0 (.ok m) ns own):=HDA.1
        have HFA:Hid (DFr B P w (w6.drewN nq)):=HF6.out.two HDA.2
        go_wp2
        refine bodyPost_end (results_none rfl _ _ _) rfl ?_
        rw [HGG.out]
        exact ⟨rfl,fun d hh=>(by cases hh;exact HDA1.out),fun c' hh=>(by cases hh),HFA.out⟩
  ·have hlt1:decide ((j:Int) < (s.size:Int))=false:=by simp;omega
   have HG1:Hid (G=lend s.data.toList (.ok ⟨j,ns,own,now⟩)):=by
    have:=HG0.out
    rw [if_neg h91,if_neg (fun hh=>hh.1 (HXE.out hjl))] at this
    exact this
   clear h91 CP
   go_wp2
   go_quiet (fail)
   have HDA:=HD2.out.drew nq
   have HFQ:Hid (DFr B P w (w2.drewN nq)):=HF2.out.two HDA.2
   obtain ⟨q1,hq1⟩:∃q1:Rs Nat,q1=.ok j:=⟨_,rfl⟩
   have HQ1:Hid (Dq (w2.drewN nq) B P R s now 0 q1 ns own):=by rw [hq1];exact HDA.1
   have HTL:Hid (ltl s.data.toList ns own now ((q1.bind fun i=>.ok (bl s.data.toList i)).bind (cmtR s.data.toList))=G):=by
    show _=_
    rw [hq1,HG1.out];rfl
   obtain ⟨wA,hwA⟩:∃W,w2.drewN nq=W:=⟨_,rfl⟩
   rw [hwA] at HQ1 HFQ ⊢
   clear hwA HDA c0 c1 hq1
   go_wp2_with (first | (go_at_call 26;refine (CB.out now ns own q1 _ HQ1.out).mono ?_;rintro e w5 ⟨rfl,hd5,hf5⟩) | (go_at_call 30;refine (CC.out now ns own _ _ hd5).mono ?_))
   rintro e w6 ⟨rfl,hd6,hf6⟩
   have HF6:Hid (DFr B P w w6):=(HFQ.out.two hf5).two hf6
   have HQ6:Hid (Dq w6 B P R s now 0 ((q1.bind fun i=>.ok (bl s.data.toList i)).bind (cmtR s.data.toList)) ns own):=hd6
   obtain ⟨q6,hq6⟩:∃q6,(q1.bind fun i=>.ok (bl s.data.toList i)).bind (cmtR s.data.toList)=q6:=⟨_,rfl⟩
   have HT6:Hid (ltl s.data.toList ns own now q6=G):=by
    show _=_
    rw [<-hq6];exact HTL.out
   rw [hq6] at HQ6
   clear hd5 hf5 hd6 hf6 hq6
   match q6,HQ6,HT6 with
   | .error c,HQ6,HT6 =>
    obtain ⟨Lx,Ox,⟨y1,jj,y2,y3⟩,y4⟩:=HQ6.out
    obtain ⟨z0,z1,-,-,-,-,-,-,-⟩:=y3.cells
    have HGG:Hid (G=.error c):=HT6.out.symm
    clear y1 y3 y4
    by_cases hjj:jj < s.size
    ·have hlt1:decide ((jj:Int) < (s.size:Int))=true:=by simp;omega
     have hlt2:(jj:Int) < (s.size:Int):=by omega
     go_wp2
     go_quiet (fail)
     have HDA:=Fq.drew HQ6.out nq
     have HDA1:Hid (Dq (w6.drewN nq) B P R s now 0 (.error c) ns own):=HDA.1
     have HFA:Hid (DFr B P w (w6.drewN nq)):=HF6.out.two HDA.2
     obtain ⟨wA,hwA⟩:∃W,w6.drewN nq=W:=⟨_,rfl⟩
     rw [hwA] at HDA1 HFA ⊢
     clear hwA HDA z0 z1
     go_wp2_with (first | (go_at_call 31;refine (CM.out now ns own (.error c) _ HDA1.out).mono ?_;rintro e w7 ⟨rfl,hd7,hf7⟩))
     refine bodyPost_end (results_none rfl _ _ _) rfl ?_
     rw [HGG.out]
     exact ⟨rfl,fun d hh=>(by cases hh),fun c' hh=>(by injection hh with hh;subst hh;exact ⟨now,hd7⟩),HFA.out.two hf7⟩
    ·have hlt1:decide ((jj:Int) < (s.size:Int))=false:=by simp;omega
     have hlt2:¬ (jj:Int) < (s.size:Int):=by omega
     go_wp2
     go_quiet (fail)
     have HDA:=Fq.drew HQ6.out nq
     have HDA1:Hid (Fq (w6.drewN nq) B P R s now 0 c):=HDA.1
     have HFA:Hid (DFr B P w (w6.drewN nq)):=HF6.out.two HDA.2
     go_wp2
     refine bodyPost_end (results_none rfl _ _ _) rfl ?_
     rw [HGG.out]
     exact ⟨rfl,fun d hh=>(by cases hh),fun c' hh=>(by injection hh with hh;subst hh;exact ⟨now,HDA1.out⟩),HFA.out⟩
   | .ok m,HQ6,HT6 =>
    obtain ⟨z0,z1,-,-,-,hms,-⟩:=Dt.cells HQ6.out
    by_cases hm:m < s.size
    ·have hlt1:decide ((m:Int) < (s.size:Int))=true:=by simp;omega
     have hlt2:(m:Int) < (s.size:Int):=by omega
     have HGM:Hid (mFin ns own now (must s.data.toList m 10)=G):=(ltl_in s.data.toList ns own now m (by omega)).symm.trans HT6.out
     go_wp2
     go_quiet (fail)
     have HDA:=Dt.drew HQ6.out nq
     have HDA1:Hid (Dq (w6.drewN nq) B P R s now 0 (.ok m) ns own):=HDA.1
     have HFA:Hid (DFr B P w (w6.drewN nq)):=HF6.out.two HDA.2
     obtain ⟨wA,hwA⟩:∃W,w6.drewN nq=W:=⟨_,rfl⟩
     rw [hwA] at HDA1 HFA ⊢
     clear hwA HDA z0 z1
     go_wp2_with (first | (go_at_call 31;refine (CM.out now ns own (.ok m) _ HDA1.out).mono ?_;rintro e w7 ⟨rfl,hd7,hf7⟩))
     refine bodyPost_end (results_none rfl _ _ _) rfl ?_
     have hd7':Dq w7 B P R s now 0 (must s.data.toList m 10) ns own:=hd7
     rw [<-HGM.out]
     exact mfin_post hd7' (HFA.out.two hf7)
    ·have hlt1:decide ((m:Int) < (s.size:Int))=false:=by simp;omega
     have hlt2:¬ (m:Int) < (s.size:Int):=by omega
     have HGG:Hid (G=.ok ⟨m,ns,own,now⟩):=HT6.out.symm.trans (ltl_end s.data.toList ns own now m (by omega))
     go_wp2
     go_quiet (fail)
     have HDA:=Dt.drew HQ6.out nq
     have HDA1:Hid (Dt (w6.drewN nq) B P R s now 0 (.ok m) ns own):=HDA.1
     have HFA:Hid (DFr B P w (w6.drewN nq)):=HF6.out.two HDA.2
     go_wp2
     refine bodyPost_end (results_none rfl _ _ _) rfl ?_
     rw [HGG.out]
     exact ⟨rfl,fun d hh=>(by cases hh;exact HDA1.out),fun c' hh=>(by cases hh),HFA.out⟩
end Go.Proofs.YtbgnflcebafjjaaGreatDoor
