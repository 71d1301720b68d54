import Derived.Test.YtbgnflcebafjjaaGreatDoorM16
import Derived.Test.YtbgnflcebafjjaaGreatDoorM04
import Derived.Deep.RegionHeld3
namespace Go.Proofs.YtbgnflcebafjjaaGreatDoor
open Go.RowKit Go.Maps Go.WideMaps Go.Joins
set_option linter.unusedVariables false
def KqPost (B P R:Nat) (s:ByteArray) (now de i:Nat) (ns:List Tn) (own:List Nat) (g:Rs (List UInt8 × Nat)) (w:World) (e:Ending) (w':World):Prop:=(∀t j,g=.ok (t,j)->e=.returned (.tuple #[.string ⟨t.toArray⟩,.int .i64 (i:Nat)])/\Dt w' B P R s now de (.ok j) ns own)/\(∀c,g=.error c->∃t:List UInt8,e=.returned (.tuple #[.string ⟨t.toArray⟩,.int .i64 (i:Nat)])/\Dt w' B P R s now de (.error c) ns own)/\DFr B P w w'
theorem qKey (B P R:Nat) (s:ByteArray) (now de i:Nat) (ns:List Tn) (own:List Nat) (w:World) (h:Dt w B P R s now de (.ok i) ns own) (hs:s.size<=100000) :
  Calls Tryz.prog 52 #[.pointer (some ⟨R,0,none⟩)] w (KqPost B P R s now de i ns own (rdKey s.data.toList i) w):=by
 obtain ⟨h1,h2,N,c,O,oc,xs,ks,h3,h4,h5,h6⟩:=h
 refine (dKey_any R s _ _ now de i w h6.2 h6.1 (by omega)).mono ?_
 rintro e w' ⟨a1,a2,a3⟩
 refine ⟨fun t j hg=>?_,fun c hg=>?_,dfr_R h6 h1 h2 h5.hP a3⟩
 ·obtain ⟨b1,b2⟩:=a1 t j hg
  exact ⟨b1,h1,h2,N,_,O,oc,xs,ks,h3,h4,h5.keepR h6.2 a3,b2⟩
 ·obtain ⟨⟨t,-,b1⟩,b2⟩:=a2 c.1 c.2 hg
  exact ⟨t,b1,h1,h2,N,_,O,oc,xs,ks,h3,h4,h5.keepR h6.2 a3,b2⟩
def PrPost (B P R:Nat) (s:ByteArray) (now:Nat) (own:List Nat) (g:Rs Sd) (w:World) (e:Ending) (w':World):Prop:=e=.returned (.tuple #[])/\(∀d,g=.ok d->Dt w' B P R s d.now 0 (.ok d.i) d.ns d.own)/\(∀c,g=.error c->∃now',Fq w' B P R s now' 0 c)/\DFr B P w w'
def pFin (own:List Nat) (now:Nat):Rs (Nat × List Tn)->Rs Sd
 | .error e=>.error e
 | .ok (j,ns)=>.ok ⟨j,ns,own,now⟩
theorem pr_key (l:List UInt8) (d:Sd) (c:Int × Nat) (h:rdKey l d.i=.error c):rdPair l d=.error c:=by unfold rdPair;rw [h]
theorem pr_must (l:List UInt8) (d:Sd) (k:List UInt8) (j:Nat) (c:Int × Nat) (h:rdKey l d.i=.ok (k,j)) (h2:must l (bl l j) 61=.error c):rdPair l d=.error c:=by unfold rdPair;rw [h];simp only [h2]
theorem pr_twice (l:List UInt8) (d:Sd) (k:List UInt8) (j j1 q:Nat) (h:rdKey l d.i=.ok (k,j)) (h2:must l (bl l j) 61=.ok j1) (h3:kidO d.ns d.now k=some q):rdPair l d=.error (5,d.i):=by unfold rdPair;rw [h];simp only [h2,h3]
theorem pr_val (l:List UInt8) (d:Sd) (k:List UInt8) (j j1:Nat) (h:rdKey l d.i=.ok (k,j)) (h2:must l (bl l j) 61=.ok j1) (h3:kidO d.ns d.now k=none):rdPair l d=pFin d.own d.now (val l (2 * l.length+2) (bl l j1) d.now k d.i 0 d.ns):=by
 unfold rdPair
 rw [h]
 simp only [h2,h3]
 cases val l (2 * l.length+2) (bl l j1) d.now k d.i 0 d.ns <;> rfl
theorem Fq.now {w:World} {B P R:Nat} {s:ByteArray} {now de:Nat} {e:Int × Nat} (h:Fq w B P R s now de e):w.cell? ⟨R,4,none⟩=some (.int .i64 (now:Nat))/\w.cell? ⟨R,5,none⟩=some (.int .i64 e.1)/\(e.1 == 0)=false:=by
 obtain ⟨L,O,⟨h1,j,h2,h3⟩,-⟩:=h
 exact ⟨h3.cells.2.2.2.2.1,h3.cells.2.2.2.2.2.1,by simpa using h1⟩
theorem Fq.drew {w:World} {B P R:Nat} {s:ByteArray} {now de:Nat} {c:Int × Nat} (h:Fq w B P R s now de c) (n:Nat):Fq (w.drewN n) B P R s now de c/\DFr B P w (w.drewN n):=by
 obtain ⟨L,O,h1,h4,h5,h6⟩:=h
 obtain ⟨i,er,p,hd⟩:=h1.dd
 have g:w.grownBy (w.drewN n) none:=gb_drew (gb_refl w none) n
 exact ⟨⟨L,O,h1.grow g,h4,h5,h6⟩,DFr.gb g (Nat.le_of_lt (Nat.lt_of_le_of_lt h4 (blk_lt hd))) h6⟩
set_option maxRecDepth 100000 in
set_option maxHeartbeats 3200000 in
theorem dPair_any (B P R:Nat) (s:ByteArray) (now i:Nat) (ns:List Tn) (own:List Nat) (w:World) (h:Dt w B P R s now 0 (.ok i) ns own) (W:WF ns own) (V:WT ns) (hnow:now < ns.length) (hk2:¬ kdAt ns now=2) (hsz:ns.length+(s.size - i)<=700000) (hs:s.size<=100000) :
  Calls Tryz.prog 29 #[.pointer (some ⟨R,0,none⟩)] w (PrPost B P R s now own (rdPair s.data.toList ⟨i,ns,own,now⟩) w):=by
 have hl:s.data.toList.length=s.size:=by simp
 have CK:Hid (Calls Tryz.prog 52 #[.pointer (some ⟨R,0,none⟩)] w (KqPost B P R s now 0 i ns own (rdKey s.data.toList i) w)):=qKey B P R s now 0 i ns own w h hs
 have CB:Hid (∀(q:Rs Nat) w,Dq w B P R s now 0 q ns own->Calls Tryz.prog 26 #[.pointer (some ⟨R,0,none⟩)] w fun e w'=>e=.returned (.tuple #[])/\Dq w' B P R s now 0 (q.bind fun i=>.ok (bl s.data.toList i)) ns own/\DFr B P w w'):=fun q w h=>qBlanks B P R s now 0 ns own q w h hs
 have CM:Hid (∀(q:Rs Nat) w,Dq w B P R s now 0 q ns own->Calls Tryz.prog 31 #[.pointer (some ⟨R,0,none⟩),.int .u8 61] w fun e w'=>e=.returned (.tuple #[])/\Dq w' B P R s now 0 (q.bind fun i=>must s.data.toList i 61) ns own/\DFr B P w w'):=fun q w h=>qMust B P R s now 0 ns own q w h hs 61 (by decide)
 have CVL:Hid (∀(c:Int × Nat) (k:List UInt8) w,Fq w B P R s now 0 c->Calls Tryz.prog 57 #[.pointer (some ⟨R,0,none⟩),.int .i64 (now:Nat),.string ⟨k.toArray⟩,.int .i64 (i:Nat)] w fun e w'=>e=.returned (.tuple #[])/\Fq w' B P R s now 0 c/\DFr B P w w'):=fun c k w h=>dVal_late B P R s now 0 c now k i w h hs
 have HKO:Hid (∀k j,rdKey s.data.toList i=.ok (k,j)->i<=j/\j<=s.size):=fun k j hh=>by
  have hi:=h.cells.2.2.2.2.2.1
  have:=rdKey_ok s.data.toList i k j (by omega) hh
  omega
 obtain ⟨G,hG⟩:∃G,rdPair s.data.toList ⟨i,ns,own,now⟩=G:=⟨_,rfl⟩
 have HPK:Hid (∀c,rdKey s.data.toList i=.error c->G=.error c):=fun c hh=>by show G=_;rw [<-hG];exact pr_key _ _ c hh
 have HPM:Hid (∀k j c,rdKey s.data.toList i=.ok (k,j)->must s.data.toList (bl s.data.toList j) 61=.error c->G=.error c):=fun k j c h1 h2=>by show G=_;rw [<-hG];exact pr_must _ _ k j c h1 h2
 have HPT:Hid (∀k j j1 q,rdKey s.data.toList i=.ok (k,j)->must s.data.toList (bl s.data.toList j) 61=.ok j1->kidO ns now k=some q->G=.error (5,i)):=fun k j j1 q h1 h2 h3=>by show G=_;rw [<-hG];exact pr_twice _ _ k j j1 q h1 h2 h3
 have HPV:Hid (∀k j j1,rdKey s.data.toList i=.ok (k,j)->must s.data.toList (bl s.data.toList j) 61=.ok j1->kidO ns now k=none->G=pFin own now (val s.data.toList (2 * s.data.toList.length+2) (bl s.data.toList j1) now k i 0 ns)):=fun k j j1 h1 h2 h3=>by show G=_;rw [<-hG];exact pr_val _ _ k j j1 h1 h2 h3
 rw [hG]
 obtain ⟨K,hK⟩:∃K,rdKey s.data.toList i=K:=⟨_,rfl⟩
 rw [hK] at CK HPK HPM HPT HPV HKO
 have HWV:Hid (WF ns own/\WT ns/\now < ns.length/\¬ kdAt ns now=2):=⟨W,V,hnow,hk2⟩
 -- the tail behind a fault
 clear h hG hK W V hnow hk2
 go_enter Tryz.func29,Tryz.ntmps29
 go_wp2_with (first | (go_at_call 52;refine CK.out.mono ?_))
 rintro e w1 ⟨h1,h2,hf1⟩
 have HF1:Hid (DFr B P w w1):=hf1
 clear hf1
 match K,h1,h2,HPK,HPM,HPT,HPV,HKO with
 | .error c,_,h2,HPK,_,_,_,_ =>
  obtain ⟨t,rfl,hd1⟩:=h2 c rfl
  have HGG:Hid (G=.error c):=HPK.out c rfl
  have HD1:Hid (Dq w1 B P R s now 0 (.error c) ns own):=hd1.fq
  clear h1 h2 hd1
  go_wp2_with (first | (go_at_call 26;refine (CB.out (.error c) _ HD1.out).mono ?_;rintro e w2 ⟨rfl,hd2,hf2⟩) | (go_at_call 31;refine (CM.out (.error c) _ hd2).mono ?_))
  rintro e w3 ⟨rfl,hd3,hf3⟩
  have HD3:Hid (Fq w3 B P R s now 0 c):=hd3
  have HF3:Hid (DFr B P w w3):=(HF1.out.two hf2).two hf3
  clear hd2 hf2 hd3 hf3
  obtain ⟨a4,a5,a6⟩:=HD3.out.now
  go_wp2
  go_quiet (fail)
  have HDA:=HD3.out.drew nq
  have HDA1:Hid (Dq (w3.drewN nq) B P R s now 0 (.error c) ns own):=HDA.1
  have HFA:Hid (DFr B P w (w3.drewN nq)):=HF3.out.two HDA.2
  obtain ⟨wA,hwA⟩:∃W,w3.drewN nq=W:=⟨_,rfl⟩
  rw [hwA] at HDA1 HFA ⊢
  clear hwA HDA a4 a5 a6
  go_wp2_with (first | (go_at_call 26;refine (CB.out (.error c) _ HDA1.out).mono ?_))
  rintro e w4 ⟨rfl,hd4,hf4⟩
  have HD4:Hid (Fq w4 B P R s now 0 c):=hd4
  have HF4:Hid (DFr B P w w4):=HFA.out.two hf4
  obtain ⟨b4,-,-⟩:=HD4.out.now
  clear hd4 hf4
  go_wp2_with (first | (go_at_call 57;refine (CVL.out c t _ HD4.out).mono ?_;rintro e w5 ⟨rfl,hd5,hf5⟩))
  refine bodyPost_end (results_none rfl _ _ _) rfl ?_
  rw [HGG.out]
  exact ⟨rfl,fun d hh=>(by cases hh),fun c' hh=>(by injection hh with hh;subst hh;exact ⟨now,hd5⟩),HF4.out.two hf5⟩
 | .ok (k,j),h1,_,_,HPM,HPT,HPV,HKO =>
  obtain ⟨rfl,hd1⟩:=h1 k j rfl
  have HD1:Hid (Dq w1 B P R s now 0 (.ok j) ns own):=hd1
  obtain ⟨hij,hjs⟩:=HKO.out k j rfl
  have hbj:=bl_le s.data.toList j (by omega)
  clear h1 hd1
  go_wp2_with (first | (go_at_call 26;refine (CB.out (.ok j) _ HD1.out).mono ?_;rintro e w2 ⟨rfl,hd2,hf2⟩) | (go_at_call 31;refine (CM.out (.ok (bl s.data.toList j)) _ hd2).mono ?_))
  rintro e w3 ⟨rfl,hd3,hf3⟩
  have HF3:Hid (DFr B P w w3):=(HF1.out.two hf2).two hf3
  have HD3':Hid (Dq w3 B P R s now 0 (must s.data.toList (bl s.data.toList j) 61) ns own):=hd3
  have HMO:Hid (∀j1,must s.data.toList (bl s.data.toList j) 61=.ok j1->j<=j1/\j1<=s.size):=fun j1 hh=>by
   unfold must at hh
   split at hh
   ·rename_i hx
    have:=nx_lt (l:=s.data.toList) (i:=bl s.data.toList j) (by omega)
    injection hh with hh
    omega
   ·cases hh
  obtain ⟨q3,hq3⟩:∃q3,must s.data.toList (bl s.data.toList j) 61=q3:=⟨_,rfl⟩
  have HPM1:Hid (∀c,q3=.error c->G=.error c):=fun c hh=>HPM.out k j c rfl (hq3.trans hh)
  have HPT1:Hid (∀j1 q,q3=.ok j1->kidO ns now k=some q->G=.error (5,i)):=fun j1 q hh h3=>HPT.out k j j1 q rfl (hq3.trans hh) h3
  have HPV1:Hid (∀j1,q3=.ok j1->kidO ns now k=none->G=pFin own now (val s.data.toList (2 * s.data.toList.length+2) (bl s.data.toList j1) now k i 0 ns)):=fun j1 hh h3=>HPV.out k j j1 rfl (hq3.trans hh) h3
  rw [hq3] at HD3' HMO
  clear hd2 hf2 hd3 hf3 hq3 hbj HPM HPT HPV
  match q3,HD3',HMO,HPM1,HPT1,HPV1 with
  | .error c,HD3',_,HPM1,_,_ =>
   have HGG:Hid (G=.error c):=HPM1.out c rfl
   have HD3:Hid (Fq w3 B P R s now 0 c):=HD3'.out
   obtain ⟨a4,a5,a6⟩:=HD3.out.now
   go_wp2
   go_quiet (fail)
   have HDA:=HD3.out.drew nq
   have HDA1:Hid (Dq (w3.drewN nq) B P R s now 0 (.error c) ns own):=HDA.1
   have HFA:Hid (DFr B P w (w3.drewN nq)):=HF3.out.two HDA.2
   obtain ⟨wA,hwA⟩:∃W,w3.drewN nq=W:=⟨_,rfl⟩
   rw [hwA] at HDA1 HFA ⊢
   clear hwA HDA a4 a5 a6
   go_wp2_with (first | (go_at_call 26;refine (CB.out (.error c) _ HDA1.out).mono ?_))
   rintro e w4 ⟨rfl,hd4,hf4⟩
   have HD4:Hid (Fq w4 B P R s now 0 c):=hd4
   have HF4:Hid (DFr B P w w4):=HFA.out.two hf4
   obtain ⟨b4,-,-⟩:=HD4.out.now
   clear hd4 hf4
   go_wp2_with (first | (go_at_call 57;refine (CVL.out c k _ HD4.out).mono ?_;rintro e w5 ⟨rfl,hd5,hf5⟩))
   refine bodyPost_end (results_none rfl _ _ _) rfl ?_
   rw [HGG.out]
   exact ⟨rfl,fun d hh=>(by cases hh),fun c' hh=>(by injection hh with hh;subst hh;exact ⟨now,hd5⟩),HF4.out.two hf5⟩
  | .ok j1,HD3',HMO,_,HPT1,HPV1 =>
   have HD3:Hid (Dt w3 B P R s now 0 (.ok j1) ns own):=HD3'.out
   obtain ⟨hj1,hj1s⟩:=HMO.out j1 rfl
   obtain ⟨x1,x2,N,cc,O,oc,xs,ks,x3,x4,x5,x6⟩:=HD3.out
   obtain ⟨-,-,c2,-,c4,c5,-,-,-⟩:=x6.2.cells
   have CKd:Hid (∀n,Calls Tryz.prog 56 #[.slice (some ⟨N,0,none⟩) ns.length cc,.int .i64 (now:Nat),.string ⟨k.toArray⟩] (w3.drewN n) fun e w'=>e=.returned (.int .i64 (kidI ns now k))/\w'=w3.drewN n):=fun n=>dKid_any (w3.drewN n) B P ns _ own N cc _ xs ks now k (x5.gb (gb_drew (gb_refl w3 none) n)) HWV.out.1 HWV.out.2.2.1 (by omega)
   have CF:Hid (∀w,Dt w B P R s now 0 (.ok j1) ns own->Calls Tryz.prog 55 #[.pointer (some ⟨R,0,none⟩),.int .i64 5,.int .i64 (i:Nat)] w fun e w'=>e=.returned (.tuple #[])/\Dt w' B P R s now 0 (.error (5,i)) ns own/\DFr B P w w'):=fun w h=>qFail B P R s now 0 ns own j1 w h 5 (by decide) i
   have hbl:=bl_le s.data.toList j1 (by omega)
   have CV:Hid (∀w,Dt w B P R s now 0 (.ok (bl s.data.toList j1)) ns own->Calls Tryz.prog 57 #[.pointer (some ⟨R,0,none⟩),.int .i64 (now:Nat),.string ⟨k.toArray⟩,.int .i64 (i:Nat)] w (DvPost B P R s now 0 own (val s.data.toList (2 * s.data.toList.length+2) (bl s.data.toList j1) now k i 0 ns) w)):=fun w h=>(dVL_any _).1 B P R s own now _ now k i 0 ns w h hs HWV.out.1 HWV.out.2.1 HWV.out.2.2.1 HWV.out.2.2.2 (by omega) (by omega) (by omega)
   obtain ⟨M,hM⟩:∃M,ns.length=M:=⟨_,rfl⟩
   rw [hM] at c2 CKd
   have hMs:M<=700000:=by omega
   clear x1 x2 x3 x4 x5 x6 hM hbl hij hjs hj1 hj1s hsz
   cases hk:kidO ns now k with
   | some q =>
    rw [kidI_some hk] at CKd
    have HGG:Hid (G=.error (5,i)):=HPT1.out j1 q rfl hk
    have hq0:(0:Int)<=(q:Int):=by omega
    have hq1:decide ((0:Int)<=(q:Int))=true:=by simp
    clear hk
    go_wp2
    go_quiet (first | (go_at_call 56;exact Calls.quiet_of_same (CKd.out _)))
    have HDA:=HD3.out.drew nq
    have HDA1:Hid (Dt (w3.drewN nq) B P R s now 0 (.ok j1) ns own):=HDA.1
    have HFA:Hid (DFr B P w (w3.drewN nq)):=HF3.out.two HDA.2
    obtain ⟨wA,hwA⟩:∃W,w3.drewN nq=W:=⟨_,rfl⟩
    rw [hwA] at HDA1 HFA ⊢
    clear hwA HDA c2 c4 c5
    go_wp2_with (first | (go_at_call 55;refine (CF.out _ HDA1.out).mono ?_;rintro e w4 ⟨rfl,hd4,hf4⟩) | (go_at_call 26;refine (CB.out (.error (5,i)) _ hd4.fq).mono ?_))
    rintro e w5 ⟨rfl,hd5,hf5⟩
    have HD5:Hid (Fq w5 B P R s now 0 (5,i)):=hd5
    have HF5:Hid (DFr B P w w5):=(HFA.out.two hf4).two hf5
    obtain ⟨b4,-,-⟩:=HD5.out.now
    clear hd4 hf4 hd5 hf5
    go_wp2_with (first | (go_at_call 57;refine (CVL.out (5,i) k _ HD5.out).mono ?_;rintro e w6 ⟨rfl,hd6,hf6⟩))
    refine bodyPost_end (results_none rfl _ _ _) rfl ?_
    rw [HGG.out]
    exact ⟨rfl,fun d hh=>(by cases hh),fun c' hh=>(by cases hh;exact ⟨now,hd6⟩),HF5.out.two hf6⟩
   | none =>
    rw [kidI_none hk] at CKd
    have HGG:Hid (G=pFin own now (val s.data.toList (2 * s.data.toList.length+2) (bl s.data.toList j1) now k i 0 ns)):=HPV1.out j1 rfl hk
    obtain ⟨V,hV⟩:∃V,val s.data.toList (2 * s.data.toList.length+2) (bl s.data.toList j1) now k i 0 ns=V:=⟨_,rfl⟩
    rw [hV] at HGG CV
    clear hk hV
    go_wp2
    go_quiet (first | (go_at_call 56;exact Calls.quiet_of_same (CKd.out _)))
    have HDA:=HD3.out.drew nq
    have HDA1:Hid (Dq (w3.drewN nq) B P R s now 0 (.ok j1) ns own):=HDA.1
    have HFA:Hid (DFr B P w (w3.drewN nq)):=HF3.out.two HDA.2
    obtain ⟨wA,hwA⟩:∃W,w3.drewN nq=W:=⟨_,rfl⟩
    rw [hwA] at HDA1 HFA ⊢
    clear hwA HDA c2 c4 c5
    go_wp2_with (first | (go_at_call 26;refine (CB.out (.ok j1) _ HDA1.out).mono ?_))
    rintro e w5 ⟨rfl,hd5,hf5⟩
    have HD5:Hid (Dt w5 B P R s now 0 (.ok (bl s.data.toList j1)) ns own):=hd5
    have HF5:Hid (DFr B P w w5):=HFA.out.two hf5
    obtain ⟨-,-,-,-,b4,-,-⟩:=HD5.out.cells
    clear hd5 hf5
    go_wp2_with (first | (go_at_call 57;refine (CV.out _ HD5.out).mono ?_;rintro e w6 ⟨rfl,a1,a2,hf6⟩))
    refine bodyPost_end (results_none rfl _ _ _) rfl ?_
    rw [HGG.out]
    refine ⟨rfl,fun d hh=>?_,fun c' hh=>?_,HF5.out.two hf6⟩
    ·cases V with
     | error e=>cases hh
     | ok r =>
      obtain ⟨j2,ns2⟩:=r
      have e1:(Except.ok ⟨j2,ns2,own,now⟩:Rs Sd)=.ok d:=hh
      injection e1 with e1
      subst e1
      exact a1 j2 ns2 rfl
    ·cases V with
     | error e =>
      have e1:(Except.error e:Rs Sd)=.error c':=hh
      injection e1 with e1
      subst e1
      exact ⟨now,a2 e rfl⟩
     | ok r=>cases hh
end Go.Proofs.YtbgnflcebafjjaaGreatDoor
namespace Go.Proofs.YtbgnflcebafjjaaGreatDoor
open Go.RowKit Go.Joins
set_option linter.unusedVariables false
theorem run_sufT (s:ByteArray) (k:Nat) (hk:k<=s.size) (w:World) :
  (Instr.slice 9 (.string s) (some (.int .i64 (k:Int))) none none).run Tryz.prog w=.ok (.string ⟨(s.data.toList.drop k).toArray⟩) w:=by
 have h1:(0:Int)<=(k:Int):=by omega
 have h5:(k:Int)<=(s.size:Int):=by omega
 have e:s.extract k s.size=⟨(s.data.toList.drop k).toArray⟩:=by
  apply ByteArray.ext
  rw [ByteArray.data_extract]
  apply Array.ext'
  simp
  exact List.take_of_length_le (by simp)
 rw [<-e]
 simp [go_sem,Tryz.underlying9,h1,h5]
def StPost (R:Nat) (s:ByteArray) (T:Nat) (E:Int->TypeId × Value) (g:Rs (List UInt8 × Nat)) (w:World) (e:Ending) (w':World):Prop:=(∀t j,g=.ok (t,j)->e=.returned (.tuple #[.string ⟨t.toArray⟩,.nilIface])/\Rd w' R s j T)/\(∀c p,g=.error (c,p)->∃v,e=.returned (.tuple #[.string ⟨#[]⟩,v])/\FaultE w' v E c p/\∃j,Rd w' R s j T)/\w.grownBy w' (some R)
set_option maxRecDepth 100000 in
set_option maxHeartbeats 1600000 in
theorem tQuoted_any (R:Nat) (s:ByteArray) (i T:Nat) (E:Int->TypeId × Value) (w:World) (h:Rd w R s i T) (hi:i < s.size) (hs:s.size<=1048576) (he:Es w E) (hR:Far R)
  (hT:Lib.Utf8Tabs 7 8 w) (h3:¬ R=7) (h4:¬ R=8) :
  Calls Tryz.prog 99 #[.pointer (some ⟨R,0,none⟩)] w (StPost R s T E (str s.data.toList (s.data.toList.length+1) (i+1) []) w):=by
 have hl:s.data.toList.length=s.size:=by simp
 have CN:Hid (∀k w,Rd w R s k T->k<=s.size->Calls Tryz.prog 40 #[.pointer (some ⟨R,0,none⟩)] w fun e w'=>e=.returned (.int .i64 (nx s.data.toList k))/\w.grownBy w' none):=fun k w h1 h2=>tNext_any R s k T w h1 h2 hs
 have CE:Hid (∀k w',w.grownBy w' (some R)->Rd w' R s k T->k < s.size->Calls Tryz.prog 117 #[.pointer (some ⟨R,0,none⟩)] w' (RuPost R s T E (escN s.data.toList k) w')):=fun k w' hg hr hk=>tEscape_any R s k T E w' hr hk hs (he.grow hR hg) hR
 have CB:Hid (∀c w,Calls Tryz.prog 78 #[.int .i64 c] w fun e w'=>e=.returned (.bool (isBr c))/\w'=w):=tBarred_any
 have CH:Hid (∀k w',w.grownBy w' (some R)->Rd w' R s k T->Calls Tryz.prog 79 #[.pointer (some ⟨R,0,none⟩)] w' fun e w''=>(∃v,e=.returned v/\FaultE w'' v E 2 k)/\w'.grownBy w'' none):=fun k w' hg hr=>tHere_any R s k T (E 2).1 (E 2).2 w' hr (he.grow hR hg).te
 have CD:Hid (∀k w',w.grownBy w' (some R)->k < s.size->Calls Tryz.prog 119 #[.string ⟨(s.data.toList.drop k).toArray⟩] w' fun e w''=>∃r n:Nat,e=.returned (.tuple #[.int .i32 (r:Nat),.int .i64 (n:Nat)])/\Told (seqN s.data.toList k) (r,n)/\Below w'.heap.size w' w''):=fun k w' hg hk=>tDecode_any s.data.toList k (by omega) w' (tabs_grow hT h3 h4 hg)
 have HST:Hid (∀f i acc,str s.data.toList (f+1) i acc =
  if nx s.data.toList i=34 then .ok (acc,i+1)
  else if nx s.data.toList i=92 then (match esc s.data.toList i with | .error e=>.error e | .ok (b,j)=>str s.data.toList f j (acc++b))
  else if nx s.data.toList i=-1\/isBr (nx s.data.toList i)=true then .error (2,i)
  else if seqN s.data.toList i=0 then .error (2,i)
  else str s.data.toList f (i+seqN s.data.toList i) (acc++subT s.data.toList i (seqN s.data.toList i))):=str_step _
 have HLT:Hid (∀k,0<=nx s.data.toList k->k < s.size):=fun k hb=>by rw [<-hl];exact nx_lt hb
 have HEO:Hid (∀k n j,k < s.size->escN s.data.toList k=.ok (n,j)->n < 65536/\sur n=false/\k+2<=j/\j<=s.size):=fun k n j hk he=>by rw [<-hl];exact escN_ok _ k n j (by omega) he
 have HSO:Hid (∀k,k<=s.size->k+seqN s.data.toList k<=s.size):=fun k hk=>by rw [<-hl];exact seqN_ok _ k (by omega)
 obtain ⟨G,hG⟩:∃G,str s.data.toList (s.data.toList.length+1) (i+1) []=G:=⟨_,rfl⟩
 have HG0:Hid (str s.data.toList (s.data.toList.length+1) (i+1) []=G):=hG
 rw [hG]
 have H0:Hid (Rd w R s i T):=h
 have HRB:Hid (R < w.heap.size):=h.lt
 have HS:Hid (Rd (w.setCell ⟨R,1,none⟩ (.int .i64 ((i:Int)+1))) R s (i+1) T):=h.set (i+1)
 have HGS:Hid (w.grownBy (w.setCell ⟨R,1,none⟩ (.int .i64 ((i:Int)+1))) (some R)):=gb_set (gb_refl w (some R)) 1 _
 obtain ⟨-,c1,-,df⟩:=h.cells
 have df1:=df 1
 clear h hG he df hT
 go_enter Tryz.func99,Tryz.ntmps99
 go_wp2
 have HBD:Hid (Bd ((w.setCell ⟨R,1,none⟩ (.int .i64 ((i:Int)+1))).alloc (.cells #[.pointer none,.slice none 0 0] 76)) w.heap.size w.heap.size []):=by
  refine Or.inl ⟨Nat.le_refl _,.slice none 0 0,?_,World.ownsRowF_nil _ _ _ _,by simp [Value.ownBlock]⟩
  have:=heap_alloc_new (w.setCell ⟨R,1,none⟩ (.int .i64 ((i:Int)+1))) (.cells #[.pointer none,.slice none 0 0] 76)
  have e:(w.setCell ⟨R,1,none⟩ (.int .i64 ((i:Int)+1))).heap.size=w.heap.size:=by simp [World.setCell]
  rw [e] at this
  exact this
 have HGA:Hid ((w.setCell ⟨R,1,none⟩ (.int .i64 ((i:Int)+1))).grownBy ((w.setCell ⟨R,1,none⟩ (.int .i64 ((i:Int)+1))).alloc (.cells #[.pointer none,.slice none 0 0] 76)) none):=World.grownBy_alloc _ _ none
 have HR1:Hid (Rd ((w.setCell ⟨R,1,none⟩ (.int .i64 ((i:Int)+1))).alloc (.cells #[.pointer none,.slice none 0 0] 76)) R s (i+1) T):=HS.out.grow HGA.out
 have HG1:Hid (w.grownBy ((w.setCell ⟨R,1,none⟩ (.int .i64 ((i:Int)+1))).alloc (.cells #[.pointer none,.slice none 0 0] 76)) (some R)):=gb_more HGS.out HGA.out
 have HBW:Hid (∀w',w.grownBy w' (some R)->w.heap.size<=w'.heap.size):=fun w' hg=>hg.size
 have HGB:Hid (∀w1 w2,w.grownBy w1 (some R)->Below w.heap.size w1 w2->w.grownBy w2 (some R)):=fun w1 w2 h1 h2=>gb_bel h1 (Nat.le_refl _) h2
 obtain ⟨B,hB⟩:∃B,w.heap.size=B:=⟨_,rfl⟩
 rw [hB] at HBD HRB HBW HGB ⊢
 obtain ⟨wA,hwA⟩:∃wA,((w.setCell ⟨R,1,none⟩ (.int .i64 ((i:Int)+1))).alloc (.cells #[.pointer none,.slice none 0 0] 76))=wA:=⟨_,rfl⟩
 rw [hwA] at HBD HR1 HG1 ⊢
 clear hB hwA HGA HS HGS c1 df1 H0
 go_loopw [] (fun wr=>∃(k f:Nat) (acc:List UInt8),Rd wr R s k T/\k<=s.size/\s.size - k < f/\str s.data.toList f k acc=G/\acc.length<=3 * k/\Bd wr B B acc/\w.grownBy wr (some R)) (fun wr=>s.size - (match wr.cell? ⟨R,1,none⟩ with | some (.int _ k)=>k.toNat | _=>0))
 case atStart=>exact ⟨i+1,s.data.toList.length+1,[],HR1.out,by omega,by omega,HG0.out,by simp,HBD.out,HG1.out⟩
 case round =>
  obtain ⟨k,f,acc,hrd,hk,hf,hstr,hacc,hbd,hg⟩:=hrel
  obtain ⟨f,rfl⟩:∃f',f=f'+1:=⟨f - 1,by omega⟩
  have HRK:Hid (Rd wr R s k T):=hrd
  have HGK:Hid (w.grownBy wr (some R)):=hg
  have HBK:Hid (Bd wr B B acc):=hbd
  have HME:Hid ((match wr.cell? ⟨R,1,none⟩ with | some (.int _ k)=>k.toNat | _=>0)=k):=by show _=_;rw [hrd.cells.2.1];simp
  have C1:Hid (∀w',Rd w' R s k T->Calls Tryz.prog 40 #[.pointer (some ⟨R,0,none⟩)] w' fun e w''=>e=.returned (.int .i64 (nx s.data.toList k))/\w'.grownBy w'' none):=fun w' h1=>CN.out k w' h1 hk
  have HKL:Hid (0<=nx s.data.toList k->k < s.size):=HLT.out k
  have HXB:Hid (-1<=nx s.data.toList k):=(nx_bound s.data.toList k).1
  rw [HST.out] at hstr
  obtain ⟨x,hx⟩:∃x,nx s.data.toList k=x:=⟨_,rfl⟩
  rw [hx] at C1 HKL HXB hstr
  have HSX:Hid ((if x=34 then .ok (acc,k+1)
   else if x=92 then (match esc s.data.toList k with | .error e=>.error e | .ok (b,j)=>str s.data.toList f j (acc++b))
   else if x=-1\/isBr x=true then .error (2,k)
   else if seqN s.data.toList k=0 then .error (2,k)
   else str s.data.toList f (k+seqN s.data.toList k) (acc++subT s.data.toList k (seqN s.data.toList k)))=G):=hstr
  clear hrd hg hbd hx hstr
  by_cases h34:x=34
  ·have hb:(x != 34)=false:=by simp [h34]
   have HGG:Hid (G=.ok (acc,k+1)):=by
    have:=HSX.out
    rw [if_pos h34] at this
    exact this.symm
   have hkl:=HKL.out (by omega)
   clear h34
   go_wp2_with (first | (go_at_call 40;refine (C1.out _ HRK.out).mono ?_))
   rintro e w2 ⟨rfl,hg2⟩
   have HR2:Hid (Rd w2 R s k T):=HRK.out.grow hg2
   have HG2:Hid (w.grownBy w2 (some R)):=gb_more HGK.out hg2
   obtain ⟨-,d1,-,df⟩:=HR2.out.cells
   have df2:=df 1
   have HR3:Hid (Rd (w2.setCell ⟨R,1,none⟩ (.int .i64 ((k:Int)+1))) R s (k+1) T):=HR2.out.set (k+1)
   have HG3:Hid (w.grownBy (w2.setCell ⟨R,1,none⟩ (.int .i64 ((k:Int)+1))) (some R)):=gb_set HG2.out 1 _
   have CS:Hid (Calls Tryz.prog 35 #[.pointer (some ⟨B,0,none⟩)] (w2.setCell ⟨R,1,none⟩ (.int .i64 ((k:Int)+1))) fun e w'=>e=.returned (.string ⟨acc.toArray⟩)/\Below B (w2.setCell ⟨R,1,none⟩ (.int .i64 ((k:Int)+1))) w'):=tBdString_any B B acc _ ((HBK.out.grow (R:=R) (gb_set (gb_more (gb_refl wr (some R)) hg2) 1 _) HRB.out)) (HBW.out _ HG3.out)
   clear hg2 df
   go_wp2_with (first | (go_at_call 35;refine CS.out.mono ?_;rintro e w4 ⟨rfl,hb4⟩))
   refine bodyPost_ret (results_tmp2 (t:=2) (u:=3) rfl _ _ _) rfl ?_
   rw [HGG.out]
   exact ⟨fun t j hh=>(by cases hh;exact ⟨rfl,HR3.out.bel HRB.out hb4⟩),fun c p hh=>(by cases hh),HGB.out _ _ HG3.out hb4⟩
  ·have hb:(x != 34)=true:=by simp [h34]
   by_cases h92:x=92
   ·have hb2:(x == 92)=true:=by simp [h92]
    have hkl:=HKL.out (by omega)
    have HSE:Hid ((match wrtR (escN s.data.toList k) with | .error e=>.error e | .ok (b,j)=>str s.data.toList f j (acc++b))=G):=by
     have:=HSX.out
     rw [if_neg h34,if_pos h92,esc_escN] at this
     exact this
    have CE1:Hid (∀w',w.grownBy w' (some R)->Rd w' R s k T->Calls Tryz.prog 117 #[.pointer (some ⟨R,0,none⟩)] w' (RuPost R s T E (escN s.data.toList k) w')):=fun w' h1 h2=>CE.out k w' h1 h2 hkl
    have HE1:Hid (∀n j,escN s.data.toList k=.ok (n,j)->n < 65536/\sur n=false/\k+2<=j/\j<=s.size):=fun n j h=>HEO.out k n j hkl h
    obtain ⟨q,hq⟩:∃q,escN s.data.toList k=q:=⟨_,rfl⟩
    rw [hq] at HSE CE1 HE1
    clear h34 h92 hq
    go_wp2_with (first | (go_at_call 40;refine (C1.out _ HRK.out).mono ?_))
    rintro e w2 ⟨rfl,hg2⟩
    have HR2:Hid (Rd w2 R s k T):=HRK.out.grow hg2
    have HG2:Hid (w.grownBy w2 (some R)):=gb_more HGK.out hg2
    have HB2:Hid (Bd w2 B B acc):=HBK.out.grow (R:=R) (gb_more (gb_refl wr (some R)) hg2) HRB.out
    clear hg2
    go_wp2_with (first | (go_at_call 40;refine (C1.out _ HR2.out).mono ?_))
    rintro e w3 ⟨rfl,hg3⟩
    have HR3:Hid (Rd w3 R s k T):=HR2.out.grow hg3
    have HG3:Hid (w.grownBy w3 (some R)):=gb_more HG2.out hg3
    have HB3:Hid (Bd w3 B B acc):=HB2.out.grow (R:=R) (gb_more (gb_refl w2 (some R)) hg3) HRB.out
    clear hg3
    cases q with
    | error q =>
     obtain ⟨c,q⟩:=q
     have HGG:Hid (G=.error (c,q)):=HSE.out.symm
     go_wp2_with (first | (go_at_call 117;refine (CE1.out _ HG3.out HR3.out).mono ?_))
     rintro e w4 ⟨h1,h2,hg4⟩
     obtain ⟨v,rfl,⟨F,rfl,hF⟩,jj,hjj⟩:=h2 c q rfl
     have HJJ:Hid (Rd w4 R s jj T):=hjj
     clear hjj
     have HFV:Hid (FaultE w4 (.iface 65 (.pointer (some ⟨F,0,none⟩))) E c q):=⟨F,rfl,hF⟩
     have HG4:Hid (w.grownBy w4 (some R)):=gb_two HG3.out hg4
     clear h1 h2 hF hg4
     go_wp2
     refine bodyPost_ret (results_tmp2 (t:=2) (u:=3) rfl _ _ _) rfl ?_
     rw [HGG.out]
     exact ⟨fun t j hh=>(by cases hh),fun c p hh=>(by cases hh;exact ⟨_,rfl,HFV.out,jj,HJJ.out⟩),HG4.out⟩
    | ok q =>
     obtain ⟨n,j⟩:=q
     obtain ⟨hn1,hn2,hn3,hn4⟩:=HE1.out n j rfl
     have HGG:Hid (str s.data.toList f j (acc++wrt n)=G):=HSE.out
     have hwl:=wrt_len n
     go_wp2_with (first | (go_at_call 117;refine (CE1.out _ HG3.out HR3.out).mono ?_))
     rintro e w4 ⟨h1,h2,hg4⟩
     obtain ⟨rfl,hr4⟩:=h1 n j rfl
     have HR4:Hid (Rd w4 R s j T):=hr4
     have HG4:Hid (w.grownBy w4 (some R)):=gb_two HG3.out hg4
     have CWR:Hid (Calls Tryz.prog 118 #[.pointer (some ⟨B,0,none⟩),.int .i32 (n:Nat)] w4 fun e w'=>(∃k:Int,e=.returned (.tuple #[.int .i64 k,.nilIface]))/\Bd w' B B (acc++wrt n)/\Below B w4 w'):=tWriteRune_any B B n acc w4 (HB3.out.grow hg4 HRB.out) hn1 hn2 (by omega) (HBW.out _ HG4.out)
     clear h1 h2 hr4 hg4 hn1 hn2
     go_wp2_with (first | (go_at_call 118;refine CWR.out.mono ?_))
     rintro e w5 ⟨⟨kk,rfl⟩,hb5,hbel⟩
     have HR5:Hid (Rd w5 R s j T):=HR4.out.bel HRB.out hbel
     have HG5:Hid (w.grownBy w5 (some R)):=HGB.out _ _ HG4.out hbel
     have HB5:Hid (Bd w5 B B (acc++wrt n)):=hb5
     clear hb5 hbel
     go_wp2
     refine ⟨⟨j,f,acc++wrt n,HR5.out,hn4,by omega,HGG.out,by rw [List.length_append];omega,HB5.out,HG5.out⟩,?_⟩
     rw [HME.out,HR5.out.cells.2.1]
     simp
     omega
   ·have hb2:(x == 92)=false:=by simp [h92]
    go_wp2_with (first | (go_at_call 40;refine (C1.out _ HRK.out).mono ?_))
    rintro e w2 ⟨rfl,hg2⟩
    have HR2:Hid (Rd w2 R s k T):=HRK.out.grow hg2
    have HG2:Hid (w.grownBy w2 (some R)):=gb_more HGK.out hg2
    have HB2:Hid (Bd w2 B B acc):=HBK.out.grow (R:=R) (gb_more (gb_refl wr (some R)) hg2) HRB.out
    clear hg2
    go_wp2_with (first | (go_at_call 40;refine (C1.out _ HR2.out).mono ?_))
    rintro e w3 ⟨rfl,hg3⟩
    have HR3:Hid (Rd w3 R s k T):=HR2.out.grow hg3
    have HG3:Hid (w.grownBy w3 (some R)):=gb_more HG2.out hg3
    have HB3:Hid (Bd w3 B B acc):=HB2.out.grow (R:=R) (gb_more (gb_refl w2 (some R)) hg3) HRB.out
    clear hg3
    have HSY:Hid ((if x=-1\/isBr x=true then .error (2,k)
     else if seqN s.data.toList k=0 then .error (2,k)
     else str s.data.toList f (k+seqN s.data.toList k) (acc++subT s.data.toList k (seqN s.data.toList k)))=G):=by
     have:=HSX.out
     rw [if_neg h34,if_neg h92] at this
     exact this
    clear h34 h92
    by_cases he1:x=-1
    ·have hb3:(x == -1)=true:=by simp [he1]
     have HGG:Hid (G=.error (2,k)):=by
      have:=HSY.out
      rw [if_pos (Or.inl he1)] at this
      exact this.symm
     clear he1
     go_wp2_with (first | (go_at_call 40;refine (C1.out _ HR3.out).mono ?_;rintro e w4 ⟨rfl,hg4⟩) | (go_at_call 79;refine (CH.out k _ (gb_more HG3.out hg4) (HR3.out.grow hg4)).mono ?_;rintro e w5 ⟨⟨v,rfl,hv⟩,hg5⟩))
     refine bodyPost_ret (results_tmp2 (t:=2) (u:=3) rfl _ _ _) rfl ?_
     rw [HGG.out]
     exact ⟨fun t j hh=>(by cases hh),fun c p hh=>(by cases hh;exact ⟨v,rfl,hv,_,(HR3.out.grow hg4).grow hg5⟩),gb_more (gb_more HG3.out hg4) hg5⟩
    ·have hb3:(x == -1)=false:=by simp [he1]
     have CB1:Hid (∀w,Calls Tryz.prog 78 #[.int .i64 x] w fun e w'=>e=.returned (.bool (isBr x))/\w'=w):=fun w=>CB.out x w
     obtain ⟨br,hbr⟩:∃br,isBr x=br:=⟨_,rfl⟩
     rw [hbr] at CB1 HSY
     have HNE:Hid (¬ x=-1):=he1
     clear hbr he1
     go_wp2_with (first | (go_at_call 40;refine (C1.out _ HR3.out).mono ?_))
     rintro e w4 ⟨rfl,hg4⟩
     have HR4:Hid (Rd w4 R s k T):=HR3.out.grow hg4
     have HG4:Hid (w.grownBy w4 (some R)):=gb_more HG3.out hg4
     have HB4:Hid (Bd w4 B B acc):=HB3.out.grow (R:=R) (gb_more (gb_refl w3 (some R)) hg4) HRB.out
     clear hg4
     go_wp2_with (first | (go_at_call 40;refine (C1.out _ HR4.out).mono ?_))
     rintro e w5 ⟨rfl,hg5⟩
     have HR5:Hid (Rd w5 R s k T):=HR4.out.grow hg5
     have HG5:Hid (w.grownBy w5 (some R)):=gb_more HG4.out hg5
     have HB5:Hid (Bd w5 B B acc):=HB4.out.grow (R:=R) (gb_more (gb_refl w4 (some R)) hg5) HRB.out
     clear hg5
     cases br with
     | true =>
      have HGG:Hid (G=.error (2,k)):=by
       have:=HSY.out
       rw [if_pos (Or.inr rfl)] at this
       exact this.symm
      go_wp2_with (first | (go_at_call 78;refine (CB1.out _).mono ?_;rintro e w' ⟨rfl,rfl⟩) | (go_at_call 79;refine (CH.out k _ HG5.out HR5.out).mono ?_;rintro e w6 ⟨⟨v,rfl,hv⟩,hg6⟩))
      refine bodyPost_ret (results_tmp2 (t:=2) (u:=3) rfl _ _ _) rfl ?_
      rw [HGG.out]
      exact ⟨fun t j hh=>(by cases hh),fun c p hh=>(by cases hh;exact ⟨v,rfl,hv,_,HR5.out.grow hg6⟩),gb_more HG5.out hg6⟩
     | false =>
      have hkl:k < s.size:=HKL.out (by have:=HXB.out;have:=HNE.out;omega)
      have HSZ:Hid ((if seqN s.data.toList k=0 then .error (2,k) else str s.data.toList f (k+seqN s.data.toList k) (acc++subT s.data.toList k (seqN s.data.toList k)))=G):=by
       have:=HSY.out
       rw [if_neg (by rintro (h | h);exact HNE.out h;cases h)] at this
       exact this
      have hSO:=HSO.out k hk
      have CDS:Hid (∀w',w.grownBy w' (some R)->Calls Tryz.prog 119 #[.string ⟨(s.data.toList.drop k).toArray⟩] w' fun e w''=>∃(ri:Int) (n:Nat),e=.returned (.tuple #[.int .i32 ri,.int .i64 (n:Nat)])/\(seqN s.data.toList k=0->ri=65533/\n=1)/\(0 < seqN s.data.toList k->n=seqN s.data.toList k/\(ri=65533->¬ n=1))/\w'.grownBy w'' none):=fun w' hg=>by
       refine (CD.out k w' hg hkl).mono ?_
       rintro e w'' ⟨r,n,rfl,⟨t1,t2⟩,hb⟩
       refine ⟨(r:Nat),n,rfl,fun h0=>?_,fun h0=>?_,⟨hb.os,hb.tape,hb.output,hb.size,fun k hk _=>hb.block k hk⟩⟩
       ·have:=t1 h0
        simp only [Prod.mk.injEq] at this
        omega
       ·obtain ⟨a1,a2⟩:=t2 h0
        refine ⟨a1,fun hr hn=>a2 ⟨?_,hn⟩⟩
        show r=65533
        omega
      have HSL:Hid ((subT s.data.toList k (seqN s.data.toList k)).length<=seqN s.data.toList k):=by
       show _<=_
       unfold subT;rw [List.length_take];omega
      have s1:∀wx,(Instr.slice 9 (.string s) (some (.int .i64 (k:Int))) none none).run Tryz.prog wx=.ok (.string ⟨(s.data.toList.drop k).toArray⟩) wx:=fun wx=>run_sufT s k hk wx
      have s2:∀wx,(Instr.slice 9 (.string s) (some (.int .i64 (k:Int))) (some (.int .i64 ((k:Int)+((seqN s.data.toList k:Nat):Int)))) none).run Tryz.prog wx=.ok (.string ⟨(subT s.data.toList k (seqN s.data.toList k)).toArray⟩) wx:=fun wx=>by
       have:=run_sub s k (k+seqN s.data.toList k) (by omega) hSO wx
       rw [show k+seqN s.data.toList k - k=seqN s.data.toList k by omega] at this
       simpa using this
      obtain ⟨X,hX⟩:∃X:ByteArray,⟨(s.data.toList.drop k).toArray⟩=X:=⟨_,rfl⟩
      rw [hX] at s1 CDS
      obtain ⟨S,hS⟩:∃S,seqN s.data.toList k=S:=⟨_,rfl⟩
      rw [hS] at HSZ hSO CDS s2 HSL
      obtain ⟨Y,hY⟩:∃Y,subT s.data.toList k S=Y:=⟨_,rfl⟩
      rw [hY] at HSZ s2 HSL
      have hYl:=HSL.out
      have CWY:Hid (∀w',Bd w' B B acc->B<=w'.heap.size->Calls Tryz.prog 60 #[.pointer (some ⟨B,0,none⟩),.string ⟨Y.toArray⟩] w' fun e w''=>(∃k:Int,e=.returned (.tuple #[.int .i64 k,.nilIface]))/\Bd w'' B B (acc++Y)/\Below B w' w''):=fun w' h1 h2=>tWriteS_any B B acc Y w' h1 (by omega) (by omega) h2
      obtain ⟨Z,hZ⟩:∃Z:ByteArray,⟨Y.toArray⟩=Z:=⟨_,rfl⟩
      rw [hZ] at CWY s2
      clear hX hS hY hZ
      go_wp2_with (first | (go_at_call 78;refine (CB1.out _).mono ?_;rintro e w' ⟨rfl,rfl⟩))
      obtain ⟨d0,d1,-,-⟩:=HR5.out.cells
      have CD1:=CDS.out w'.drew (gb_drew HG5.out 1)
      have CD2:Hid (Calls Tryz.prog 119 #[.string X] w'.drew fun e w''=>∃(ri:Int) (n:Nat),e=.returned (.tuple #[.int .i32 ri,.int .i64 (n:Nat)])/\(S=0->ri=65533/\n=1)/\(0 < S->n=S/\(ri=65533->¬ n=1))/\w'.drew.grownBy w'' none):=CD1
      clear CD1
      go_region_held3 (fun u=>u.cell? ⟨R,0,none⟩=some (.string s)/\u.cell? ⟨R,1,none⟩=some (.int .i64 (k:Int))) ((first | exact ⟨World.grownBy.cell (by assumption) (And.left (by assumption)) (by simp),World.grownBy.cell (by assumption) (And.right (by assumption)) (by simp)⟩ | go_keep)) (first | (go_at_call 119;refine CD2.out.mono ?_;rintro e w6 ⟨ri,n,rfl,t1,t2,hg6⟩))
      have hg66:w'.grownBy w6 none:=gb_trans (show w'.grownBy w'.drew none from ⟨rfl,rfl,rfl,Nat.le_refl _,fun _ _ _=>rfl⟩) hg6
      have HR6:Hid (Rd w6 R s k T):=HR5.out.grow hg66
      have HG6:Hid (w.grownBy w6 (some R)):=gb_more HG5.out hg66
      have HB6:Hid (Bd w6 B B acc):=HB5.out.grow (R:=R) (gb_more (gb_refl w' (some R)) hg66) HRB.out
      by_cases hS0:S=0
      ·obtain ⟨rfl,rfl⟩:=t1 hS0
       have HGG:Hid (G=.error (2,k)):=by
        have:=HSZ.out
        rw [if_pos hS0] at this
        exact this.symm
       clear t1 t2 hg6 hg66 hS0
       go_wp2_with (first | (go_at_call 79;refine (CH.out k _ HG6.out HR6.out).mono ?_;rintro e w7 ⟨⟨v,rfl,hv⟩,hg7⟩))
       refine bodyPost_ret (results_tmp2 (t:=2) (u:=3) rfl _ _ _) rfl ?_
       rw [HGG.out]
       exact ⟨fun t j hh=>(by cases hh),fun c p hh=>(by cases hh;exact ⟨v,rfl,hv,_,HR6.out.grow hg7⟩),gb_more HG6.out hg7⟩
      ·obtain ⟨hnS,hne⟩:=t2 (by omega)
       subst hnS
       have HGG:Hid (str s.data.toList f (k+n) (acc++Y)=G):=by
        have:=HSZ.out
        rw [if_neg hS0] at this
        exact this
       have hcase:((ri == 65533)=true/\((n:Int) == 1)=false)\/(ri == 65533)=false:=by
        by_cases hr:ri=65533
        ·refine Or.inl ⟨by simp [hr],?_⟩
         have:=hne hr
         rw [beq_eq_false_iff_ne]
         omega
        ·exact Or.inr (by simp [hr])
       have CWS:Hid (Calls Tryz.prog 60 #[.pointer (some ⟨B,0,none⟩),.string Z] w6.drew fun e w''=>(∃k:Int,e=.returned (.tuple #[.int .i64 k,.nilIface]))/\Hid (Rd w'' R s k T/\w.grownBy w'' (some R)/\Bd w'' B B (acc++Y))/\(w''.cell? ⟨R,0,none⟩=some (.string s)/\w''.cell? ⟨R,1,none⟩=some (.int .i64 (k:Int)))):=by
        refine (CWY.out w6.drew (HB6.out.grow (R:=R) (show w6.grownBy w6.drew (some R) from ⟨rfl,rfl,rfl,Nat.le_refl _,fun _ _ _=>rfl⟩) HRB.out) (HBW.out w6.drew (gb_drew HG6.out 1))).mono ?_
        rintro e w'' ⟨h1,h2,h3⟩
        have hr:Rd w'' R s k T:=Rd.bel (w:=w6.drew) HR6.out HRB.out h3
        exact ⟨h1,⟨hr,HGB.out _ _ (gb_drew HG6.out 1) h3,h2⟩,hr.cells.1,hr.cells.2.1⟩
       obtain ⟨d0,d1,-,-⟩:=HR6.out.cells
       have hn0:0 < n:=by omega
       clear t1 t2 hg6 hg66 hS0 hne
       have hwr:IntKind.i64.wrap ((k:Int)+(n:Int))=(k:Int)+(n:Int):=by
        simp [IntKind.wrap,IntKind.bits,IntKind.signed]
        omega
       rcases hcase with ⟨hq1,hq2⟩ | hq1
       all_goals (
        go_wp2
        go_region_held3 (fun u=>u.cell? ⟨R,0,none⟩=some (.string s)/\u.cell? ⟨R,1,none⟩=some (.int .i64 (k:Int))) ((first | assumption | go_keep)) (first | (go_at_call 60;refine CWS.out.mono ?_;rintro e w7 ⟨⟨kk,rfl⟩,hall,hcl⟩))
        have HR7:Hid (Rd w7 R s k T):=hall.out.1
        have HG7:Hid (w.grownBy w7 (some R)):=hall.out.2.1
        have HB7:Hid (Bd w7 B B (acc++Y)):=hall.out.2.2
        obtain ⟨-,e1,-,ef⟩:=HR7.out.cells
        have ef1:=ef 1
        have HR8:Hid (Rd (w7.setCell ⟨R,1,none⟩ (.int .i64 ((k:Int)+(n:Int)))) R s (k+n) T):=by
         have:=HR7.out.set (k+n)
         rw [Int.natCast_add] at this
         exact this
        have HG8:Hid (w.grownBy (w7.setCell ⟨R,1,none⟩ (.int .i64 ((k:Int)+(n:Int)))) (some R)):=gb_set HG7.out 1 _
        have HB8:Hid (Bd (w7.setCell ⟨R,1,none⟩ (.int .i64 ((k:Int)+(n:Int)))) B B (acc++Y)):=HB7.out.grow (R:=R) (gb_set (gb_refl w7 (some R)) 1 _) HRB.out
        clear hall hcl ef
        go_wp2
        clear hwr
        refine ⟨⟨k+n,f,acc++Y,HR8.out,hSO,by omega,HGG.out,by rw [List.length_append];omega,HB8.out,HG8.out⟩,?_⟩
        rw [HME.out,HR8.out.cells.2.1]
        show s.size - ((k+n:Nat):Int).toNat < s.size - k
        rw [Int.toNat_natCast]
        omega)
end Go.Proofs.YtbgnflcebafjjaaGreatDoor
