import Derived.Test.YtbgnflcebafjjaaGreatDoorA25
import Derived.Test.YtbgnflcebafjjaaGreatDoorA15
import Derived.Test.YtbgnflcebafjjaaGreatDoorA10
namespace Go.Proofs.YtbgnflcebafjjaaGreatDoor
open Go.RowKit Go.Maps Go.WideMaps Go.Joins
set_option linter.unusedVariables false
def KqPost (B P R:Nat) (s:ByteArray) (now de i:Nat) (ns:List Tn) (own:List Nat) (g:Rs (List UInt8 × Nat)) (w:World) (e:Ending) (w':World):Prop:=(∀t j,g=.ok (t,j)->e=.returned (.tuple #[.string ⟨t.toArray⟩,.int .i64 (i:Nat)])/\Dt w' B P R s now de (.ok j) ns own)/\(∀c,g=.error c->∃t:List UInt8,e=.returned (.tuple #[.string ⟨t.toArray⟩,.int .i64 (i:Nat)])/\Dt w' B P R s now de (.error c) ns own)/\DFr B P w w'
theorem qKey (B P R:Nat) (s:ByteArray) (now de i:Nat) (ns:List Tn) (own:List Nat) (w:World) (h:Dt w B P R s now de (.ok i) ns own) (hs:s.size<=100000) :
  Calls Tryz.prog 52 #[.pointer (some ⟨R,0,none⟩)] w (KqPost B P R s now de i ns own (rdKey s.data.toList i) w):=by
 obtain ⟨h1,h2,N,c,O,oc,xs,ks,h3,h4,h5,h6⟩:=h
 refine (dKey_any R s _ _ now de i w h6.2 h6.1 (by omega)).mono ?_
 rintro e w' ⟨a1,a2,a3⟩
 refine ⟨fun t j hg=>?_,fun c hg=>?_,dfr_R h6 h1 h2 h5.hP a3⟩
 ·obtain ⟨b1,b2⟩:=a1 t j hg
  exact ⟨b1,h1,h2,N,_,O,oc,xs,ks,h3,h4,h5.keepR h6.2 a3,b2⟩
 ·obtain ⟨⟨t,-,b1⟩,b2⟩:=a2 c.1 c.2 hg
  exact ⟨t,b1,h1,h2,N,_,O,oc,xs,ks,h3,h4,h5.keepR h6.2 a3,b2⟩
def PrPost (B P R:Nat) (s:ByteArray) (now:Nat) (own:List Nat) (g:Rs Sd) (w:World) (e:Ending) (w':World):Prop:=e=.returned (.tuple #[])/\(∀d,g=.ok d->Dt w' B P R s d.now 0 (.ok d.i) d.ns d.own)/\(∀c,g=.error c->∃now',Fq w' B P R s now' 0 c)/\DFr B P w w'
def pFin (own:List Nat) (now:Nat):Rs (Nat × List Tn)->Rs Sd
 | .error e=>.error e
 | .ok (j,ns)=>.ok ⟨j,ns,own,now⟩
theorem pr_key (l:List UInt8) (d:Sd) (c:Int × Nat) (h:rdKey l d.i=.error c):rdPair l d=.error c:=by unfold rdPair;rw [h]
theorem pr_must (l:List UInt8) (d:Sd) (k:List UInt8) (j:Nat) (c:Int × Nat) (h:rdKey l d.i=.ok (k,j)) (h2:must l (bl l j) 61=.error c):rdPair l d=.error c:=by unfold rdPair;rw [h];simp only [h2]
theorem pr_twice (l:List UInt8) (d:Sd) (k:List UInt8) (j j1 q:Nat) (h:rdKey l d.i=.ok (k,j)) (h2:must l (bl l j) 61=.ok j1) (h3:kidO d.ns d.now k=some q):rdPair l d=.error (5,d.i):=by unfold rdPair;rw [h];simp only [h2,h3]
theorem pr_val (l:List UInt8) (d:Sd) (k:List UInt8) (j j1:Nat) (h:rdKey l d.i=.ok (k,j)) (h2:must l (bl l j) 61=.ok j1) (h3:kidO d.ns d.now k=none):rdPair l d=pFin d.own d.now (val l (2 * l.length+2) (bl l j1) d.now k d.i 0 d.ns):=by
 unfold rdPair
 rw [h]
 simp only [h2,h3]
 cases val l (2 * l.length+2) (bl l j1) d.now k d.i 0 d.ns <;> rfl
theorem Fq.now {w:World} {B P R:Nat} {s:ByteArray} {now de:Nat} {e:Int × Nat} (h:Fq w B P R s now de e):w.cell? ⟨R,4,none⟩=some (.int .i64 (now:Nat))/\w.cell? ⟨R,5,none⟩=some (.int .i64 e.1)/\(e.1 == 0)=false:=by
 obtain ⟨L,O,⟨h1,j,h2,h3⟩,-⟩:=h
 exact ⟨h3.cells.2.2.2.2.1,h3.cells.2.2.2.2.2.1,by simpa using h1⟩
theorem Fq.drew {w:World} {B P R:Nat} {s:ByteArray} {now de:Nat} {c:Int × Nat} (h:Fq w B P R s now de c) (n:Nat):Fq (w.drewN n) B P R s now de c/\DFr B P w (w.drewN n):=by
 obtain ⟨L,O,h1,h4,h5,h6⟩:=h
 obtain ⟨i,er,p,hd⟩:=h1.dd
 have g:w.grownBy (w.drewN n) none:=gb_drew (gb_refl w none) n
 exact ⟨⟨L,O,h1.grow g,h4,h5,h6⟩,DFr.gb g (Nat.le_of_lt (Nat.lt_of_le_of_lt h4 (blk_lt hd))) h6⟩
set_option maxRecDepth 100000 in
set_option maxHeartbeats 3200000 in
theorem dPair_any (B P R:Nat) (s:ByteArray) (now i:Nat) (ns:List Tn) (own:List Nat) (w:World) (h:Dt w B P R s now 0 (.ok i) ns own) (W:WF ns own) (V:WT ns) (hnow:now < ns.length) (hk2:¬ kdAt ns now=2) (hsz:ns.length+(s.size - i)<=700000) (hs:s.size<=100000) :
  Calls Tryz.prog 29 #[.pointer (some ⟨R,0,none⟩)] w (PrPost B P R s now own (rdPair s.data.toList ⟨i,ns,own,now⟩) w):=by
 have hl:s.data.toList.length=s.size:=by simp
 have CK:Hid (Calls Tryz.prog 52 #[.pointer (some ⟨R,0,none⟩)] w (KqPost B P R s now 0 i ns own (rdKey s.data.toList i) w)):=qKey B P R s now 0 i ns own w h hs
 have CB:Hid (∀(q:Rs Nat) w,Dq w B P R s now 0 q ns own->Calls Tryz.prog 26 #[.pointer (some ⟨R,0,none⟩)] w fun e w'=>e=.returned (.tuple #[])/\Dq w' B P R s now 0 (q.bind fun i=>.ok (bl s.data.toList i)) ns own/\DFr B P w w'):=fun q w h=>qBlanks B P R s now 0 ns own q w h hs
 have CM:Hid (∀(q:Rs Nat) w,Dq w B P R s now 0 q ns own->Calls Tryz.prog 31 #[.pointer (some ⟨R,0,none⟩),.int .u8 61] w fun e w'=>e=.returned (.tuple #[])/\Dq w' B P R s now 0 (q.bind fun i=>must s.data.toList i 61) ns own/\DFr B P w w'):=fun q w h=>qMust B P R s now 0 ns own q w h hs 61 (by decide)
 have CVL:Hid (∀(c:Int × Nat) (k:List UInt8) w,Fq w B P R s now 0 c->Calls Tryz.prog 57 #[.pointer (some ⟨R,0,none⟩),.int .i64 (now:Nat),.string ⟨k.toArray⟩,.int .i64 (i:Nat)] w fun e w'=>e=.returned (.tuple #[])/\Fq w' B P R s now 0 c/\DFr B P w w'):=fun c k w h=>dVal_late B P R s now 0 c now k i w h hs
 have HKO:Hid (∀k j,rdKey s.data.toList i=.ok (k,j)->i<=j/\j<=s.size):=fun k j hh=>by
  have hi:=h.cells.2.2.2.2.2.1
  have:=rdKey_ok s.data.toList i k j (by omega) hh
  omega
 obtain ⟨G,hG⟩:∃G,rdPair s.data.toList ⟨i,ns,own,now⟩=G:=⟨_,rfl⟩
 have HPK:Hid (∀c,rdKey s.data.toList i=.error c->G=.error c):=fun c hh=>by show G=_;rw [<-hG];exact pr_key _ _ c hh
 have HPM:Hid (∀k j c,rdKey s.data.toList i=.ok (k,j)->must s.data.toList (bl s.data.toList j) 61=.error c->G=.error c):=fun k j c h1 h2=>by show G=_;rw [<-hG];exact pr_must _ _ k j c h1 h2
 have HPT:Hid (∀k j j1 q,rdKey s.data.toList i=.ok (k,j)->must s.data.toList (bl s.data.toList j) 61=.ok j1->kidO ns now k=some q->G=.error (5,i)):=fun k j j1 q h1 h2 h3=>by show G=_;rw [<-hG];exact pr_twice _ _ k j j1 q h1 h2 h3
 have HPV:Hid (∀k j j1,rdKey s.data.toList i=.ok (k,j)->must s.data.toList (bl s.data.toList j) 61=.ok j1->kidO ns now k=none->G=pFin own now (val s.data.toList (2 * s.data.toList.length+2) (bl s.data.toList j1) now k i 0 ns)):=fun k j j1 h1 h2 h3=>by show G=_;rw [<-hG];exact pr_val _ _ k j j1 h1 h2 h3
 rw [hG]
 obtain ⟨K,hK⟩:∃K,rdKey s.data.toList i=K:=⟨_,rfl⟩
 rw [hK] at CK HPK HPM HPT HPV HKO
 have HWV:Hid (WF ns own/\WT ns/\now < ns.length/\¬ kdAt ns now=2):=⟨W,V,hnow,hk2⟩
 -- the tail behind a fault
 clear h hG hK W V hnow hk2
 go_enter Tryz.func29,Tryz.ntmps29
 go_wp2_with (first | (go_at_call 52;refine CK.out.mono ?_))
 rintro e w1 ⟨h1,h2,hf1⟩
 have HF1:Hid (DFr B P w w1):=hf1
 clear hf1
 match K,h1,h2,HPK,HPM,HPT,HPV,HKO with
 | .error c,_,h2,HPK,_,_,_,_ =>
  obtain ⟨t,rfl,hd1⟩:=h2 c rfl
  have HGG:Hid (G=.error c):=HPK.out c rfl
  have HD1:Hid (Dq w1 B P R s now 0 (.error c) ns own):=hd1.fq
  clear h1 h2 hd1
  go_wp2_with (first | (go_at_call 26;refine (CB.out (.error c) _ HD1.out).mono ?_;rintro e w2 ⟨rfl,hd2,hf2⟩) | (go_at_call 31;refine (CM.out (.error c) _ hd2).mono ?_))
  rintro e w3 ⟨rfl,hd3,hf3⟩
  have HD3:Hid (Fq w3 B P R s now 0 c):=hd3
  have HF3:Hid (DFr B P w w3):=(HF1.out.two hf2).two hf3
  clear hd2 hf2 hd3 hf3
  obtain ⟨a4,a5,a6⟩:=HD3.out.now
  go_wp2
  go_quiet (fail)
  have HDA:=HD3.out.drew nq
  have HDA1:Hid (Dq (w3.drewN nq) B P R s now 0 (.error c) ns own):=HDA.1
  have HFA:Hid (DFr B P w (w3.drewN nq)):=HF3.out.two HDA.2
  obtain ⟨wA,hwA⟩:∃W,w3.drewN nq=W:=⟨_,rfl⟩
  rw [hwA] at HDA1 HFA ⊢
  clear hwA HDA a4 a5 a6
  go_wp2_with (first | (go_at_call 26;refine (CB.out (.error c) _ HDA1.out).mono ?_))
  rintro e w4 ⟨rfl,hd4,hf4⟩
  have HD4:Hid (Fq w4 B P R s now 0 c):=hd4
  have HF4:Hid (DFr B P w w4):=HFA.out.two hf4
  obtain ⟨b4,-,-⟩:=HD4.out.now
  clear hd4 hf4
  go_wp2_with (first | (go_at_call 57;refine (CVL.out c t _ HD4.out).mono ?_;rintro e w5 ⟨rfl,hd5,hf5⟩))
  refine bodyPost_end (results_none rfl _ _ _) rfl ?_
  rw [HGG.out]
  exact ⟨rfl,fun d hh=>(by cases hh),fun c' hh=>(by injection hh with hh;subst hh;exact ⟨now,hd5⟩),HF4.out.two hf5⟩
 | .ok (k,j),h1,_,_,HPM,HPT,HPV,HKO =>
  obtain ⟨rfl,hd1⟩:=h1 k j rfl
  have HD1:Hid (Dq w1 B P R s now 0 (.ok j) ns own):=hd1
  obtain ⟨hij,hjs⟩:=HKO.out k j rfl
  have hbj:=bl_le s.data.toList j (by omega)
  clear h1 hd1
  go_wp2_with (first | (go_at_call 26;refine (CB.out (.ok j) _ HD1.out).mono ?_;rintro e w2 ⟨rfl,hd2,hf2⟩) | (go_at_call 31;refine (CM.out (.ok (bl s.data.toList j)) _ hd2).mono ?_))
  rintro e w3 ⟨rfl,hd3,hf3⟩
  have HF3:Hid (DFr B P w w3):=(HF1.out.two hf2).two hf3
  have HD3':Hid (Dq w3 B P R s now 0 (must s.data.toList (bl s.data.toList j) 61) ns own):=hd3
  have HMO:Hid (∀j1,must s.data.toList (bl s.data.toList j) 61=.ok j1->j<=j1/\j1<=s.size):=fun j1 hh=>by
   unfold must at hh
   split at hh
   ·rename_i hx
    have:=nx_lt (l:=s.data.toList) (i:=bl s.data.toList j) (by omega)
    injection hh with hh
    omega
   ·cases hh
  obtain ⟨q3,hq3⟩:∃q3,must s.data.toList (bl s.data.toList j) 61=q3:=⟨_,rfl⟩
  have HPM1:Hid (∀c,q3=.error c->G=.error c):=fun c hh=>HPM.out k j c rfl (hq3.trans hh)
  have HPT1:Hid (∀j1 q,q3=.ok j1->kidO ns now k=some q->G=.error (5,i)):=fun j1 q hh h3=>HPT.out k j j1 q rfl (hq3.trans hh) h3
  have HPV1:Hid (∀j1,q3=.ok j1->kidO ns now k=none->G=pFin own now (val s.data.toList (2 * s.data.toList.length+2) (bl s.data.toList j1) now k i 0 ns)):=fun j1 hh h3=>HPV.out k j j1 rfl (hq3.trans hh) h3
  rw [hq3] at HD3' HMO
  clear hd2 hf2 hd3 hf3 hq3 hbj HPM HPT HPV
  match q3,HD3',HMO,HPM1,HPT1,HPV1 with
  | .error c,HD3',_,HPM1,_,_ =>
   have HGG:Hid (G=.error c):=HPM1.out c rfl
   have HD3:Hid (Fq w3 B P R s now 0 c):=HD3'.out
   obtain ⟨a4,a5,a6⟩:=HD3.out.now
   go_wp2
   go_quiet (fail)
   have HDA:=HD3.out.drew nq
   have HDA1:Hid (Dq (w3.drewN nq) B P R s now 0 (.error c) ns own):=HDA.1
   have HFA:Hid (DFr B P w (w3.drewN nq)):=HF3.out.two HDA.2
   obtain ⟨wA,hwA⟩:∃W,w3.drewN nq=W:=⟨_,rfl⟩
   rw [hwA] at HDA1 HFA ⊢
   clear hwA HDA a4 a5 a6
   go_wp2_with (first | (go_at_call 26;refine (CB.out (.error c) _ HDA1.out).mono ?_))
   rintro e w4 ⟨rfl,hd4,hf4⟩
   have HD4:Hid (Fq w4 B P R s now 0 c):=hd4
   have HF4:Hid (DFr B P w w4):=HFA.out.two hf4
   obtain ⟨b4,-,-⟩:=HD4.out.now
   clear hd4 hf4
   go_wp2_with (first | (go_at_call 57;refine (CVL.out c k _ HD4.out).mono ?_;rintro e w5 ⟨rfl,hd5,hf5⟩))
   refine bodyPost_end (results_none rfl _ _ _) rfl ?_
   rw [HGG.out]
   exact ⟨rfl,fun d hh=>(by cases hh),fun c' hh=>(by injection hh with hh;subst hh;exact ⟨now,hd5⟩),HF4.out.two hf5⟩
  | .ok j1,HD3',HMO,_,HPT1,HPV1 =>
   have HD3:Hid (Dt w3 B P R s now 0 (.ok j1) ns own):=HD3'.out
   obtain ⟨hj1,hj1s⟩:=HMO.out j1 rfl
   obtain ⟨x1,x2,N,cc,O,oc,xs,ks,x3,x4,x5,x6⟩:=HD3.out
   obtain ⟨-,-,c2,-,c4,c5,-,-,-⟩:=x6.2.cells
   have CKd:Hid (∀n,Calls Tryz.prog 56 #[.slice (some ⟨N,0,none⟩) ns.length cc,.int .i64 (now:Nat),.string ⟨k.toArray⟩] (w3.drewN n) fun e w'=>e=.returned (.int .i64 (kidI ns now k))/\w'=w3.drewN n):=fun n=>dKid_any (w3.drewN n) B P ns _ own N cc _ xs ks now k (x5.gb (gb_drew (gb_refl w3 none) n)) HWV.out.1 HWV.out.2.2.1 (by omega)
   have CF:Hid (∀w,Dt w B P R s now 0 (.ok j1) ns own->Calls Tryz.prog 55 #[.pointer (some ⟨R,0,none⟩),.int .i64 5,.int .i64 (i:Nat)] w fun e w'=>e=.returned (.tuple #[])/\Dt w' B P R s now 0 (.error (5,i)) ns own/\DFr B P w w'):=fun w h=>qFail B P R s now 0 ns own j1 w h 5 (by decide) i
   have hbl:=bl_le s.data.toList j1 (by omega)
   have CV:Hid (∀w,Dt w B P R s now 0 (.ok (bl s.data.toList j1)) ns own->Calls Tryz.prog 57 #[.pointer (some ⟨R,0,none⟩),.int .i64 (now:Nat),.string ⟨k.toArray⟩,.int .i64 (i:Nat)] w (DvPost B P R s now 0 own (val s.data.toList (2 * s.data.toList.length+2) (bl s.data.toList j1) now k i 0 ns) w)):=fun w h=>(dVL_any _).1 B P R s own now _ now k i 0 ns w h hs HWV.out.1 HWV.out.2.1 HWV.out.2.2.1 HWV.out.2.2.2 (by omega) (by omega) (by omega)
   obtain ⟨M,hM⟩:∃M,ns.length=M:=⟨_,rfl⟩
   rw [hM] at c2 CKd
   have hMs:M<=700000:=by omega
   clear x1 x2 x3 x4 x5 x6 hM hbl hij hjs hj1 hj1s hsz
   cases hk:kidO ns now k with
   | some q =>
    rw [kidI_some hk] at CKd
    have HGG:Hid (G=.error (5,i)):=HPT1.out j1 q rfl hk
    have hq0:(0:Int)<=(q:Int):=by omega
    have hq1:decide ((0:Int)<=(q:Int))=true:=by simp
    clear hk
    go_wp2
    go_quiet (first | (go_at_call 56;exact Calls.quiet_of_same (CKd.out _)))
    have HDA:=HD3.out.drew nq
    have HDA1:Hid (Dt (w3.drewN nq) B P R s now 0 (.ok j1) ns own):=HDA.1
    have HFA:Hid (DFr B P w (w3.drewN nq)):=HF3.out.two HDA.2
    obtain ⟨wA,hwA⟩:∃W,w3.drewN nq=W:=⟨_,rfl⟩
    rw [hwA] at HDA1 HFA ⊢
    clear hwA HDA c2 c4 c5
    go_wp2_with (first | (go_at_call 55;refine (CF.out _ HDA1.out).mono ?_;rintro e w4 ⟨rfl,hd4,hf4⟩) | (go_at_call 26;refine (CB.out (.error (5,i)) _ hd4.fq).mono ?_))
    rintro e w5 ⟨rfl,hd5,hf5⟩
    have HD5:Hid (Fq w5 B P R s now 0 (5,i)):=hd5
    have HF5:Hid (DFr B P w w5):=(HFA.out.two hf4).two hf5
    obtain ⟨b4,-,-⟩:=HD5.out.now
    clear hd4 hf4 hd5 hf5
    go_wp2_with (first | (go_at_call 57;refine (CVL.out (5,i) k _ HD5.out).mono ?_;rintro e w6 ⟨rfl,hd6,hf6⟩))
    refine bodyPost_end (results_none rfl _ _ _) rfl ?_
    rw [HGG.out]
    exact ⟨rfl,fun d hh=>(by cases hh),fun c' hh=>(by cases hh;exact ⟨now,hd6⟩),HF5.out.two hf6⟩
   | none =>
    rw [kidI_none hk] at CKd
    have HGG:Hid (G=pFin own now (val s.data.toList (2 * s.data.toList.length+2) (bl s.data.toList j1) now k i 0 ns)):=HPV1.out j1 rfl hk
    obtain ⟨V,hV⟩:∃V,val s.data.toList (2 * s.data.toList.length+2) (bl s.data.toList j1) now k i 0 ns=V:=⟨_,rfl⟩
    rw [hV] at HGG CV
    clear hk hV
    go_wp2
    go_quiet (first | (go_at_call 56;exact Calls.quiet_of_same (CKd.out _)))
    have HDA:=HD3.out.drew nq
    have HDA1:Hid (Dq (w3.drewN nq) B P R s now 0 (.ok j1) ns own):=HDA.1
    have HFA:Hid (DFr B P w (w3.drewN nq)):=HF3.out.two HDA.2
    obtain ⟨wA,hwA⟩:∃W,w3.drewN nq=W:=⟨_,rfl⟩
    rw [hwA] at HDA1 HFA ⊢
    clear hwA HDA c2 c4 c5
    go_wp2_with (first | (go_at_call 26;refine (CB.out (.ok j1) _ HDA1.out).mono ?_))
    rintro e w5 ⟨rfl,hd5,hf5⟩
    have HD5:Hid (Dt w5 B P R s now 0 (.ok (bl s.data.toList j1)) ns own):=hd5
    have HF5:Hid (DFr B P w w5):=HFA.out.two hf5
    obtain ⟨-,-,-,-,b4,-,-⟩:=HD5.out.cells
    clear hd5 hf5
    go_wp2_with (first | (go_at_call 57;refine (CV.out _ HD5.out).mono ?_;rintro e w6 ⟨rfl,a1,a2,hf6⟩))
    refine bodyPost_end (results_none rfl _ _ _) rfl ?_
    rw [HGG.out]
    refine ⟨rfl,fun d hh=>?_,fun c' hh=>?_,HF5.out.two hf6⟩
    ·cases V with
     | error e=>cases hh
     | ok r =>
      obtain ⟨j2,ns2⟩:=r
      have e1:(Except.ok ⟨j2,ns2,own,now⟩:Rs Sd)=.ok d:=hh
      injection e1 with e1
      subst e1
      exact a1 j2 ns2 rfl
    ·cases V with
     | error e =>
      have e1:(Except.error e:Rs Sd)=.error c':=hh
      injection e1 with e1
      subst e1
      exact ⟨now,a2 e rfl⟩
     | ok r=>cases hh
set_option linter.unusedVariables false
def mFin (ns:List Tn) (own:List Nat) (now:Nat):Rs Nat->Rs Sd
 | .error e=>.error e
 | .ok j=>.ok ⟨j,ns,own,now⟩
def ltl (l:List UInt8) (ns:List Tn) (own:List Nat) (now:Nat):Rs Nat->Rs Sd
 | .error e=>.error e
 | .ok m=>if l.length<=m then .ok ⟨m,ns,own,now⟩ else mFin ns own now (must l m 10)
theorem ltl_in (l:List UInt8) (ns:List Tn) (own:List Nat) (now m:Nat) (h:m < l.length):ltl l ns own now (.ok m)=mFin ns own now (must l m 10):=by
 show (if _ then _ else _)=_
 rw [if_neg (by omega)]
theorem ltl_end (l:List UInt8) (ns:List Tn) (own:List Nat) (now m:Nat) (h:l.length<=m):ltl l ns own now (.ok m)=.ok ⟨m,ns,own,now⟩:=by
 show (if _ then _ else _)=_
 rw [if_pos h]
def lend (l:List UInt8):Rs Sd->Rs Sd
 | .error e=>.error e
 | .ok d=>ltl l d.ns d.own d.now ((Except.bind (.ok d.i) fun i=>.ok (bl l i):Rs Nat).bind (cmtR l))
theorem lend_ok (l:List UInt8) (d:Sd):(if (cmt l (bl l d.i)).1=false then .error (2,(cmt l (bl l d.i)).2)
  else if nx l (cmt l (bl l d.i)).2=-1 then .ok ⟨(cmt l (bl l d.i)).2,d.ns,d.own,d.now⟩
  else mFin d.ns d.own d.now (must l (cmt l (bl l d.i)).2 10):Rs Sd)=lend l (.ok d):=by
 show _=ltl l d.ns d.own d.now (cmtR l (bl l d.i))
 unfold cmtR
 cases hc:(cmt l (bl l d.i)).1 with
 | false=>rw [if_pos rfl,if_neg (by decide)];rfl
 | true =>
  rw [if_neg (by decide),if_pos rfl]
  show _=if _ then _ else _
  by_cases h:nx l (cmt l (bl l d.i)).2=-1
  ·rw [if_pos h,if_pos (nx_end' h)]
  ·rw [if_neg h,if_neg (fun hh=>h (nx_end _ _ hh))]
theorem rdLine_lend (l:List UInt8) (d:Sd):rdLine l d=lend l (if nx l (bl l d.i)=91 then rdHead l ⟨bl l d.i,d.ns,d.own,d.now⟩ else if nx l (bl l d.i)=34\/isBa (nx l (bl l d.i))=true then rdPair l ⟨bl l d.i,d.ns,d.own,d.now⟩ else .ok ⟨bl l d.i,d.ns,d.own,d.now⟩):=by
 unfold rdLine
 simp only []
 generalize (if nx l (bl l d.i)=91 then rdHead l ⟨bl l d.i,d.ns,d.own,d.now⟩ else if nx l (bl l d.i)=34\/isBa (nx l (bl l d.i))=true then rdPair l ⟨bl l d.i,d.ns,d.own,d.now⟩ else .ok ⟨bl l d.i,d.ns,d.own,d.now⟩:Rs Sd)=X
 cases X with
 | error e=>rfl
 | ok d1 =>
  rw [<-lend_ok]
  simp only []
  split
  ·rfl
  ·split
   ·rfl
   ·cases must l (cmt l (bl l d1.i)).2 10 <;> rfl
theorem run_stop (p:UInt8->Bool):∀(l:List UInt8),(l.drop (l.takeWhile p).length).takeWhile p=[]
 | []=>rfl
 | c :: r=>by
  rw [List.takeWhile_cons]
  cases h:p c with
  | true=>simp only [if_true,List.length_cons,List.drop_succ_cons];exact run_stop p r
  | false=>simp [h]
theorem toR_idem (p:Int->Bool) (l:List UInt8) (i:Nat):toR p l (toR p l i)=toR p l i:=by
 have h:=run_stop (fun c=>p (c.toNat:Int)) (l.drop i)
 have e:runN (fun c=>p (c.toNat:Int)) l (i+runN (fun c=>p (c.toNat:Int)) l i)=0:=by
  unfold runN
  rw [List.drop_drop] at h
  rw [h];rfl
 unfold toR
 rw [e];rfl
theorem bl_idem (l:List UInt8) (i:Nat):bl l (bl l i)=bl l i:=toR_idem isBl l i
theorem pair_bad (l:List UInt8) (d:Sd) (h34:¬ nx l d.i=34) (hba:isBa (nx l d.i)=false):rdPair l d=.error (2,d.i):=by
 have e:toR isBa l d.i=d.i:=toR_stop isBa l d.i hba
 have hk:rdKey l d.i=.error (2,d.i):=by unfold rdKey;rw [if_neg h34,if_pos e]
 unfold rdPair
 rw [hk]
theorem rdLine_doc (l:List UInt8) (d:Sd):rdLine l d=lend l (if nx l (bl l d.i)=91 then rdHead l ⟨bl l d.i,d.ns,d.own,d.now⟩ else if ¬ nx l (bl l d.i)=-1/\¬ nx l (bl l d.i)=35/\¬ nx l (bl l d.i)=10 then rdPair l ⟨bl l d.i,d.ns,d.own,d.now⟩ else .ok ⟨bl l d.i,d.ns,d.own,d.now⟩):=by
 rw [rdLine_lend]
 by_cases h91:nx l (bl l d.i)=91
 ·rw [if_pos h91,if_pos h91]
 ·rw [if_neg h91,if_neg h91]
  by_cases hp:nx l (bl l d.i)=34\/isBa (nx l (bl l d.i))=true
  ·rw [if_pos hp,if_pos]
   refine ⟨fun e=>?_,fun e=>?_,fun e=>?_⟩ <;> (rw [e] at hp;revert hp;decide)
  ·rw [if_neg hp]
   by_cases ho:¬ nx l (bl l d.i)=-1/\¬ nx l (bl l d.i)=35/\¬ nx l (bl l d.i)=10
   ·rw [if_pos ho,pair_bad l ⟨bl l d.i,d.ns,d.own,d.now⟩ (fun e=>hp (Or.inl e)) (by cases hh:isBa (nx l (bl l d.i));rfl;exact (hp (Or.inr hh)).elim)]
    show ltl l d.ns d.own d.now (cmtR l (bl l (bl l d.i)))=.error (2,bl l d.i)
    rw [bl_idem,cmtR_no l _ ho.2.1]
    show (if _ then _ else _)=_
    rw [if_neg (fun hh=>ho.1 (nx_end _ _ hh))]
    unfold must
    rw [if_neg ho.2.2]
    rfl
   ·rw [if_neg ho]
end Go.Proofs.YtbgnflcebafjjaaGreatDoor
