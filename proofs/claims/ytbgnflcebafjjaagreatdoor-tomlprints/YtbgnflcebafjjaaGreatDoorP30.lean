import Derived.Test.YtbgnflcebafjjaaGreatDoorP29
namespace Go.Proofs.YtbgnflcebafjjaaGreatDoor
open Go.RowKit Go.Maps Go.WideMaps Go.Joins
set_option linter.unusedVariables false
set_option maxRecDepth 100000 in
set_option maxHeartbeats 3200000 in
theorem dVal_q (f:Nat) (B P R:Nat) (s:ByteArray) (own:List Nat) (now i up:Nat) (k:List UInt8) (p d:Nat) (ns:List Tn) (w:World) (h:Dt w B P R s now d (.ok i) ns own) (hs:s.size<=100000) (W:WF ns own) (V:WT ns) (hu:up < ns.length) (hk2:¬ kdAt ns up=2) (hd:d<=8) (hsz:ns.length+(s.size - i)<=700000) (hf:2 * (s.size - i)+1<=f+1) (hx:nx s.data.toList i=34) :
  Calls Tryz.prog 57 #[.pointer (some ⟨R,0,none⟩),.int .i64 (up:Nat),.string ⟨k.toArray⟩,.int .i64 (p:Nat)] w (DvPost B P R s now d own (val s.data.toList (f+1) i up k p d ns) w):=by
 have hl:s.data.toList.length=s.size:=by simp
 obtain ⟨c0,c1,c5,-,-,hi,-⟩:=h.cells
 have HD:Hid (Dt w B P R s now d (.ok i) ns own):=h
 rw [val_q _ _ _ _ _ _ _ _ hx]
 have hlt0:i < s.size:=by have:=nx_lt (l:=s.data.toList) (i:=i) (by omega);omega
 have hlt:i < s.size:=hlt0
 have hge:decide ((s.size:Int)<=(i:Int))=false:=by simp;omega
 have hge2:¬ (s.size:Int)<=(i:Int):=by omega
 have HXX:Hid (nx s.data.toList i=(s[i].toNat:Int)):=byte_at s i hlt
 have q34:((s[i].toNat:Int) == 34)=true:=by rw [<-HXX.out,hx];rfl
 have CQ:Hid (∀w,Dt w B P R s now d (.ok i) ns own->Calls Tryz.prog 82 #[.pointer (some ⟨R,0,none⟩)] w (TqPost B P R s now d ns own (str s.data.toList (s.data.toList.length+1) (i+1) []) w)):=fun w h=>qQuoted B P R s now d i ns own w h hx hs
 have CA:Hid (∀(q:Rs Nat) (t:List UInt8) w,Dt w B P R s now d q ns own->Calls Tryz.prog 17 #[.pointer (some ⟨R,0,none⟩),.int .i64 (up:Nat),.agg #[.int .i64 3,.string ⟨k.toArray⟩,.string ⟨t.toArray⟩,.int .i64 0,.slice none 0 0,.int .i64 (p:Nat)]] w (DaPost B P R s now d q ns own (addN ns up ⟨3,k,t,0,[],p⟩) w)):=fun q t w h=>dAdd_any B P R s now d q ns own up 3 0 k t p w h W hu (by omega)
 obtain ⟨G,hG⟩:∃G,str s.data.toList (s.data.toList.length+1) (i+1) []=G:=⟨_,rfl⟩
 rw [hG] at CQ ⊢
 obtain ⟨Q,hQ⟩:∃Q:Rs (Nat × List Tn),(vFin (fun t=>addN ns up ⟨3,k,t,0,[],p⟩) G)=Q:=⟨_,rfl⟩
 have HQ:Hid ((vFin (fun t=>addN ns up ⟨3,k,t,0,[],p⟩) G)=Q):=hQ
 rw [hQ]
 clear h hx hG hQ V W hk2 HXX
 go_enter Tryz.func57,Tryz.ntmps57
 go_wp2
 go_quiet (fail)
 have HDA:=HD.out.drew nq
 have HDA1:Hid (Dt (w.drewN nq) B P R s now d (.ok i) ns own):=HDA.1
 have HFA:Hid (DFr B P w (w.drewN nq)):=HDA.2
 obtain ⟨wA,hwA⟩:∃W,w.drewN nq=W:=⟨_,rfl⟩
 rw [hwA] at HDA1 HFA ⊢
 obtain ⟨d0,d1,d5,-,-,-,-⟩:=HDA1.out.cells
 clear hwA HDA c0 c1 c5
 go_wp2
 go_quiet (fail)
 have HDB:=HDA1.out.drew nq
 have HDB1:Hid (Dt (wA.drewN nq) B P R s now d (.ok i) ns own):=HDB.1
 have HFB:Hid (DFr B P w (wA.drewN nq)):=HFA.out.two HDB.2
 obtain ⟨wB,hwB⟩:∃W,wA.drewN nq=W:=⟨_,rfl⟩
 rw [hwB] at HDB1 HFB ⊢
 obtain ⟨g0,g1,g5,-,-,-,-⟩:=HDB1.out.cells
 clear hwB HDB d0 d1 d5
 go_wp2_with (first | (go_at_call 82;refine (CQ.out _ HDB1.out).mono ?_))
 rintro e w2 ⟨h1,h2,hf2⟩
 have HF2:Hid (DFr B P w w2):=HFB.out.two hf2
 clear hf2
 match G,h1,h2,HQ with
 | .error c,_,h2,HQ =>
  obtain ⟨t,rfl,hd2⟩:=h2 c rfl
  have HD2:Hid (Dt w2 B P R s now d (.error c) ns own):=hd2
  have HQ2:Hid (Q=.error c):=HQ.out.symm
  clear h2 hd2
  go_wp2_with (first | (go_at_call 17;refine (CA.out _ t _ HD2.out).mono ?_;rintro e w3 ⟨rfl,hd3,hf3⟩))
  refine bodyPost_end (results_none rfl _ _ _) rfl ?_
  rw [HQ2.out]
  exact ⟨rfl,fun j ns' hh=>(by cases hh),fun c' hh=>(by injection hh with hh;subst hh;exact hd3.fq),HF2.out.two hf3⟩
 | .ok (t,j),h1,_,HQ =>
  obtain ⟨rfl,hd2⟩:=h1 t j rfl
  have HD2:Hid (Dt w2 B P R s now d (.ok j) ns own):=hd2
  have HQ2:Hid (Q=.ok (j,addN ns up ⟨3,k,t,0,[],p⟩)):=HQ.out.symm
  clear h1 hd2
  go_wp2_with (first | (go_at_call 17;refine (CA.out _ t _ HD2.out).mono ?_;rintro e w3 ⟨rfl,hd3,hf3⟩))
  refine bodyPost_end (results_none rfl _ _ _) rfl ?_
  rw [HQ2.out]
  exact ⟨rfl,fun j ns' hh=>(by cases hh;exact hd3),fun c' hh=>(by cases hh),HF2.out.two hf3⟩
end Go.Proofs.YtbgnflcebafjjaaGreatDoor
namespace Go.Proofs.YtbgnflcebafjjaaGreatDoor
open Go.RowKit Go.Maps Go.WideMaps Go.Joins
set_option linter.unusedVariables false
set_option maxRecDepth 100000 in
set_option maxHeartbeats 3200000 in
theorem dVal_i (f:Nat) (B P R:Nat) (s:ByteArray) (own:List Nat) (now i up:Nat) (k:List UInt8) (p d:Nat) (ns:List Tn) (w:World) (h:Dt w B P R s now d (.ok i) ns own) (hs:s.size<=100000) (W:WF ns own) (V:WT ns) (hu:up < ns.length) (hk2:¬ kdAt ns up=2) (hd:d<=8) (hsz:ns.length+(s.size - i)<=700000) (hf:2 * (s.size - i)+1<=f+1) (hx:nx s.data.toList i=43\/nx s.data.toList i=45\/isDg (nx s.data.toList i)=true) :
  Calls Tryz.prog 57 #[.pointer (some ⟨R,0,none⟩),.int .i64 (up:Nat),.string ⟨k.toArray⟩,.int .i64 (p:Nat)] w (DvPost B P R s now d own (val s.data.toList (f+1) i up k p d ns) w):=by
 have hl:s.data.toList.length=s.size:=by simp
 obtain ⟨c0,c1,c5,-,-,hi,-⟩:=h.cells
 have HD:Hid (Dt w B P R s now d (.ok i) ns own):=h
 have hx34:¬ nx s.data.toList i=34:=fun e=>by rw [e] at hx;revert hx;decide
 have hx91:¬ nx s.data.toList i=91:=fun e=>by rw [e] at hx;revert hx;decide
 rw [val_i _ _ _ _ _ _ _ _ hx34 hx]
 have hlt0:i < s.size:=by
  have:=nx_lt (l:=s.data.toList) (i:=i) (by
   rcases hx with h | h | h
   ·rw [h];decide
   ·rw [h];decide
   ·have:=of_decide_eq_true h;omega)
  omega
 have hlt:i < s.size:=hlt0
 have hge:decide ((s.size:Int)<=(i:Int))=false:=by simp;omega
 have hge2:¬ (s.size:Int)<=(i:Int):=by omega
 have HXX:Hid (nx s.data.toList i=(s[i].toNat:Int)):=byte_at s i hlt
 have q34:((s[i].toNat:Int) == 34)=false:=by rw [beq_eq_false_iff_ne,<-HXX.out];exact hx34
 have q91:((s[i].toNat:Int) == 91)=false:=by rw [beq_eq_false_iff_ne,<-HXX.out];exact hx91
 have CD:Hid (∀w,Calls Tryz.prog 84 #[.int .u8 (s[i].toNat:Int)] w fun e w'=>e=.returned (.bool (isDg (s[i].toNat:Int)))/\w'=w):=dDigit_any s[i]
 have HOR:Hid (((s[i].toNat:Int) == 43)=true\/(((s[i].toNat:Int) == 43)=false/\((s[i].toNat:Int) == 45)=true)\/(((s[i].toNat:Int) == 43)=false/\((s[i].toNat:Int) == 45)=false/\isDg (s[i].toNat:Int)=true)):=by
  show _\/_
  rw [HXX.out] at hx
  by_cases h1:(s[i].toNat:Int)=43
  ·left;simpa using h1
  ·by_cases h2:(s[i].toNat:Int)=45
   ·right;left;exact ⟨by simpa using h1,by simpa using h2⟩
   ·right;right
    exact ⟨by simpa using h1,by simpa using h2,by rcases hx with h | h | h;exact (h1 h).elim;exact (h2 h).elim;exact h⟩
 have CQ:Hid (∀w,Dt w B P R s now d (.ok i) ns own->Calls Tryz.prog 85 #[.pointer (some ⟨R,0,none⟩)] w (IqPost B P R s now d ns own (rdInt s.data.toList i) w)):=fun w h=>qInt B P R s now d i ns own w h hlt hx hs
 have CA:Hid (∀(q:Rs Nat) (t:Int) w,Dt w B P R s now d q ns own->Calls Tryz.prog 17 #[.pointer (some ⟨R,0,none⟩),.int .i64 (up:Nat),.agg #[.int .i64 4,.string ⟨k.toArray⟩,.string ⟨#[]⟩,.int .i64 t,.slice none 0 0,.int .i64 (p:Nat)]] w (DaPost B P R s now d q ns own (addN ns up ⟨4,k,[],t,[],p⟩) w)):=fun q t w h=>dAdd_any B P R s now d q ns own up 4 t k [] p w h W hu (by omega)
 obtain ⟨G,hG⟩:∃G,rdInt s.data.toList i=G:=⟨_,rfl⟩
 rw [hG] at CQ ⊢
 obtain ⟨Q,hQ⟩:∃Q:Rs (Nat × List Tn),(vFin (fun n=>addN ns up ⟨4,k,[],n,[],p⟩) G)=Q:=⟨_,rfl⟩
 have HQ:Hid ((vFin (fun n=>addN ns up ⟨4,k,[],n,[],p⟩) G)=Q):=hQ
 rw [hQ]
 obtain ⟨bd,hbd⟩:∃b,isDg (s[i].toNat:Int)=b:=⟨_,rfl⟩
 rw [hbd] at CD HOR
 clear h hx hG hQ V W hk2 HXX hx34 hx91 hbd
 go_enter Tryz.func57,Tryz.ntmps57
 go_wp2
 go_quiet (fail)
 have HDA:=HD.out.drew nq
 have HDA1:Hid (Dt (w.drewN nq) B P R s now d (.ok i) ns own):=HDA.1
 have HFA:Hid (DFr B P w (w.drewN nq)):=HDA.2
 obtain ⟨wA,hwA⟩:∃W,w.drewN nq=W:=⟨_,rfl⟩
 rw [hwA] at HDA1 HFA ⊢
 obtain ⟨d0,d1,d5,-,-,-,-⟩:=HDA1.out.cells
 clear hwA HDA c0 c1 c5
 go_wp2
 go_quiet (fail)
 have HDB:=HDA1.out.drew nq
 have HDB1:Hid (Dt (wA.drewN nq) B P R s now d (.ok i) ns own):=HDB.1
 have HFB:Hid (DFr B P w (wA.drewN nq)):=HFA.out.two HDB.2
 obtain ⟨wB,hwB⟩:∃W,wA.drewN nq=W:=⟨_,rfl⟩
 rw [hwB] at HDB1 HFB ⊢
 obtain ⟨g0,g1,g5,-,-,-,-⟩:=HDB1.out.cells
 clear hwB HDB d0 d1 d5
 rcases HOR.out with q43 | ⟨q43,q45⟩ | ⟨q43,q45,rfl⟩
 ·go_wp2_with (first | (go_at_call 85;refine (CQ.out _ HDB1.out).mono ?_))
  rintro e w2 ⟨h1,h2,hf2⟩
  have HF2:Hid (DFr B P w w2):=HFB.out.two hf2
  clear hf2
  match G,h1,h2,HQ with
  | .error c,_,h2,HQ =>
   obtain ⟨t,rfl,hd2⟩:=h2 c rfl
   have HD2:Hid (Dt w2 B P R s now d (.error c) ns own):=hd2
   have HQ2:Hid (Q=.error c):=HQ.out.symm
   clear h2 hd2
   go_wp2_with (first | (go_at_call 17;refine (CA.out _ t _ HD2.out).mono ?_;rintro e w3 ⟨rfl,hd3,hf3⟩))
   refine bodyPost_end (results_none rfl _ _ _) rfl ?_
   rw [HQ2.out]
   exact ⟨rfl,fun j ns' hh=>(by cases hh),fun c' hh=>(by injection hh with hh;subst hh;exact hd3.fq),HF2.out.two hf3⟩
  | .ok (t,j),h1,_,HQ =>
   obtain ⟨rfl,hd2⟩:=h1 t j rfl
   have HD2:Hid (Dt w2 B P R s now d (.ok j) ns own):=hd2
   have HQ2:Hid (Q=.ok (j,addN ns up ⟨4,k,[],t,[],p⟩)):=HQ.out.symm
   clear h1 hd2
   go_wp2_with (first | (go_at_call 17;refine (CA.out _ t _ HD2.out).mono ?_;rintro e w3 ⟨rfl,hd3,hf3⟩))
   refine bodyPost_end (results_none rfl _ _ _) rfl ?_
   rw [HQ2.out]
   exact ⟨rfl,fun j ns' hh=>(by cases hh;exact hd3),fun c' hh=>(by cases hh),HF2.out.two hf3⟩
 ·go_wp2_with (first | (go_at_call 85;refine (CQ.out _ HDB1.out).mono ?_))
  rintro e w2 ⟨h1,h2,hf2⟩
  have HF2:Hid (DFr B P w w2):=HFB.out.two hf2
  clear hf2
  match G,h1,h2,HQ with
  | .error c,_,h2,HQ =>
   obtain ⟨t,rfl,hd2⟩:=h2 c rfl
   have HD2:Hid (Dt w2 B P R s now d (.error c) ns own):=hd2
   have HQ2:Hid (Q=.error c):=HQ.out.symm
   clear h2 hd2
   go_wp2_with (first | (go_at_call 17;refine (CA.out _ t _ HD2.out).mono ?_;rintro e w3 ⟨rfl,hd3,hf3⟩))
   refine bodyPost_end (results_none rfl _ _ _) rfl ?_
   rw [HQ2.out]
   exact ⟨rfl,fun j ns' hh=>(by cases hh),fun c' hh=>(by injection hh with hh;subst hh;exact hd3.fq),HF2.out.two hf3⟩
  | .ok (t,j),h1,_,HQ =>
   obtain ⟨rfl,hd2⟩:=h1 t j rfl
   have HD2:Hid (Dt w2 B P R s now d (.ok j) ns own):=hd2
   have HQ2:Hid (Q=.ok (j,addN ns up ⟨4,k,[],t,[],p⟩)):=HQ.out.symm
   clear h1 hd2
   go_wp2_with (first | (go_at_call 17;refine (CA.out _ t _ HD2.out).mono ?_;rintro e w3 ⟨rfl,hd3,hf3⟩))
   refine bodyPost_end (results_none rfl _ _ _) rfl ?_
   rw [HQ2.out]
   exact ⟨rfl,fun j ns' hh=>(by cases hh;exact hd3),fun c' hh=>(by cases hh),HF2.out.two hf3⟩
 ·go_wp2_with (first | (go_at_call 85;refine (CQ.out _ HDB1.out).mono ?_) | (go_at_call 84;refine (CD.out _).mono ?_;rintro e w' ⟨rfl,rfl⟩))
  rintro e w2 ⟨h1,h2,hf2⟩
  have HF2:Hid (DFr B P w w2):=HFB.out.two hf2
  clear hf2
  match G,h1,h2,HQ with
  | .error c,_,h2,HQ =>
   obtain ⟨t,rfl,hd2⟩:=h2 c rfl
   have HD2:Hid (Dt w2 B P R s now d (.error c) ns own):=hd2
   have HQ2:Hid (Q=.error c):=HQ.out.symm
   clear h2 hd2
   go_wp2_with (first | (go_at_call 17;refine (CA.out _ t _ HD2.out).mono ?_;rintro e w3 ⟨rfl,hd3,hf3⟩))
   refine bodyPost_end (results_none rfl _ _ _) rfl ?_
   rw [HQ2.out]
   exact ⟨rfl,fun j ns' hh=>(by cases hh),fun c' hh=>(by injection hh with hh;subst hh;exact hd3.fq),HF2.out.two hf3⟩
  | .ok (t,j),h1,_,HQ =>
   obtain ⟨rfl,hd2⟩:=h1 t j rfl
   have HD2:Hid (Dt w2 B P R s now d (.ok j) ns own):=hd2
   have HQ2:Hid (Q=.ok (j,addN ns up ⟨4,k,[],t,[],p⟩)):=HQ.out.symm
   clear h1 hd2
   go_wp2_with (first | (go_at_call 17;refine (CA.out _ t _ HD2.out).mono ?_;rintro e w3 ⟨rfl,hd3,hf3⟩))
   refine bodyPost_end (results_none rfl _ _ _) rfl ?_
   rw [HQ2.out]
   exact ⟨rfl,fun j ns' hh=>(by cases hh;exact hd3),fun c' hh=>(by cases hh),HF2.out.two hf3⟩
end Go.Proofs.YtbgnflcebafjjaaGreatDoor
namespace Go.Proofs.YtbgnflcebafjjaaGreatDoor
open Go.RowKit Go.Maps Go.WideMaps Go.Joins
set_option linter.unusedVariables false
set_option maxRecDepth 100000 in
set_option maxHeartbeats 3200000 in
theorem dVal_l (f:Nat) (CL:DlC f) (B P R:Nat) (s:ByteArray) (own:List Nat) (now i up:Nat) (k:List UInt8) (p d:Nat) (ns:List Tn) (w:World) (h:Dt w B P R s now d (.ok i) ns own) (hs:s.size<=100000) (W:WF ns own) (V:WT ns) (hu:up < ns.length) (hk2:¬ kdAt ns up=2) (hd:d<=8) (hsz:ns.length+(s.size - i)<=700000) (hf:2 * (s.size - i)+1<=f+1) (hx:nx s.data.toList i=91) :
  Calls Tryz.prog 57 #[.pointer (some ⟨R,0,none⟩),.int .i64 (up:Nat),.string ⟨k.toArray⟩,.int .i64 (p:Nat)] w (DvPost B P R s now d own (val s.data.toList (f+1) i up k p d ns) w):=by
 have hl:s.data.toList.length=s.size:=by simp
 obtain ⟨c0,c1,c5,-,-,hi,-⟩:=h.cells
 have HD:Hid (Dt w B P R s now d (.ok i) ns own):=h
 rw [val_step]
 rw [if_neg (by rw [hx];decide),if_neg (by rw [hx];decide),if_neg (by rw [hx];decide),if_pos hx]
 have hlt0:i < s.size:=by have:=nx_lt (l:=s.data.toList) (i:=i) (by omega);omega
 have hlt:i < s.size:=hlt0
 have hge:decide ((s.size:Int)<=(i:Int))=false:=by simp;omega
 have hge2:¬ (s.size:Int)<=(i:Int):=by omega
 have HXX:Hid (nx s.data.toList i=(s[i].toNat:Int)):=byte_at s i hlt
 have q34:((s[i].toNat:Int) == 34)=false:=by rw [beq_eq_false_iff_ne,<-HXX.out];rw [hx];decide
 have q91:((s[i].toNat:Int) == 91)=true:=by rw [<-HXX.out,hx];rfl
 have CQ:Hid (∀w,Dt w B P R s now d (.ok i) ns own->Calls Tryz.prog 83 #[.pointer (some ⟨R,0,none⟩),.int .i64 (up:Nat),.string ⟨k.toArray⟩,.int .i64 (p:Nat)] w (DvPost B P R s now d own (if d=8 then .error (4,i) else lst s.data.toList f (i+1) ns.length (d+1) (addN ns up ⟨1,k,[],0,[],p⟩)) w)):=fun w h=>CL B P R s own now i up k p d ns w h hs hx W V hu hk2 hd hsz (by omega)
 obtain ⟨G,hG⟩:∃G:Rs (Nat × List Tn),(if d=8 then .error (4,i) else lst s.data.toList f (i+1) ns.length (d+1) (addN ns up ⟨1,k,[],0,[],p⟩))=G:=⟨_,rfl⟩
 rw [hG] at CQ ⊢
 clear h hx hG V W hk2 HXX
 go_enter Tryz.func57,Tryz.ntmps57
 go_wp2
 go_quiet (fail)
 have HDA:=HD.out.drew nq
 have HDA1:Hid (Dt (w.drewN nq) B P R s now d (.ok i) ns own):=HDA.1
 have HFA:Hid (DFr B P w (w.drewN nq)):=HDA.2
 obtain ⟨wA,hwA⟩:∃W,w.drewN nq=W:=⟨_,rfl⟩
 rw [hwA] at HDA1 HFA ⊢
 obtain ⟨d0,d1,d5,-,-,-,-⟩:=HDA1.out.cells
 clear hwA HDA c0 c1 c5
 go_wp2
 go_quiet (fail)
 have HDB:=HDA1.out.drew nq
 have HDB1:Hid (Dt (wA.drewN nq) B P R s now d (.ok i) ns own):=HDB.1
 have HFB:Hid (DFr B P w (wA.drewN nq)):=HFA.out.two HDB.2
 obtain ⟨wB,hwB⟩:∃W,wA.drewN nq=W:=⟨_,rfl⟩
 rw [hwB] at HDB1 HFB ⊢
 obtain ⟨g0,g1,g5,-,-,-,-⟩:=HDB1.out.cells
 clear hwB HDB d0 d1 d5
 go_wp2_with (first | (go_at_call 83;refine (CQ.out _ HDB1.out).mono ?_;rintro e w2 ⟨rfl,h1,h2,hf2⟩))
 refine bodyPost_end (results_none rfl _ _ _) rfl ?_
 exact ⟨rfl,h1,h2,HFB.out.two hf2⟩
end Go.Proofs.YtbgnflcebafjjaaGreatDoor
namespace Go.Proofs.YtbgnflcebafjjaaGreatDoor
open Go.RowKit Go.Maps Go.WideMaps Go.Joins
set_option linter.unusedVariables false
set_option maxRecDepth 100000 in
set_option maxHeartbeats 3200000 in
theorem dVal_x (f:Nat) (B P R:Nat) (s:ByteArray) (own:List Nat) (now i up:Nat) (k:List UInt8) (p d:Nat) (ns:List Tn) (w:World) (h:Dt w B P R s now d (.ok i) ns own) (hs:s.size<=100000) (W:WF ns own) (V:WT ns) (hu:up < ns.length) (hk2:¬ kdAt ns up=2) (hd:d<=8) (hsz:ns.length+(s.size - i)<=700000) (hf:2 * (s.size - i)+1<=f+1) (hlt0:i < s.size) (n34:¬ nx s.data.toList i=34) (nin:¬ (nx s.data.toList i=43\/nx s.data.toList i=45\/isDg (nx s.data.toList i)=true)) (ntf:¬ (nx s.data.toList i=116\/nx s.data.toList i=102)) (n91:¬ nx s.data.toList i=91) :
  Calls Tryz.prog 57 #[.pointer (some ⟨R,0,none⟩),.int .i64 (up:Nat),.string ⟨k.toArray⟩,.int .i64 (p:Nat)] w (DvPost B P R s now d own (val s.data.toList (f+1) i up k p d ns) w):=by
 have hl:s.data.toList.length=s.size:=by simp
 obtain ⟨c0,c1,c5,-,-,hi,-⟩:=h.cells
 have HD:Hid (Dt w B P R s now d (.ok i) ns own):=h
 rw [val_step]
 rw [if_neg n34,if_neg nin,if_neg ntf,if_neg n91]
 have n43:¬ nx s.data.toList i=43:=fun e=>nin (Or.inl e)
 have n45:¬ nx s.data.toList i=45:=fun e=>nin (Or.inr (Or.inl e))
 have ndg:isDg (nx s.data.toList i)=false:=by cases hh:isDg (nx s.data.toList i);rfl;exact (nin (Or.inr (Or.inr hh))).elim
 have n116:¬ nx s.data.toList i=116:=fun e=>ntf (Or.inl e)
 have n102:¬ nx s.data.toList i=102:=fun e=>ntf (Or.inr e)
 have hlt:i < s.size:=hlt0
 have hge:decide ((s.size:Int)<=(i:Int))=false:=by simp;omega
 have hge2:¬ (s.size:Int)<=(i:Int):=by omega
 have HXX:Hid (nx s.data.toList i=(s[i].toNat:Int)):=byte_at s i hlt
 have q34:((s[i].toNat:Int) == 34)=false:=by rw [beq_eq_false_iff_ne,<-HXX.out];exact n34
 have q91:((s[i].toNat:Int) == 91)=false:=by rw [beq_eq_false_iff_ne,<-HXX.out];exact n91
 have q43:((s[i].toNat:Int) == 43)=false:=by rw [beq_eq_false_iff_ne,<-HXX.out];exact n43
 have q45:((s[i].toNat:Int) == 45)=false:=by rw [beq_eq_false_iff_ne,<-HXX.out];exact n45
 have q116:((s[i].toNat:Int) == 116)=false:=by rw [beq_eq_false_iff_ne,<-HXX.out];exact n116
 have q102:((s[i].toNat:Int) == 102)=false:=by rw [beq_eq_false_iff_ne,<-HXX.out];exact n102
 have CD:Hid (∀w,Calls Tryz.prog 84 #[.int .u8 (s[i].toNat:Int)] w fun e w'=>e=.returned (.bool false)/\w'=w):=fun w=>by
  have:=dDigit_any s[i] w
  rw [<-HXX.out,ndg] at this
  rw [<-HXX.out]
  exact this
 have CF:Hid (∀w,Dt w B P R s now d (.ok i) ns own->Calls Tryz.prog 55 #[.pointer (some ⟨R,0,none⟩),.int .i64 2,.int .i64 (i:Nat)] w fun e w'=>e=.returned (.tuple #[])/\Dt w' B P R s now d (.error (2,i)) ns own/\DFr B P w w'):=fun w h=>qFail B P R s now d ns own i w h 2 (by decide) i
 clear h V W hk2 HXX n34 nin ntf n91 n43 n45 ndg n116 n102
 go_enter Tryz.func57,Tryz.ntmps57
 go_wp2
 go_quiet (fail)
 have HDA:=HD.out.drew nq
 have HDA1:Hid (Dt (w.drewN nq) B P R s now d (.ok i) ns own):=HDA.1
 have HFA:Hid (DFr B P w (w.drewN nq)):=HDA.2
 obtain ⟨wA,hwA⟩:∃W,w.drewN nq=W:=⟨_,rfl⟩
 rw [hwA] at HDA1 HFA ⊢
 obtain ⟨d0,d1,d5,-,-,-,-⟩:=HDA1.out.cells
 clear hwA HDA c0 c1 c5
 go_wp2
 go_quiet (fail)
 have HDB:=HDA1.out.drew nq
 have HDB1:Hid (Dt (wA.drewN nq) B P R s now d (.ok i) ns own):=HDB.1
 have HFB:Hid (DFr B P w (wA.drewN nq)):=HFA.out.two HDB.2
 obtain ⟨wB,hwB⟩:∃W,wA.drewN nq=W:=⟨_,rfl⟩
 rw [hwB] at HDB1 HFB ⊢
 obtain ⟨g0,g1,g5,-,-,-,-⟩:=HDB1.out.cells
 clear hwB HDB d0 d1 d5
 go_wp2_with (first | (go_at_call 84;refine (CD.out _).mono ?_;rintro e w' ⟨rfl,rfl⟩) | (go_at_call 55;refine (CF.out _ HDB1.out).mono ?_;rintro e w2 ⟨rfl,hd2,hf2⟩))
 refine bodyPost_end (results_none rfl _ _ _) rfl ?_
 exact ⟨rfl,fun j ns' hh=>(by cases hh),fun c hh=>(by cases hh;exact hd2.fq),HFB.out.two hf2⟩
end Go.Proofs.YtbgnflcebafjjaaGreatDoor
