import Derived.Test.YtbgnflcebafjjaaGreatDoorA23
namespace Go.Proofs.YtbgnflcebafjjaaGreatDoor
open Go.RowKit Go.Maps Go.WideMaps Go.Joins
set_option linter.unusedVariables false
set_option maxRecDepth 100000 in
set_option maxHeartbeats 3200000 in
theorem dVal_l (f:Nat) (CL:DlC f) (B P R:Nat) (s:ByteArray) (own:List Nat) (now i up:Nat) (k:List UInt8) (p d:Nat) (ns:List Tn) (w:World) (h:Dt w B P R s now d (.ok i) ns own) (hs:s.size<=100000) (W:WF ns own) (V:WT ns) (hu:up < ns.length) (hk2:¬ kdAt ns up=2) (hd:d<=8) (hsz:ns.length+(s.size - i)<=700000) (hf:2 * (s.size - i)+1<=f+1) (hx:nx s.data.toList i=91) :
  Calls Tryz.prog 57 #[.pointer (some ⟨R,0,none⟩),.int .i64 (up:Nat),.string ⟨k.toArray⟩,.int .i64 (p:Nat)] w (DvPost B P R s now d own (val s.data.toList (f+1) i up k p d ns) w):=by
 have hl:s.data.toList.length=s.size:=by simp
 obtain ⟨c0,c1,c5,-,-,hi,-⟩:=h.cells
 have HD:Hid (Dt w B P R s now d (.ok i) ns own):=h
 rw [val_step]
 rw [if_neg (by rw [hx];decide),if_neg (by rw [hx];decide),if_neg (by rw [hx];decide),if_pos hx]
 have hlt0:i < s.size:=by have:=nx_lt (l:=s.data.toList) (i:=i) (by omega);omega
 have hlt:i < s.size:=hlt0
 have hge:decide ((s.size:Int)<=(i:Int))=false:=by simp;omega
 have hge2:¬ (s.size:Int)<=(i:Int):=by omega
 have HXX:Hid (nx s.data.toList i=(s[i].toNat:Int)):=byte_at s i hlt
 have q34:((s[i].toNat:Int) == 34)=false:=by rw [beq_eq_false_iff_ne,<-HXX.out];rw [hx];decide
 have q91:((s[i].toNat:Int) == 91)=true:=by rw [<-HXX.out,hx];rfl
 have CQ:Hid (∀w,Dt w B P R s now d (.ok i) ns own->Calls Tryz.prog 83 #[.pointer (some ⟨R,0,none⟩),.int .i64 (up:Nat),.string ⟨k.toArray⟩,.int .i64 (p:Nat)] w (DvPost B P R s now d own (if d=8 then .error (4,i) else lst s.data.toList f (i+1) ns.length (d+1) (addN ns up ⟨1,k,[],0,[],p⟩)) w)):=fun w h=>CL B P R s own now i up k p d ns w h hs hx W V hu hk2 hd hsz (by omega)
 obtain ⟨G,hG⟩:∃G:Rs (Nat × List Tn),(if d=8 then .error (4,i) else lst s.data.toList f (i+1) ns.length (d+1) (addN ns up ⟨1,k,[],0,[],p⟩))=G:=⟨_,rfl⟩
 rw [hG] at CQ ⊢
 clear h hx hG V W hk2 HXX
 go_enter Tryz.func57,Tryz.ntmps57
 go_wp2
 go_quiet (fail)
 have HDA:=HD.out.drew nq
 have HDA1:Hid (Dt (w.drewN nq) B P R s now d (.ok i) ns own):=HDA.1
 have HFA:Hid (DFr B P w (w.drewN nq)):=HDA.2
 obtain ⟨wA,hwA⟩:∃W,w.drewN nq=W:=⟨_,rfl⟩
 rw [hwA] at HDA1 HFA ⊢
 obtain ⟨d0,d1,d5,-,-,-,-⟩:=HDA1.out.cells
 clear hwA HDA c0 c1 c5
 go_wp2
 go_quiet (fail)
 have HDB:=HDA1.out.drew nq
 have HDB1:Hid (Dt (wA.drewN nq) B P R s now d (.ok i) ns own):=HDB.1
 have HFB:Hid (DFr B P w (wA.drewN nq)):=HFA.out.two HDB.2
 obtain ⟨wB,hwB⟩:∃W,wA.drewN nq=W:=⟨_,rfl⟩
 rw [hwB] at HDB1 HFB ⊢
 obtain ⟨g0,g1,g5,-,-,-,-⟩:=HDB1.out.cells
 clear hwB HDB d0 d1 d5
 go_wp2_with (first | (go_at_call 83;refine (CQ.out _ HDB1.out).mono ?_;rintro e w2 ⟨rfl,h1,h2,hf2⟩))
 refine bodyPost_end (results_none rfl _ _ _) rfl ?_
 exact ⟨rfl,h1,h2,HFB.out.two hf2⟩
set_option maxRecDepth 100000 in
set_option maxHeartbeats 3200000 in
theorem dVal_x (f:Nat) (B P R:Nat) (s:ByteArray) (own:List Nat) (now i up:Nat) (k:List UInt8) (p d:Nat) (ns:List Tn) (w:World) (h:Dt w B P R s now d (.ok i) ns own) (hs:s.size<=100000) (W:WF ns own) (V:WT ns) (hu:up < ns.length) (hk2:¬ kdAt ns up=2) (hd:d<=8) (hsz:ns.length+(s.size - i)<=700000) (hf:2 * (s.size - i)+1<=f+1) (hlt0:i < s.size) (n34:¬ nx s.data.toList i=34) (nin:¬ (nx s.data.toList i=43\/nx s.data.toList i=45\/isDg (nx s.data.toList i)=true)) (ntf:¬ (nx s.data.toList i=116\/nx s.data.toList i=102)) (n91:¬ nx s.data.toList i=91) :
  Calls Tryz.prog 57 #[.pointer (some ⟨R,0,none⟩),.int .i64 (up:Nat),.string ⟨k.toArray⟩,.int .i64 (p:Nat)] w (DvPost B P R s now d own (val s.data.toList (f+1) i up k p d ns) w):=by
 have hl:s.data.toList.length=s.size:=by simp
 obtain ⟨c0,c1,c5,-,-,hi,-⟩:=h.cells
 have HD:Hid (Dt w B P R s now d (.ok i) ns own):=h
 rw [val_step]
 rw [if_neg n34,if_neg nin,if_neg ntf,if_neg n91]
 have n43:¬ nx s.data.toList i=43:=fun e=>nin (Or.inl e)
 have n45:¬ nx s.data.toList i=45:=fun e=>nin (Or.inr (Or.inl e))
 have ndg:isDg (nx s.data.toList i)=false:=by cases hh:isDg (nx s.data.toList i);rfl;exact (nin (Or.inr (Or.inr hh))).elim
 have n116:¬ nx s.data.toList i=116:=fun e=>ntf (Or.inl e)
 have n102:¬ nx s.data.toList i=102:=fun e=>ntf (Or.inr e)
 have hlt:i < s.size:=hlt0
 have hge:decide ((s.size:Int)<=(i:Int))=false:=by simp;omega
 have hge2:¬ (s.size:Int)<=(i:Int):=by omega
 have HXX:Hid (nx s.data.toList i=(s[i].toNat:Int)):=byte_at s i hlt
 have q34:((s[i].toNat:Int) == 34)=false:=by rw [beq_eq_false_iff_ne,<-HXX.out];exact n34
 have q91:((s[i].toNat:Int) == 91)=false:=by rw [beq_eq_false_iff_ne,<-HXX.out];exact n91
 have q43:((s[i].toNat:Int) == 43)=false:=by rw [beq_eq_false_iff_ne,<-HXX.out];exact n43
 have q45:((s[i].toNat:Int) == 45)=false:=by rw [beq_eq_false_iff_ne,<-HXX.out];exact n45
 have q116:((s[i].toNat:Int) == 116)=false:=by rw [beq_eq_false_iff_ne,<-HXX.out];exact n116
 have q102:((s[i].toNat:Int) == 102)=false:=by rw [beq_eq_false_iff_ne,<-HXX.out];exact n102
 have CD:Hid (∀w,Calls Tryz.prog 84 #[.int .u8 (s[i].toNat:Int)] w fun e w'=>e=.returned (.bool false)/\w'=w):=fun w=>by
  have:=dDigit_any s[i] w
  rw [<-HXX.out,ndg] at this
  rw [<-HXX.out]
  exact this
 have CF:Hid (∀w,Dt w B P R s now d (.ok i) ns own->Calls Tryz.prog 55 #[.pointer (some ⟨R,0,none⟩),.int .i64 2,.int .i64 (i:Nat)] w fun e w'=>e=.returned (.tuple #[])/\Dt w' B P R s now d (.error (2,i)) ns own/\DFr B P w w'):=fun w h=>qFail B P R s now d ns own i w h 2 (by decide) i
 clear h V W hk2 HXX n34 nin ntf n91 n43 n45 ndg n116 n102
 go_enter Tryz.func57,Tryz.ntmps57
 go_wp2
 go_quiet (fail)
 have HDA:=HD.out.drew nq
 have HDA1:Hid (Dt (w.drewN nq) B P R s now d (.ok i) ns own):=HDA.1
 have HFA:Hid (DFr B P w (w.drewN nq)):=HDA.2
 obtain ⟨wA,hwA⟩:∃W,w.drewN nq=W:=⟨_,rfl⟩
 rw [hwA] at HDA1 HFA ⊢
 obtain ⟨d0,d1,d5,-,-,-,-⟩:=HDA1.out.cells
 clear hwA HDA c0 c1 c5
 go_wp2
 go_quiet (fail)
 have HDB:=HDA1.out.drew nq
 have HDB1:Hid (Dt (wA.drewN nq) B P R s now d (.ok i) ns own):=HDB.1
 have HFB:Hid (DFr B P w (wA.drewN nq)):=HFA.out.two HDB.2
 obtain ⟨wB,hwB⟩:∃W,wA.drewN nq=W:=⟨_,rfl⟩
 rw [hwB] at HDB1 HFB ⊢
 obtain ⟨g0,g1,g5,-,-,-,-⟩:=HDB1.out.cells
 clear hwB HDB d0 d1 d5
 go_wp2_with (first | (go_at_call 84;refine (CD.out _).mono ?_;rintro e w' ⟨rfl,rfl⟩) | (go_at_call 55;refine (CF.out _ HDB1.out).mono ?_;rintro e w2 ⟨rfl,hd2,hf2⟩))
 refine bodyPost_end (results_none rfl _ _ _) rfl ?_
 exact ⟨rfl,fun j ns' hh=>(by cases hh),fun c hh=>(by cases hh;exact hd2.fq),HFB.out.two hf2⟩
theorem Dt.setI {w:World} {B P R:Nat} {s:ByteArray} {now de i:Nat} {ns:List Tn} {own:List Nat} (h:Dt w B P R s now de (.ok i) ns own) (j:Nat) (hj:j<=s.size):Dt (w.setCell ⟨R,1,none⟩ (.int .i64 (j:Nat))) B P R s now de (.ok j) ns own/\DFr B P w (w.setCell ⟨R,1,none⟩ (.int .i64 (j:Nat))) :=
 h.keep (fun L O hd=>⟨hj,hd.2.setI j⟩) (gb_set (gb_refl w (some R)) 1 _)
set_option maxRecDepth 100000 in
set_option maxHeartbeats 3200000 in
theorem dVal_t (f:Nat) (B P R:Nat) (s:ByteArray) (own:List Nat) (now i up:Nat) (k:List UInt8) (p d:Nat) (ns:List Tn) (w:World) (h:Dt w B P R s now d (.ok i) ns own) (hs:s.size<=100000) (W:WF ns own) (V:WT ns) (hu:up < ns.length) (hk2:¬ kdAt ns up=2) (hd:d<=8) (hsz:ns.length+(s.size - i)<=700000) (hf:2 * (s.size - i)+1<=f+1) (hx:nx s.data.toList i=116\/nx s.data.toList i=102) :
  Calls Tryz.prog 57 #[.pointer (some ⟨R,0,none⟩),.int .i64 (up:Nat),.string ⟨k.toArray⟩,.int .i64 (p:Nat)] w (DvPost B P R s now d own (val s.data.toList (f+1) i up k p d ns) w):=by
 have hl:s.data.toList.length=s.size:=by simp
 obtain ⟨c0,c1,c5,-,-,hi,-⟩:=h.cells
 have HD:Hid (Dt w B P R s now d (.ok i) ns own):=h
 rw [val_t _ _ _ _ _ _ _ _ hx]
 have hlt0:i < s.size:=by
  have:=nx_lt (l:=s.data.toList) (i:=i) (by rcases hx with h | h <;> rw [h] <;> decide)
  omega
 have hlt:i < s.size:=hlt0
 have hge:decide ((s.size:Int)<=(i:Int))=false:=by simp;omega
 have hge2:¬ (s.size:Int)<=(i:Int):=by omega
 have HXX:Hid (nx s.data.toList i=(s[i].toNat:Int)):=byte_at s i hlt
 have q34:((s[i].toNat:Int) == 34)=false:=by rw [beq_eq_false_iff_ne,<-HXX.out];rcases hx with h | h <;> rw [h] <;> decide
 have q91:((s[i].toNat:Int) == 91)=false:=by rw [beq_eq_false_iff_ne,<-HXX.out];rcases hx with h | h <;> rw [h] <;> decide
 have q43:((s[i].toNat:Int) == 43)=false:=by rw [beq_eq_false_iff_ne,<-HXX.out];rcases hx with h | h <;> rw [h] <;> decide
 have q45:((s[i].toNat:Int) == 45)=false:=by rw [beq_eq_false_iff_ne,<-HXX.out];rcases hx with h | h <;> rw [h] <;> decide
 have ndg:isDg (nx s.data.toList i)=false:=by rcases hx with h | h <;> rw [h] <;> decide
 have CD:Hid (∀w,Calls Tryz.prog 84 #[.int .u8 (s[i].toNat:Int)] w fun e w'=>e=.returned (.bool false)/\w'=w):=fun w=>by
  have:=dDigit_any s[i] w
  rw [<-HXX.out,ndg] at this
  rw [<-HXX.out]
  exact this
 have HOR:Hid (((s[i].toNat:Int) == 116)=true\/(((s[i].toNat:Int) == 116)=false/\((s[i].toNat:Int) == 102)=true)):=by
  show _\/_
  rw [<-HXX.out]
  rcases hx with h | h
  ·left;rw [h];rfl
  ·right;rw [h];exact ⟨rfl,rfl⟩
 have CA:Hid (∀(q:Rs Nat) (t:Int) w,Dt w B P R s now d q ns own->Calls Tryz.prog 17 #[.pointer (some ⟨R,0,none⟩),.int .i64 (up:Nat),.agg #[.int .i64 5,.string ⟨k.toArray⟩,.string ⟨#[]⟩,.int .i64 t,.slice none 0 0,.int .i64 (p:Nat)]] w (DaPost B P R s now d q ns own (addN ns up ⟨5,k,[],t,[],p⟩) w)):=fun q t w h=>dAdd_any B P R s now d q ns own up 5 t k [] p w h W hu (by omega)
 have CF:Hid (∀j w,Dt w B P R s now d (.ok j) ns own->Calls Tryz.prog 55 #[.pointer (some ⟨R,0,none⟩),.int .i64 2,.int .i64 (i:Nat)] w fun e w'=>e=.returned (.tuple #[])/\Dt w' B P R s now d (.error (2,i)) ns own/\DFr B P w w'):=fun j w h=>qFail B P R s now d ns own j w h 2 (by decide) i
 have HST:Hid (∀k (hk:k < s.size),isSm (s[k].toNat:Int)=true->toR isSm s.data.toList k=toR isSm s.data.toList (k+1)):=fun k hk hb=>toR_step isSm _ k (by omega) (by rw [byte_at s k hk];exact hb)
 have HSP:Hid (∀k (hk:k < s.size),isSm (s[k].toNat:Int)=false->toR isSm s.data.toList k=k):=fun k hk hb=>toR_stop isSm _ k (by rw [byte_at s k hk];exact hb)
 have HEN:Hid (∀k,s.size<=k->toR isSm s.data.toList k=k):=fun k hk=>toR_end isSm _ k (by omega)
 obtain ⟨Q,hQ⟩:∃Q:Rs (Nat × List Tn),(vFin (fun n=>addN ns up ⟨5,k,[],n,[],p⟩) (rdTru s.data.toList i))=Q:=⟨_,rfl⟩
 have HQ:Hid (vFin (fun n=>addN ns up ⟨5,k,[],n,[],p⟩) (if subT s.data.toList i (toR isSm s.data.toList i - i)=[116,114,117,101] then .ok (1,toR isSm s.data.toList i) else if subT s.data.toList i (toR isSm s.data.toList i - i)=[102,97,108,115,101] then .ok (0,toR isSm s.data.toList i) else .error (2,i))=Q):=by
  show _=_
  rw [<-rdTru_eq];exact hQ
 rw [hQ]
 clear h hx hQ V W hk2 HXX ndg
 go_enter Tryz.func57,Tryz.ntmps57
 go_wp2
 go_quiet (fail)
 have HDA:=HD.out.drew nq
 have HDA1:Hid (Dt (w.drewN nq) B P R s now d (.ok i) ns own):=HDA.1
 have HFA:Hid (DFr B P w (w.drewN nq)):=HDA.2
 obtain ⟨wA,hwA⟩:∃W,w.drewN nq=W:=⟨_,rfl⟩
 rw [hwA] at HDA1 HFA ⊢
 obtain ⟨d0,d1,d5,-,-,-,-⟩:=HDA1.out.cells
 clear hwA HDA c0 c1 c5
 go_wp2
 go_quiet (fail)
 have HDB:=HDA1.out.drew nq
 have HDB1:Hid (Dt (wA.drewN nq) B P R s now d (.ok i) ns own):=HDB.1
 have HFB:Hid (DFr B P w (wA.drewN nq)):=HFA.out.two HDB.2
 obtain ⟨wB,hwB⟩:∃W,wA.drewN nq=W:=⟨_,rfl⟩
 rw [hwB] at HDB1 HFB ⊢
 obtain ⟨g0,g1,g5,-,-,-,-⟩:=HDB1.out.cells
 clear hwB HDB d0 d1 d5
 rcases HOR.out with q116 | ⟨q116,q102⟩
 ·go_wp2_with (first | (go_at_call 84;refine (CD.out _).mono ?_;rintro e w' ⟨rfl,rfl⟩))
  go_loopw [] (fun wr=>∃j:Nat,Dt wr B P R s now d (.ok j) ns own/\i<=j/\toR isSm s.data.toList j=toR isSm s.data.toList i/\DFr B P w wr) (fun wr=>s.size - dI wr R)
  case atStart=>exact ⟨i,HDB1.out,Nat.le_refl _,rfl,HFB.out⟩
  case round =>
   obtain ⟨j,hdj,hij,hto,hfj⟩:=hrel
   obtain ⟨e0,e1,e5,-,-,hj,ef⟩:=hdj.cells
   have ef1:=ef 1
   have HDJ:Hid (Dt wr B P R s now d (.ok j) ns own):=hdj
   have HFJ:Hid (DFr B P w wr):=hfj
   have HTO:Hid (toR isSm s.data.toList j=toR isSm s.data.toList i):=hto
   have HME:Hid (dI wr R=j):=by show dI wr R=j;unfold dI;rw [e1];simp
   clear hdj hto hfj ef
   by_cases hjl:j < s.size
   ·have hlt':decide ((j:Int) < (s.size:Int))=true:=by simp;omega
    have H1:Hid (isSm (s[j].toNat:Int)=true->toR isSm s.data.toList j=toR isSm s.data.toList (j+1)):=HST.out j hjl
    have H2:Hid (isSm (s[j].toNat:Int)=false->toR isSm s.data.toList j=j):=HSP.out j hjl
    have HSM:Hid (isSm (s[j].toNat:Int)=decide (97<=(s[j].toNat:Int)/\(s[j].toNat:Int)<=122)):=rfl
    by_cases h97:97<=(s[j].toNat:Int)
    ·have g97:decide (97<=(s[j].toNat:Int))=true:=by simpa using h97
     by_cases h122:(s[j].toNat:Int)<=122
     ·have g122:decide ((s[j].toNat:Int)<=122)=true:=by simpa using h122
      have HN:Hid (toR isSm s.data.toList (j+1)=toR isSm s.data.toList i):=(H1.out (by rw [HSM.out,decide_eq_true ⟨h97,h122⟩])).symm.trans HTO.out
      go_wp2
      go_quiet (fail)
      have HDC:=HDJ.out.drew nq
      have HDC1:Hid (Dt (wr.drewN nq) B P R s now d (.ok j) ns own):=HDC.1
      have HFC:Hid (DFr B P w (wr.drewN nq)):=HFJ.out.two HDC.2
      obtain ⟨wC,hwC⟩:∃W,wr.drewN nq=W:=⟨_,rfl⟩
      rw [hwC] at HDC1 HFC ⊢
      obtain ⟨k0,k1,k5,-,-,-,kf⟩:=HDC1.out.cells
      have kf1:=kf 1
      have HSS:=HDC1.out.setI (j+1) (by omega)
      have HS1:Hid (Dt (wC.setCell ⟨R,1,none⟩ (.int .i64 ((j:Int)+1))) B P R s now d (.ok (j+1)) ns own):=HSS.1
      have HS2:Hid (DFr B P w (wC.setCell ⟨R,1,none⟩ (.int .i64 ((j:Int)+1)))):=HFC.out.two HSS.2
      clear hwC HDC kf HSS
      go_wp2
      refine ⟨⟨j+1,HS1.out,by omega,HN.out,HS2.out⟩,?_⟩
      have e9:dI (wC.setCell ⟨R,1,none⟩ (.int .i64 ((j:Int)+1))) R=j+1:=by
       unfold dI;rw [HS1.out.cells.2.1];simp
      rw [HME.out,e9]
      omega
     ·have g122:decide ((s[j].toNat:Int)<=122)=false:=by simpa using h122
      have HJ:Hid (toR isSm s.data.toList i=j):=HTO.out.symm.trans (H2.out (by rw [HSM.out,decide_eq_false (fun h=>h122 h.2)]))
      go_wp2
      go_quiet (fail)
      have HDC:=HDJ.out.drew nq
      have HDC1:Hid (Dt (wr.drewN nq) B P R s now d (.ok j) ns own):=HDC.1
      have HFC:Hid (DFr B P w (wr.drewN nq)):=HFJ.out.two HDC.2
      obtain ⟨wC,hwC⟩:∃W,wr.drewN nq=W:=⟨_,rfl⟩
      rw [hwC] at HDC1 HFC ⊢
      obtain ⟨k0,k1,k5,-,-,-,-⟩:=HDC1.out.cells
      clear hwC HDC
      have HQJ:=HQ.out
      rw [HJ.out] at HQJ
      obtain ⟨X,hX⟩:∃X,subT s.data.toList i (j - i)=X:=⟨_,rfl⟩
      have sl:∀wx,(Instr.slice 9 (.string s) (some (.int .i64 (i:Int))) (some (.int .i64 (j:Int))) none).run Tryz.prog wx=.ok (.string ⟨X.toArray⟩) wx:=fun wx=>by
       rw [<-hX];exact run_sub s i j hij hj wx
      rw [hX] at HQJ
      have HQX:Hid (vFin (fun n=>addN ns up ⟨5,k,[],n,[],p⟩) (if X=[116,114,117,101] then .ok (1,j) else if X=[102,97,108,115,101] then .ok (0,j) else .error (2,i))=Q):=HQJ
      clear hX HQJ
      by_cases hT:X=[116,114,117,101]
      ·have bT:(X == [116,114,117,101])=true:=by simpa using hT
       have HQ2:Hid (Q=.ok (j,addN ns up ⟨5,k,[],1,[],p⟩)):=by
        have:=HQX.out
        rw [if_pos hT] at this
        exact this.symm
       clear hT
       go_wp2
       go_quiet (fail)
       have HDE:=HDC1.out.drew nq
       have HDE1:Hid (Dt (wC.drewN nq) B P R s now d (.ok j) ns own):=HDE.1
       have HFE:Hid (DFr B P w (wC.drewN nq)):=HFC.out.two HDE.2
       obtain ⟨wE,hwE⟩:∃W,wC.drewN nq=W:=⟨_,rfl⟩
       rw [hwE] at HDE1 HFE ⊢
       clear hwE HDE k0 k1 k5
       go_wp2_with (first | (go_at_call 17;refine (CA.out _ 1 _ HDE1.out).mono ?_;rintro e w3 ⟨rfl,hd3,hf3⟩))
       refine bodyPost_end (results_none rfl _ _ _) rfl ?_
       rw [HQ2.out]
       exact ⟨rfl,fun j ns' hh=>(by cases hh;exact hd3),fun c' hh=>(by cases hh),HFE.out.two hf3⟩
      ·have bT:(X == [116,114,117,101])=false:=by simpa using hT
       by_cases hF:X=[102,97,108,115,101]
       ·have bF:(X == [102,97,108,115,101])=true:=by simpa using hF
        have bG:(X != [102,97,108,115,101])=false:=by simpa using hF
        have HQ2:Hid (Q=.ok (j,addN ns up ⟨5,k,[],0,[],p⟩)):=by
         have:=HQX.out
         rw [if_neg hT,if_pos hF] at this
         exact this.symm
        clear hT hF
        go_wp2
        go_quiet (fail)
        have HDE:=HDC1.out.drew nq
        have HDE1:Hid (Dt (wC.drewN nq) B P R s now d (.ok j) ns own):=HDE.1
        have HFE:Hid (DFr B P w (wC.drewN nq)):=HFC.out.two HDE.2
        obtain ⟨wE,hwE⟩:∃W,wC.drewN nq=W:=⟨_,rfl⟩
        rw [hwE] at HDE1 HFE ⊢
        clear hwE HDE k0 k1 k5
        go_wp2_with (first | (go_at_call 17;refine (CA.out _ 0 _ HDE1.out).mono ?_;rintro e w3 ⟨rfl,hd3,hf3⟩))
        refine bodyPost_end (results_none rfl _ _ _) rfl ?_
        rw [HQ2.out]
        exact ⟨rfl,fun j ns' hh=>(by cases hh;exact hd3),fun c' hh=>(by cases hh),HFE.out.two hf3⟩
       ·have bF:(X == [102,97,108,115,101])=false:=by simpa using hF
        have bG:(X != [102,97,108,115,101])=true:=by simpa using hF
        have HQ2:Hid (Q=.error (2,i)):=by
         have:=HQX.out
         rw [if_neg hT,if_neg hF] at this
         exact this.symm
        clear hT hF
        go_wp2
        go_quiet (fail)
        have HDE:=HDC1.out.drew nq
        have HDE1:Hid (Dt (wC.drewN nq) B P R s now d (.ok j) ns own):=HDE.1
        have HFE:Hid (DFr B P w (wC.drewN nq)):=HFC.out.two HDE.2
        obtain ⟨wE,hwE⟩:∃W,wC.drewN nq=W:=⟨_,rfl⟩
        rw [hwE] at HDE1 HFE ⊢
        clear hwE HDE k0 k1 k5
        go_wp2_with (first | (go_at_call 55;refine (CF.out j _ HDE1.out).mono ?_;rintro e w3 ⟨rfl,hd3,hf3⟩) | (go_at_call 17;refine (CA.out _ 0 _ hd3).mono ?_;rintro e w4 ⟨rfl,hd4,hf4⟩))
        refine bodyPost_end (results_none rfl _ _ _) rfl ?_
        rw [HQ2.out]
        exact ⟨rfl,fun j ns' hh=>(by cases hh),fun c' hh=>(by cases hh;exact hd4.fq),(HFE.out.two hf3).two hf4⟩
    ·have g97:decide (97<=(s[j].toNat:Int))=false:=by simpa using h97
     have HJ:Hid (toR isSm s.data.toList i=j):=HTO.out.symm.trans (H2.out (by rw [HSM.out,decide_eq_false (fun h=>h97 h.1)]))
     go_wp2
     go_quiet (fail)
     have HDC:=HDJ.out.drew nq
     have HDC1:Hid (Dt (wr.drewN nq) B P R s now d (.ok j) ns own):=HDC.1
     have HFC:Hid (DFr B P w (wr.drewN nq)):=HFJ.out.two HDC.2
     obtain ⟨wC,hwC⟩:∃W,wr.drewN nq=W:=⟨_,rfl⟩
     rw [hwC] at HDC1 HFC ⊢
     obtain ⟨k0,k1,k5,-,-,-,-⟩:=HDC1.out.cells
     clear hwC HDC
     have HQJ:=HQ.out
     rw [HJ.out] at HQJ
     obtain ⟨X,hX⟩:∃X,subT s.data.toList i (j - i)=X:=⟨_,rfl⟩
     have sl:∀wx,(Instr.slice 9 (.string s) (some (.int .i64 (i:Int))) (some (.int .i64 (j:Int))) none).run Tryz.prog wx=.ok (.string ⟨X.toArray⟩) wx:=fun wx=>by
      rw [<-hX];exact run_sub s i j hij hj wx
     rw [hX] at HQJ
     have HQX:Hid (vFin (fun n=>addN ns up ⟨5,k,[],n,[],p⟩) (if X=[116,114,117,101] then .ok (1,j) else if X=[102,97,108,115,101] then .ok (0,j) else .error (2,i))=Q):=HQJ
     clear hX HQJ
     by_cases hT:X=[116,114,117,101]
     ·have bT:(X == [116,114,117,101])=true:=by simpa using hT
      have HQ2:Hid (Q=.ok (j,addN ns up ⟨5,k,[],1,[],p⟩)):=by
       have:=HQX.out
       rw [if_pos hT] at this
       exact this.symm
      clear hT
      go_wp2
      go_quiet (fail)
      have HDE:=HDC1.out.drew nq
      have HDE1:Hid (Dt (wC.drewN nq) B P R s now d (.ok j) ns own):=HDE.1
      have HFE:Hid (DFr B P w (wC.drewN nq)):=HFC.out.two HDE.2
      obtain ⟨wE,hwE⟩:∃W,wC.drewN nq=W:=⟨_,rfl⟩
      rw [hwE] at HDE1 HFE ⊢
      clear hwE HDE k0 k1 k5
      go_wp2_with (first | (go_at_call 17;refine (CA.out _ 1 _ HDE1.out).mono ?_;rintro e w3 ⟨rfl,hd3,hf3⟩))
      refine bodyPost_end (results_none rfl _ _ _) rfl ?_
      rw [HQ2.out]
      exact ⟨rfl,fun j ns' hh=>(by cases hh;exact hd3),fun c' hh=>(by cases hh),HFE.out.two hf3⟩
     ·have bT:(X == [116,114,117,101])=false:=by simpa using hT
      by_cases hF:X=[102,97,108,115,101]
      ·have bF:(X == [102,97,108,115,101])=true:=by simpa using hF
       have bG:(X != [102,97,108,115,101])=false:=by simpa using hF
       have HQ2:Hid (Q=.ok (j,addN ns up ⟨5,k,[],0,[],p⟩)):=by
        have:=HQX.out
        rw [if_neg hT,if_pos hF] at this
        exact this.symm
       clear hT hF
       go_wp2
       go_quiet (fail)
       have HDE:=HDC1.out.drew nq
       have HDE1:Hid (Dt (wC.drewN nq) B P R s now d (.ok j) ns own):=HDE.1
       have HFE:Hid (DFr B P w (wC.drewN nq)):=HFC.out.two HDE.2
       obtain ⟨wE,hwE⟩:∃W,wC.drewN nq=W:=⟨_,rfl⟩
       rw [hwE] at HDE1 HFE ⊢
       clear hwE HDE k0 k1 k5
       go_wp2_with (first | (go_at_call 17;refine (CA.out _ 0 _ HDE1.out).mono ?_;rintro e w3 ⟨rfl,hd3,hf3⟩))
       refine bodyPost_end (results_none rfl _ _ _) rfl ?_
       rw [HQ2.out]
       exact ⟨rfl,fun j ns' hh=>(by cases hh;exact hd3),fun c' hh=>(by cases hh),HFE.out.two hf3⟩
      ·have bF:(X == [102,97,108,115,101])=false:=by simpa using hF
       have bG:(X != [102,97,108,115,101])=true:=by simpa using hF
       have HQ2:Hid (Q=.error (2,i)):=by
        have:=HQX.out
        rw [if_neg hT,if_neg hF] at this
        exact this.symm
       clear hT hF
       go_wp2
       go_quiet (fail)
       have HDE:=HDC1.out.drew nq
       have HDE1:Hid (Dt (wC.drewN nq) B P R s now d (.ok j) ns own):=HDE.1
       have HFE:Hid (DFr B P w (wC.drewN nq)):=HFC.out.two HDE.2
       obtain ⟨wE,hwE⟩:∃W,wC.drewN nq=W:=⟨_,rfl⟩
       rw [hwE] at HDE1 HFE ⊢
       clear hwE HDE k0 k1 k5
       go_wp2_with (first | (go_at_call 55;refine (CF.out j _ HDE1.out).mono ?_;rintro e w3 ⟨rfl,hd3,hf3⟩) | (go_at_call 17;refine (CA.out _ 0 _ hd3).mono ?_;rintro e w4 ⟨rfl,hd4,hf4⟩))
       refine bodyPost_end (results_none rfl _ _ _) rfl ?_
       rw [HQ2.out]
       exact ⟨rfl,fun j ns' hh=>(by cases hh),fun c' hh=>(by cases hh;exact hd4.fq),(HFE.out.two hf3).two hf4⟩
   ·have hge':decide ((j:Int) < (s.size:Int))=false:=by simp;omega
    have HJ:Hid (toR isSm s.data.toList i=j):=HTO.out.symm.trans (HEN.out j (by omega))
    go_wp2
    go_quiet (fail)
    have HDC:=HDJ.out.drew nq
    have HDC1:Hid (Dt (wr.drewN nq) B P R s now d (.ok j) ns own):=HDC.1
    have HFC:Hid (DFr B P w (wr.drewN nq)):=HFJ.out.two HDC.2
    obtain ⟨wC,hwC⟩:∃W,wr.drewN nq=W:=⟨_,rfl⟩
    rw [hwC] at HDC1 HFC ⊢
    obtain ⟨k0,k1,k5,-,-,-,-⟩:=HDC1.out.cells
    clear hwC HDC
    have HQJ:=HQ.out
    rw [HJ.out] at HQJ
    obtain ⟨X,hX⟩:∃X,subT s.data.toList i (j - i)=X:=⟨_,rfl⟩
    have sl:∀wx,(Instr.slice 9 (.string s) (some (.int .i64 (i:Int))) (some (.int .i64 (j:Int))) none).run Tryz.prog wx=.ok (.string ⟨X.toArray⟩) wx:=fun wx=>by
     rw [<-hX];exact run_sub s i j hij hj wx
    rw [hX] at HQJ
    have HQX:Hid (vFin (fun n=>addN ns up ⟨5,k,[],n,[],p⟩) (if X=[116,114,117,101] then .ok (1,j) else if X=[102,97,108,115,101] then .ok (0,j) else .error (2,i))=Q):=HQJ
    clear hX HQJ
    by_cases hT:X=[116,114,117,101]
    ·have bT:(X == [116,114,117,101])=true:=by simpa using hT
     have HQ2:Hid (Q=.ok (j,addN ns up ⟨5,k,[],1,[],p⟩)):=by
      have:=HQX.out
      rw [if_pos hT] at this
      exact this.symm
     clear hT
     go_wp2
     go_quiet (fail)
     have HDE:=HDC1.out.drew nq
     have HDE1:Hid (Dt (wC.drewN nq) B P R s now d (.ok j) ns own):=HDE.1
     have HFE:Hid (DFr B P w (wC.drewN nq)):=HFC.out.two HDE.2
     obtain ⟨wE,hwE⟩:∃W,wC.drewN nq=W:=⟨_,rfl⟩
     rw [hwE] at HDE1 HFE ⊢
     clear hwE HDE k0 k1 k5
     go_wp2_with (first | (go_at_call 17;refine (CA.out _ 1 _ HDE1.out).mono ?_;rintro e w3 ⟨rfl,hd3,hf3⟩))
     refine bodyPost_end (results_none rfl _ _ _) rfl ?_
     rw [HQ2.out]
     exact ⟨rfl,fun j ns' hh=>(by cases hh;exact hd3),fun c' hh=>(by cases hh),HFE.out.two hf3⟩
    ·have bT:(X == [116,114,117,101])=false:=by simpa using hT
     by_cases hF:X=[102,97,108,115,101]
     ·have bF:(X == [102,97,108,115,101])=true:=by simpa using hF
      have bG:(X != [102,97,108,115,101])=false:=by simpa using hF
      have HQ2:Hid (Q=.ok (j,addN ns up ⟨5,k,[],0,[],p⟩)):=by
       have:=HQX.out
       rw [if_neg hT,if_pos hF] at this
       exact this.symm
      clear hT hF
      go_wp2
      go_quiet (fail)
      have HDE:=HDC1.out.drew nq
      have HDE1:Hid (Dt (wC.drewN nq) B P R s now d (.ok j) ns own):=HDE.1
      have HFE:Hid (DFr B P w (wC.drewN nq)):=HFC.out.two HDE.2
      obtain ⟨wE,hwE⟩:∃W,wC.drewN nq=W:=⟨_,rfl⟩
      rw [hwE] at HDE1 HFE ⊢
      clear hwE HDE k0 k1 k5
      go_wp2_with (first | (go_at_call 17;refine (CA.out _ 0 _ HDE1.out).mono ?_;rintro e w3 ⟨rfl,hd3,hf3⟩))
      refine bodyPost_end (results_none rfl _ _ _) rfl ?_
      rw [HQ2.out]
      exact ⟨rfl,fun j ns' hh=>(by cases hh;exact hd3),fun c' hh=>(by cases hh),HFE.out.two hf3⟩
     ·have bF:(X == [102,97,108,115,101])=false:=by simpa using hF
      have bG:(X != [102,97,108,115,101])=true:=by simpa using hF
      have HQ2:Hid (Q=.error (2,i)):=by
       have:=HQX.out
       rw [if_neg hT,if_neg hF] at this
       exact this.symm
      clear hT hF
      go_wp2
      go_quiet (fail)
      have HDE:=HDC1.out.drew nq
      have HDE1:Hid (Dt (wC.drewN nq) B P R s now d (.ok j) ns own):=HDE.1
      have HFE:Hid (DFr B P w (wC.drewN nq)):=HFC.out.two HDE.2
      obtain ⟨wE,hwE⟩:∃W,wC.drewN nq=W:=⟨_,rfl⟩
      rw [hwE] at HDE1 HFE ⊢
      clear hwE HDE k0 k1 k5
      go_wp2_with (first | (go_at_call 55;refine (CF.out j _ HDE1.out).mono ?_;rintro e w3 ⟨rfl,hd3,hf3⟩) | (go_at_call 17;refine (CA.out _ 0 _ hd3).mono ?_;rintro e w4 ⟨rfl,hd4,hf4⟩))
      refine bodyPost_end (results_none rfl _ _ _) rfl ?_
      rw [HQ2.out]
      exact ⟨rfl,fun j ns' hh=>(by cases hh),fun c' hh=>(by cases hh;exact hd4.fq),(HFE.out.two hf3).two hf4⟩
 ·go_wp2_with (first | (go_at_call 84;refine (CD.out _).mono ?_;rintro e w' ⟨rfl,rfl⟩))
  go_loopw [] (fun wr=>∃j:Nat,Dt wr B P R s now d (.ok j) ns own/\i<=j/\toR isSm s.data.toList j=toR isSm s.data.toList i/\DFr B P w wr) (fun wr=>s.size - dI wr R)
  case atStart=>exact ⟨i,HDB1.out,Nat.le_refl _,rfl,HFB.out⟩
  case round =>
   obtain ⟨j,hdj,hij,hto,hfj⟩:=hrel
   obtain ⟨e0,e1,e5,-,-,hj,ef⟩:=hdj.cells
   have ef1:=ef 1
   have HDJ:Hid (Dt wr B P R s now d (.ok j) ns own):=hdj
   have HFJ:Hid (DFr B P w wr):=hfj
   have HTO:Hid (toR isSm s.data.toList j=toR isSm s.data.toList i):=hto
   have HME:Hid (dI wr R=j):=by show dI wr R=j;unfold dI;rw [e1];simp
   clear hdj hto hfj ef
   by_cases hjl:j < s.size
   ·have hlt':decide ((j:Int) < (s.size:Int))=true:=by simp;omega
    have H1:Hid (isSm (s[j].toNat:Int)=true->toR isSm s.data.toList j=toR isSm s.data.toList (j+1)):=HST.out j hjl
    have H2:Hid (isSm (s[j].toNat:Int)=false->toR isSm s.data.toList j=j):=HSP.out j hjl
    have HSM:Hid (isSm (s[j].toNat:Int)=decide (97<=(s[j].toNat:Int)/\(s[j].toNat:Int)<=122)):=rfl
    by_cases h97:97<=(s[j].toNat:Int)
    ·have g97:decide (97<=(s[j].toNat:Int))=true:=by simpa using h97
     by_cases h122:(s[j].toNat:Int)<=122
     ·have g122:decide ((s[j].toNat:Int)<=122)=true:=by simpa using h122
      have HN:Hid (toR isSm s.data.toList (j+1)=toR isSm s.data.toList i):=(H1.out (by rw [HSM.out,decide_eq_true ⟨h97,h122⟩])).symm.trans HTO.out
      go_wp2
      go_quiet (fail)
      have HDC:=HDJ.out.drew nq
      have HDC1:Hid (Dt (wr.drewN nq) B P R s now d (.ok j) ns own):=HDC.1
      have HFC:Hid (DFr B P w (wr.drewN nq)):=HFJ.out.two HDC.2
      obtain ⟨wC,hwC⟩:∃W,wr.drewN nq=W:=⟨_,rfl⟩
      rw [hwC] at HDC1 HFC ⊢
      obtain ⟨k0,k1,k5,-,-,-,kf⟩:=HDC1.out.cells
      have kf1:=kf 1
      have HSS:=HDC1.out.setI (j+1) (by omega)
      have HS1:Hid (Dt (wC.setCell ⟨R,1,none⟩ (.int .i64 ((j:Int)+1))) B P R s now d (.ok (j+1)) ns own):=HSS.1
      have HS2:Hid (DFr B P w (wC.setCell ⟨R,1,none⟩ (.int .i64 ((j:Int)+1)))):=HFC.out.two HSS.2
      clear hwC HDC kf HSS
      go_wp2
      refine ⟨⟨j+1,HS1.out,by omega,HN.out,HS2.out⟩,?_⟩
      have e9:dI (wC.setCell ⟨R,1,none⟩ (.int .i64 ((j:Int)+1))) R=j+1:=by
       unfold dI;rw [HS1.out.cells.2.1];simp
      rw [HME.out,e9]
      omega
     ·have g122:decide ((s[j].toNat:Int)<=122)=false:=by simpa using h122
      have HJ:Hid (toR isSm s.data.toList i=j):=HTO.out.symm.trans (H2.out (by rw [HSM.out,decide_eq_false (fun h=>h122 h.2)]))
      go_wp2
      go_quiet (fail)
      have HDC:=HDJ.out.drew nq
      have HDC1:Hid (Dt (wr.drewN nq) B P R s now d (.ok j) ns own):=HDC.1
      have HFC:Hid (DFr B P w (wr.drewN nq)):=HFJ.out.two HDC.2
      obtain ⟨wC,hwC⟩:∃W,wr.drewN nq=W:=⟨_,rfl⟩
      rw [hwC] at HDC1 HFC ⊢
      obtain ⟨k0,k1,k5,-,-,-,-⟩:=HDC1.out.cells
      clear hwC HDC
      have HQJ:=HQ.out
      rw [HJ.out] at HQJ
      obtain ⟨X,hX⟩:∃X,subT s.data.toList i (j - i)=X:=⟨_,rfl⟩
      have sl:∀wx,(Instr.slice 9 (.string s) (some (.int .i64 (i:Int))) (some (.int .i64 (j:Int))) none).run Tryz.prog wx=.ok (.string ⟨X.toArray⟩) wx:=fun wx=>by
       rw [<-hX];exact run_sub s i j hij hj wx
      rw [hX] at HQJ
      have HQX:Hid (vFin (fun n=>addN ns up ⟨5,k,[],n,[],p⟩) (if X=[116,114,117,101] then .ok (1,j) else if X=[102,97,108,115,101] then .ok (0,j) else .error (2,i))=Q):=HQJ
      clear hX HQJ
      by_cases hT:X=[116,114,117,101]
      ·have bT:(X == [116,114,117,101])=true:=by simpa using hT
       have HQ2:Hid (Q=.ok (j,addN ns up ⟨5,k,[],1,[],p⟩)):=by
        have:=HQX.out
        rw [if_pos hT] at this
        exact this.symm
       clear hT
       go_wp2
       go_quiet (fail)
       have HDE:=HDC1.out.drew nq
       have HDE1:Hid (Dt (wC.drewN nq) B P R s now d (.ok j) ns own):=HDE.1
       have HFE:Hid (DFr B P w (wC.drewN nq)):=HFC.out.two HDE.2
       obtain ⟨wE,hwE⟩:∃W,wC.drewN nq=W:=⟨_,rfl⟩
       rw [hwE] at HDE1 HFE ⊢
       clear hwE HDE k0 k1 k5
       go_wp2_with (first | (go_at_call 17;refine (CA.out _ 1 _ HDE1.out).mono ?_;rintro e w3 ⟨rfl,hd3,hf3⟩))
       refine bodyPost_end (results_none rfl _ _ _) rfl ?_
       rw [HQ2.out]
       exact ⟨rfl,fun j ns' hh=>(by cases hh;exact hd3),fun c' hh=>(by cases hh),HFE.out.two hf3⟩
      ·have bT:(X == [116,114,117,101])=false:=by simpa using hT
       by_cases hF:X=[102,97,108,115,101]
       ·have bF:(X == [102,97,108,115,101])=true:=by simpa using hF
        have bG:(X != [102,97,108,115,101])=false:=by simpa using hF
        have HQ2:Hid (Q=.ok (j,addN ns up ⟨5,k,[],0,[],p⟩)):=by
         have:=HQX.out
         rw [if_neg hT,if_pos hF] at this
         exact this.symm
        clear hT hF
        go_wp2
        go_quiet (fail)
        have HDE:=HDC1.out.drew nq
        have HDE1:Hid (Dt (wC.drewN nq) B P R s now d (.ok j) ns own):=HDE.1
        have HFE:Hid (DFr B P w (wC.drewN nq)):=HFC.out.two HDE.2
        obtain ⟨wE,hwE⟩:∃W,wC.drewN nq=W:=⟨_,rfl⟩
        rw [hwE] at HDE1 HFE ⊢
        clear hwE HDE k0 k1 k5
        go_wp2_with (first | (go_at_call 17;refine (CA.out _ 0 _ HDE1.out).mono ?_;rintro e w3 ⟨rfl,hd3,hf3⟩))
        refine bodyPost_end (results_none rfl _ _ _) rfl ?_
        rw [HQ2.out]
        exact ⟨rfl,fun j ns' hh=>(by cases hh;exact hd3),fun c' hh=>(by cases hh),HFE.out.two hf3⟩
       ·have bF:(X == [102,97,108,115,101])=false:=by simpa using hF
        have bG:(X != [102,97,108,115,101])=true:=by simpa using hF
        have HQ2:Hid (Q=.error (2,i)):=by
         have:=HQX.out
         rw [if_neg hT,if_neg hF] at this
         exact this.symm
        clear hT hF
        go_wp2
        go_quiet (fail)
        have HDE:=HDC1.out.drew nq
        have HDE1:Hid (Dt (wC.drewN nq) B P R s now d (.ok j) ns own):=HDE.1
        have HFE:Hid (DFr B P w (wC.drewN nq)):=HFC.out.two HDE.2
        obtain ⟨wE,hwE⟩:∃W,wC.drewN nq=W:=⟨_,rfl⟩
        rw [hwE] at HDE1 HFE ⊢
        clear hwE HDE k0 k1 k5
        go_wp2_with (first | (go_at_call 55;refine (CF.out j _ HDE1.out).mono ?_;rintro e w3 ⟨rfl,hd3,hf3⟩) | (go_at_call 17;refine (CA.out _ 0 _ hd3).mono ?_;rintro e w4 ⟨rfl,hd4,hf4⟩))
        refine bodyPost_end (results_none rfl _ _ _) rfl ?_
        rw [HQ2.out]
        exact ⟨rfl,fun j ns' hh=>(by cases hh),fun c' hh=>(by cases hh;exact hd4.fq),(HFE.out.two hf3).two hf4⟩
    ·have g97:decide (97<=(s[j].toNat:Int))=false:=by simpa using h97
     have HJ:Hid (toR isSm s.data.toList i=j):=HTO.out.symm.trans (H2.out (by rw [HSM.out,decide_eq_false (fun h=>h97 h.1)]))
     go_wp2
     go_quiet (fail)
     have HDC:=HDJ.out.drew nq
     have HDC1:Hid (Dt (wr.drewN nq) B P R s now d (.ok j) ns own):=HDC.1
     have HFC:Hid (DFr B P w (wr.drewN nq)):=HFJ.out.two HDC.2
     obtain ⟨wC,hwC⟩:∃W,wr.drewN nq=W:=⟨_,rfl⟩
     rw [hwC] at HDC1 HFC ⊢
     obtain ⟨k0,k1,k5,-,-,-,-⟩:=HDC1.out.cells
     clear hwC HDC
     have HQJ:=HQ.out
     rw [HJ.out] at HQJ
     obtain ⟨X,hX⟩:∃X,subT s.data.toList i (j - i)=X:=⟨_,rfl⟩
     have sl:∀wx,(Instr.slice 9 (.string s) (some (.int .i64 (i:Int))) (some (.int .i64 (j:Int))) none).run Tryz.prog wx=.ok (.string ⟨X.toArray⟩) wx:=fun wx=>by
      rw [<-hX];exact run_sub s i j hij hj wx
     rw [hX] at HQJ
     have HQX:Hid (vFin (fun n=>addN ns up ⟨5,k,[],n,[],p⟩) (if X=[116,114,117,101] then .ok (1,j) else if X=[102,97,108,115,101] then .ok (0,j) else .error (2,i))=Q):=HQJ
     clear hX HQJ
     by_cases hT:X=[116,114,117,101]
     ·have bT:(X == [116,114,117,101])=true:=by simpa using hT
      have HQ2:Hid (Q=.ok (j,addN ns up ⟨5,k,[],1,[],p⟩)):=by
       have:=HQX.out
       rw [if_pos hT] at this
       exact this.symm
      clear hT
      go_wp2
      go_quiet (fail)
      have HDE:=HDC1.out.drew nq
      have HDE1:Hid (Dt (wC.drewN nq) B P R s now d (.ok j) ns own):=HDE.1
      have HFE:Hid (DFr B P w (wC.drewN nq)):=HFC.out.two HDE.2
      obtain ⟨wE,hwE⟩:∃W,wC.drewN nq=W:=⟨_,rfl⟩
      rw [hwE] at HDE1 HFE ⊢
      clear hwE HDE k0 k1 k5
      go_wp2_with (first | (go_at_call 17;refine (CA.out _ 1 _ HDE1.out).mono ?_;rintro e w3 ⟨rfl,hd3,hf3⟩))
      refine bodyPost_end (results_none rfl _ _ _) rfl ?_
      rw [HQ2.out]
      exact ⟨rfl,fun j ns' hh=>(by cases hh;exact hd3),fun c' hh=>(by cases hh),HFE.out.two hf3⟩
     ·have bT:(X == [116,114,117,101])=false:=by simpa using hT
      by_cases hF:X=[102,97,108,115,101]
      ·have bF:(X == [102,97,108,115,101])=true:=by simpa using hF
       have bG:(X != [102,97,108,115,101])=false:=by simpa using hF
       have HQ2:Hid (Q=.ok (j,addN ns up ⟨5,k,[],0,[],p⟩)):=by
        have:=HQX.out
        rw [if_neg hT,if_pos hF] at this
        exact this.symm
       clear hT hF
       go_wp2
       go_quiet (fail)
       have HDE:=HDC1.out.drew nq
       have HDE1:Hid (Dt (wC.drewN nq) B P R s now d (.ok j) ns own):=HDE.1
       have HFE:Hid (DFr B P w (wC.drewN nq)):=HFC.out.two HDE.2
       obtain ⟨wE,hwE⟩:∃W,wC.drewN nq=W:=⟨_,rfl⟩
       rw [hwE] at HDE1 HFE ⊢
       clear hwE HDE k0 k1 k5
       go_wp2_with (first | (go_at_call 17;refine (CA.out _ 0 _ HDE1.out).mono ?_;rintro e w3 ⟨rfl,hd3,hf3⟩))
       refine bodyPost_end (results_none rfl _ _ _) rfl ?_
       rw [HQ2.out]
       exact ⟨rfl,fun j ns' hh=>(by cases hh;exact hd3),fun c' hh=>(by cases hh),HFE.out.two hf3⟩
      ·have bF:(X == [102,97,108,115,101])=false:=by simpa using hF
       have bG:(X != [102,97,108,115,101])=true:=by simpa using hF
       have HQ2:Hid (Q=.error (2,i)):=by
        have:=HQX.out
        rw [if_neg hT,if_neg hF] at this
        exact this.symm
       clear hT hF
       go_wp2
       go_quiet (fail)
       have HDE:=HDC1.out.drew nq
       have HDE1:Hid (Dt (wC.drewN nq) B P R s now d (.ok j) ns own):=HDE.1
       have HFE:Hid (DFr B P w (wC.drewN nq)):=HFC.out.two HDE.2
       obtain ⟨wE,hwE⟩:∃W,wC.drewN nq=W:=⟨_,rfl⟩
       rw [hwE] at HDE1 HFE ⊢
       clear hwE HDE k0 k1 k5
       go_wp2_with (first | (go_at_call 55;refine (CF.out j _ HDE1.out).mono ?_;rintro e w3 ⟨rfl,hd3,hf3⟩) | (go_at_call 17;refine (CA.out _ 0 _ hd3).mono ?_;rintro e w4 ⟨rfl,hd4,hf4⟩))
       refine bodyPost_end (results_none rfl _ _ _) rfl ?_
       rw [HQ2.out]
       exact ⟨rfl,fun j ns' hh=>(by cases hh),fun c' hh=>(by cases hh;exact hd4.fq),(HFE.out.two hf3).two hf4⟩
   ·have hge':decide ((j:Int) < (s.size:Int))=false:=by simp;omega
    have HJ:Hid (toR isSm s.data.toList i=j):=HTO.out.symm.trans (HEN.out j (by omega))
    go_wp2
    go_quiet (fail)
    have HDC:=HDJ.out.drew nq
    have HDC1:Hid (Dt (wr.drewN nq) B P R s now d (.ok j) ns own):=HDC.1
    have HFC:Hid (DFr B P w (wr.drewN nq)):=HFJ.out.two HDC.2
    obtain ⟨wC,hwC⟩:∃W,wr.drewN nq=W:=⟨_,rfl⟩
    rw [hwC] at HDC1 HFC ⊢
    obtain ⟨k0,k1,k5,-,-,-,-⟩:=HDC1.out.cells
    clear hwC HDC
    have HQJ:=HQ.out
    rw [HJ.out] at HQJ
    obtain ⟨X,hX⟩:∃X,subT s.data.toList i (j - i)=X:=⟨_,rfl⟩
    have sl:∀wx,(Instr.slice 9 (.string s) (some (.int .i64 (i:Int))) (some (.int .i64 (j:Int))) none).run Tryz.prog wx=.ok (.string ⟨X.toArray⟩) wx:=fun wx=>by
     rw [<-hX];exact run_sub s i j hij hj wx
    rw [hX] at HQJ
    have HQX:Hid (vFin (fun n=>addN ns up ⟨5,k,[],n,[],p⟩) (if X=[116,114,117,101] then .ok (1,j) else if X=[102,97,108,115,101] then .ok (0,j) else .error (2,i))=Q):=HQJ
    clear hX HQJ
    by_cases hT:X=[116,114,117,101]
    ·have bT:(X == [116,114,117,101])=true:=by simpa using hT
     have HQ2:Hid (Q=.ok (j,addN ns up ⟨5,k,[],1,[],p⟩)):=by
      have:=HQX.out
      rw [if_pos hT] at this
      exact this.symm
     clear hT
     go_wp2
     go_quiet (fail)
     have HDE:=HDC1.out.drew nq
     have HDE1:Hid (Dt (wC.drewN nq) B P R s now d (.ok j) ns own):=HDE.1
     have HFE:Hid (DFr B P w (wC.drewN nq)):=HFC.out.two HDE.2
     obtain ⟨wE,hwE⟩:∃W,wC.drewN nq=W:=⟨_,rfl⟩
     rw [hwE] at HDE1 HFE ⊢
     clear hwE HDE k0 k1 k5
     go_wp2_with (first | (go_at_call 17;refine (CA.out _ 1 _ HDE1.out).mono ?_;rintro e w3 ⟨rfl,hd3,hf3⟩))
     refine bodyPost_end (results_none rfl _ _ _) rfl ?_
     rw [HQ2.out]
     exact ⟨rfl,fun j ns' hh=>(by cases hh;exact hd3),fun c' hh=>(by cases hh),HFE.out.two hf3⟩
    ·have bT:(X == [116,114,117,101])=false:=by simpa using hT
     by_cases hF:X=[102,97,108,115,101]
     ·have bF:(X == [102,97,108,115,101])=true:=by simpa using hF
      have bG:(X != [102,97,108,115,101])=false:=by simpa using hF
      have HQ2:Hid (Q=.ok (j,addN ns up ⟨5,k,[],0,[],p⟩)):=by
       have:=HQX.out
       rw [if_neg hT,if_pos hF] at this
       exact this.symm
      clear hT hF
      go_wp2
      go_quiet (fail)
      have HDE:=HDC1.out.drew nq
      have HDE1:Hid (Dt (wC.drewN nq) B P R s now d (.ok j) ns own):=HDE.1
      have HFE:Hid (DFr B P w (wC.drewN nq)):=HFC.out.two HDE.2
      obtain ⟨wE,hwE⟩:∃W,wC.drewN nq=W:=⟨_,rfl⟩
      rw [hwE] at HDE1 HFE ⊢
      clear hwE HDE k0 k1 k5
      go_wp2_with (first | (go_at_call 17;refine (CA.out _ 0 _ HDE1.out).mono ?_;rintro e w3 ⟨rfl,hd3,hf3⟩))
      refine bodyPost_end (results_none rfl _ _ _) rfl ?_
      rw [HQ2.out]
      exact ⟨rfl,fun j ns' hh=>(by cases hh;exact hd3),fun c' hh=>(by cases hh),HFE.out.two hf3⟩
     ·have bF:(X == [102,97,108,115,101])=false:=by simpa using hF
      have bG:(X != [102,97,108,115,101])=true:=by simpa using hF
      have HQ2:Hid (Q=.error (2,i)):=by
       have:=HQX.out
       rw [if_neg hT,if_neg hF] at this
       exact this.symm
      clear hT hF
      go_wp2
      go_quiet (fail)
      have HDE:=HDC1.out.drew nq
      have HDE1:Hid (Dt (wC.drewN nq) B P R s now d (.ok j) ns own):=HDE.1
      have HFE:Hid (DFr B P w (wC.drewN nq)):=HFC.out.two HDE.2
      obtain ⟨wE,hwE⟩:∃W,wC.drewN nq=W:=⟨_,rfl⟩
      rw [hwE] at HDE1 HFE ⊢
      clear hwE HDE k0 k1 k5
      go_wp2_with (first | (go_at_call 55;refine (CF.out j _ HDE1.out).mono ?_;rintro e w3 ⟨rfl,hd3,hf3⟩) | (go_at_call 17;refine (CA.out _ 0 _ hd3).mono ?_;rintro e w4 ⟨rfl,hd4,hf4⟩))
      refine bodyPost_end (results_none rfl _ _ _) rfl ?_
      rw [HQ2.out]
      exact ⟨rfl,fun j ns' hh=>(by cases hh),fun c' hh=>(by cases hh;exact hd4.fq),(HFE.out.two hf3).two hf4⟩
set_option maxRecDepth 100000 in
set_option maxHeartbeats 1600000 in
theorem dVal_late (B P R:Nat) (s:ByteArray) (now de:Nat) (c:Int × Nat) (up:Nat) (k:List UInt8) (p:Nat) (w:World) (h:Fq w B P R s now de c) (hs:s.size<=100000) :
  Calls Tryz.prog 57 #[.pointer (some ⟨R,0,none⟩),.int .i64 (up:Nat),.string ⟨k.toArray⟩,.int .i64 (p:Nat)] w fun e w'=>e=.returned (.tuple #[])/\Fq w' B P R s now de c/\DFr B P w w':=by
 obtain ⟨L,O,⟨h1,j,h2,h3⟩,h4,h5,h6⟩:=h
 have HD:Hid (Dd w R s L O now de j c.1 c.2):=h3
 obtain ⟨c0,c1,-,-,-,c5,-,-,-⟩:=h3.cells
 have hb:(c.1 == 0)=false:=by simpa using h1
 have hb2:(c.1 != 0)=true:=by simpa using h1
 have HC:Hid (c.1 ≠ 0):=h1
 have HB:Hid (B<=w.heap.size):=Nat.le_of_lt (Nat.lt_of_le_of_lt h4 (blk_lt h3))
 have HEND:Hid (∀n,Fq (w.drewN n) B P R s now de c/\DFr B P w (w.drewN n)):=fun n=>by
  have g:w.grownBy (w.drewN n) none:=gb_drew (gb_refl w none) n
  exact ⟨⟨L,O,⟨h1,j,h2,h3.grow g⟩,h4,h5,h6⟩,DFr.gb g HB.out h6⟩
 obtain ⟨x,hx⟩:∃x,c.1=x:=⟨_,rfl⟩
 obtain ⟨y,hy⟩:∃y,c.2=y:=⟨_,rfl⟩
 rw [hx] at HD c5 hb hb2 HC
 rw [hy] at HD
 clear h1 h3 hx hy
 by_cases hj:s.size<=j
 ·have hge:decide ((s.size:Int)<=(j:Int))=true:=by simp;omega
  have hge2:(s.size:Int)<=(j:Int):=by omega
  have CF:Hid (∀w',Dd w' R s L O now de j x y->Calls Tryz.prog 55 #[.pointer (some ⟨R,0,none⟩),.int .i64 2,.int .i64 (j:Nat)] w' fun e w''=>e=.returned (.tuple #[])/\w''=w'):=fun w' h=>dFail_no R s L O now de j x y 2 j w' h HC.out
  go_enter Tryz.func57,Tryz.ntmps57
  go_wp2
  go_quiet (fail)
  go_wp2_with (first | (go_at_call 55;refine (CF.out _ ?_).mono ?_;exact HD.out;rintro e w' ⟨rfl,rfl⟩))
  refine bodyPost_ret (results_none rfl _ _ _) rfl ?_
  exact ⟨rfl,HEND.out _⟩
 ·have hge:decide ((s.size:Int)<=(j:Int))=false:=by simp;omega
  have hge2:¬ (s.size:Int)<=(j:Int):=by omega
  go_enter Tryz.func57,Tryz.ntmps57
  go_wp2
  go_quiet (fail)
  go_wp2
  refine bodyPost_ret (results_none rfl _ _ _) rfl ?_
  exact ⟨rfl,HEND.out _⟩
theorem dVal_of (f:Nat) (CL:DlC f):DvC (f+1):=fun B P R s own now i up k p d ns w h hs W V hu hk2 hd hsz hf=>by
 by_cases he:s.size<=i
 ·exact dVal_end f B P R s own now i up k p d ns w h hs W V hu hk2 hd hsz hf he
 ·by_cases h34:nx s.data.toList i=34
  ·exact dVal_q f B P R s own now i up k p d ns w h hs W V hu hk2 hd hsz hf h34
  ·by_cases hin:nx s.data.toList i=43\/nx s.data.toList i=45\/isDg (nx s.data.toList i)=true
   ·exact dVal_i f B P R s own now i up k p d ns w h hs W V hu hk2 hd hsz hf hin
   ·by_cases htf:nx s.data.toList i=116\/nx s.data.toList i=102
    ·exact dVal_t f B P R s own now i up k p d ns w h hs W V hu hk2 hd hsz hf htf
    ·by_cases h91:nx s.data.toList i=91
     ·exact dVal_l f CL B P R s own now i up k p d ns w h hs W V hu hk2 hd hsz hf h91
     ·exact dVal_x f B P R s own now i up k p d ns w h hs W V hu hk2 hd hsz hf (by omega) h34 hin htf h91
end Go.Proofs.YtbgnflcebafjjaaGreatDoor
