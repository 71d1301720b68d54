import Derived.Test.YtbgnflcebafjjaaGreatDoorM09
import Derived.Test.YtbgnflcebafjjaaGreatDoorM11
import Derived.Test.YtbgnflcebafjjaaGreatDoorM13
namespace Go.Proofs.YtbgnflcebafjjaaGreatDoor
open Go.RowKit Go.Maps Go.WideMaps Go.Joins
set_option linter.unusedVariables false
def Fq (w:World) (B P R:Nat) (s:ByteArray) (now de:Nat) (e:Int × Nat):Prop:=∃L O,Ds w R s L O now de (.error e)/\B<=R/\¬ P=R/\P < w.heap.size
def Dq (w:World) (B P R:Nat) (s:ByteArray) (now de:Nat) (q:Rs Nat) (ns:List Tn) (own:List Nat):Prop:=match q with | .ok i=>Dt w B P R s now de (.ok i) ns own | .error e=>Fq w B P R s now de e
section
variable {w w':World} {B P R:Nat} {s:ByteArray} {now de:Nat} {q q':Rs Nat} {ns:List Tn} {own:List Nat}
theorem Dt.fq {e:Int × Nat} (h:Dt w B P R s now de (.error e) ns own):Fq w B P R s now de e:=by
 obtain ⟨h1,h2,N,c,O,oc,xs,ks,h3,h4,h5,h6⟩:=h
 exact ⟨_,_,h6,h1,h2,h5.hP⟩
theorem Dt.dq (h:Dt w B P R s now de q ns own):Dq w B P R s now de q ns own:=by
 match q,h with
 | .ok i,h=>exact h
 | .error e,h=>exact h.fq
theorem Dt.base (h:Dt w B P R s now de q ns own):B<=w.heap.size/\P < w.heap.size/\R < w.heap.size:=by
 obtain ⟨h1,h2,N,c,O,oc,xs,ks,h3,h4,h5,h6⟩:=h
 obtain ⟨i,er,p,hd⟩:=h6.dd
 exact ⟨Nat.le_of_lt (Nat.lt_of_le_of_lt h1 (blk_lt hd)),h5.hP,blk_lt hd⟩
theorem dfr_R {L O:Value} (hd:Ds w R s L O now de q) (hB:B<=R) (hP:¬ P=R) (hPs:P < w.heap.size) (hg:w.grownBy w' (some R)):DFr B P w w':=by
 obtain ⟨i,er,p,hdd⟩:=hd.dd
 exact DFr.row hg (Nat.le_of_lt (Nat.lt_of_le_of_lt hB (blk_lt hdd))) hPs hB hP hdd (Or.inl rfl)
theorem Dt.keep (h:Dt w B P R s now de q ns own) (hs:∀L O,Ds w R s L O now de q->Ds w' R s L O now de q') (hg:w.grownBy w' (some R)):Dt w' B P R s now de q' ns own/\DFr B P w w':=by
 obtain ⟨h1,h2,N,c,O,oc,xs,ks,h3,h4,h5,h6⟩:=h
 obtain ⟨i,er,p,hdd⟩:=h6.dd
 exact ⟨⟨h1,h2,N,c,O,oc,xs,ks,h3,h4,h5.keepR hdd hg,hs _ _ h6⟩,dfr_R h6 h1 h2 h5.hP hg⟩
end
theorem lift_R {B P R:Nat} {s:ByteArray} {now de:Nat} {ns:List Tn} {own:List Nat} {fn:Nat} {args:Array Value} (F:Rs Nat->Rs Nat) (hF:∀e,F (.error e)=.error e) (C:∀L O w q,Ds w R s L O now de q->Calls Tryz.prog fn args w fun e w'=>e=.returned (.tuple #[])/\Ds w' R s L O now de (F q)/\w.grownBy w' (some R)) (q:Rs Nat) (w:World) (h:Dq w B P R s now de q ns own) :
  Calls Tryz.prog fn args w fun e w'=>e=.returned (.tuple #[])/\Dq w' B P R s now de (F q) ns own/\DFr B P w w':=by
 match q,h with
 | .error e,⟨L,O,h1,h2,h3,h4⟩ =>
  refine (C L O w _ h1).mono ?_
  rintro e' w' ⟨rfl,a,b⟩
  rw [hF] at a ⊢
  exact ⟨rfl,⟨L,O,a,h2,h3,Nat.lt_of_lt_of_le h4 b.size⟩,dfr_R h1 h2 h3 h4 b⟩
 | .ok i,h =>
  obtain ⟨h1,h2,N,c,O,oc,xs,ks,h3,h4,h5,h6⟩:=h
  refine (C _ _ w _ h6).mono ?_
  rintro e' w' ⟨rfl,a,b⟩
  obtain ⟨ii,er,p,hdd⟩:=h6.dd
  exact ⟨rfl,Dt.dq ⟨h1,h2,N,c,O,oc,xs,ks,h3,h4,h5.keepR hdd b,a⟩,dfr_R h6 h1 h2 h5.hP b⟩
section
variable (B P R:Nat) (s:ByteArray) (now de:Nat) (ns:List Tn) (own:List Nat) (q:Rs Nat) (w:World) (h:Dq w B P R s now de q ns own) (hs:s.size<=100000)
include h hs
theorem qMust (c:Int) (hc:0<=c):Calls Tryz.prog 31 #[.pointer (some ⟨R,0,none⟩),.int .u8 c] w fun e w'=>e=.returned (.tuple #[])/\Dq w' B P R s now de (q.bind fun i=>must s.data.toList i c) ns own/\DFr B P w w' :=
 lift_R (fun q=>q.bind fun i=>must s.data.toList i c) (fun _=>rfl) (fun L O w q h=>dMust_any R s L O now de q c hc w h (by omega)) q w h
theorem qBlanks:Calls Tryz.prog 26 #[.pointer (some ⟨R,0,none⟩)] w fun e w'=>e=.returned (.tuple #[])/\Dq w' B P R s now de (q.bind fun i=>.ok (bl s.data.toList i)) ns own/\DFr B P w w' :=
 lift_R (fun q=>q.bind fun i=>.ok (bl s.data.toList i)) (fun _=>rfl) (fun L O w q h=>dBlanks_any R s L O now de q w h (by omega)) q w h
theorem qComment:Calls Tryz.prog 30 #[.pointer (some ⟨R,0,none⟩)] w fun e w'=>e=.returned (.tuple #[])/\Dq w' B P R s now de (q.bind (cmtR s.data.toList)) ns own/\DFr B P w w' :=
 lift_R (fun q=>q.bind (cmtR s.data.toList)) (fun _=>rfl) (fun L O w q h=>dComment_any R s L O now de q w h (by omega)) q w h
theorem qSpace:Calls Tryz.prog 109 #[.pointer (some ⟨R,0,none⟩)] w fun e w'=>e=.returned (.tuple #[])/\Dq w' B P R s now de (q.bind (gap s.data.toList (s.data.toList.length+1))) ns own/\DFr B P w w' :=
 lift_R (fun q=>q.bind (gap s.data.toList (s.data.toList.length+1))) (fun _=>rfl) (fun L O w q h=>dSpace_any R s L O now de q w h (by omega)) q w h
theorem qIs (c:Int) (hc:0<=c):Calls Tryz.prog 27 #[.pointer (some ⟨R,0,none⟩),.int .u8 c] w fun e w'=>e=.returned (.bool (isQ s.data.toList q c))/\Dq w' B P R s now de q ns own/\DFr B P w w':=by
 match q,h with
 | .error e,⟨L,O,h1,h2,h3,h4⟩ =>
  refine (dIs_any R s L O now de _ c hc w h1 (by omega)).mono ?_
  rintro e' w' ⟨rfl,b⟩
  obtain ⟨ii,er,p,hdd⟩:=h1.dd
  exact ⟨rfl,⟨L,O,h1.grow b,h2,h3,Nat.lt_of_lt_of_le h4 b.size⟩,DFr.gb b (Nat.le_of_lt (Nat.lt_of_le_of_lt h2 (blk_lt hdd))) h4⟩
 | .ok i,h =>
  obtain ⟨h1,h2,N,c',O,oc,xs,ks,h3,h4,h5,h6⟩:=h
  refine (dIs_any R s _ _ now de _ c hc w h6 (by omega)).mono ?_
  rintro e' w' ⟨rfl,b⟩
  obtain ⟨ii,er,p,hdd⟩:=h6.dd
  exact ⟨rfl,⟨h1,h2,N,c',O,oc,xs,ks,h3,h4,h5.gb b,h6.grow b⟩,DFr.gb b (Nat.le_of_lt (Nat.lt_of_le_of_lt h1 (blk_lt hdd))) h5.hP⟩
end
theorem qFail (B P R:Nat) (s:ByteArray) (now de:Nat) (ns:List Tn) (own:List Nat) (i:Nat) (w:World) (h:Dt w B P R s now de (.ok i) ns own) (c:Int) (hc:c ≠ 0) (a:Nat) :
  Calls Tryz.prog 55 #[.pointer (some ⟨R,0,none⟩),.int .i64 c,.int .i64 (a:Nat)] w fun e w'=>e=.returned (.tuple #[])/\Dt w' B P R s now de (.error (c,a)) ns own/\DFr B P w w':=by
 have h0:=h
 obtain ⟨h1,h2,N,c',O,oc,xs,ks,h3,h4,h5,h6⟩:=h
 refine (dFail_yes R s _ _ now de i c a w h6.2).mono ?_
 rintro e' w' ⟨rfl,a1,b⟩
 exact ⟨rfl,⟨h1,h2,N,c',O,oc,xs,ks,h3,h4,h5.keepR h6.2 b,⟨hc,i,h6.1,a1⟩⟩,dfr_R h6 h1 h2 h5.hP b⟩
def DvPost (B P R:Nat) (s:ByteArray) (now de:Nat) (own:List Nat) (g:Rs (Nat × List Tn)) (w:World) (e:Ending) (w':World):Prop:=e=.returned (.tuple #[])/\(∀j ns',g=.ok (j,ns')->Dt w' B P R s now de (.ok j) ns' own)/\(∀c,g=.error c->Fq w' B P R s now de c)/\DFr B P w w'
def DvC (f:Nat):Prop:=∀(B P R:Nat) (s:ByteArray) (own:List Nat) (now i up:Nat) (k:List UInt8) (p d:Nat) (ns:List Tn) (w:World),Dt w B P R s now d (.ok i) ns own->s.size<=100000->WF ns own->WT ns->up < ns.length->¬ kdAt ns up=2->d<=8->ns.length+(s.size - i)<=700000->2 * (s.size - i)+1<=f →
 Calls Tryz.prog 57 #[.pointer (some ⟨R,0,none⟩),.int .i64 (up:Nat),.string ⟨k.toArray⟩,.int .i64 (p:Nat)] w (DvPost B P R s now d own (val s.data.toList f i up k p d ns) w)
def DlC (f:Nat):Prop:=∀(B P R:Nat) (s:ByteArray) (own:List Nat) (now i up:Nat) (k:List UInt8) (p d:Nat) (ns:List Tn) (w:World),Dt w B P R s now d (.ok i) ns own->s.size<=100000->nx s.data.toList i=91->WF ns own->WT ns->up < ns.length->¬ kdAt ns up=2->d<=8->ns.length+(s.size - i)<=700000->2 * (s.size - i)<=f →
 Calls Tryz.prog 83 #[.pointer (some ⟨R,0,none⟩),.int .i64 (up:Nat),.string ⟨k.toArray⟩,.int .i64 (p:Nat)] w (DvPost B P R s now d own (if d=8 then .error (4,i) else lst s.data.toList f (i+1) ns.length (d+1) (addN ns up ⟨1,k,[],0,[],p⟩)) w)
end Go.Proofs.YtbgnflcebafjjaaGreatDoor
namespace Go.Proofs.YtbgnflcebafjjaaGreatDoor
open Go.RowKit Go.Maps Go.WideMaps Go.Joins
set_option linter.unusedVariables false
def TqPost (B P R:Nat) (s:ByteArray) (now de:Nat) (ns:List Tn) (own:List Nat) (g:Rs (List UInt8 × Nat)) (w:World) (e:Ending) (w':World):Prop:=(∀t j,g=.ok (t,j)->e=.returned (.string ⟨t.toArray⟩)/\Dt w' B P R s now de (.ok j) ns own)/\(∀c,g=.error c->∃t:List UInt8,e=.returned (.string ⟨t.toArray⟩)/\Dt w' B P R s now de (.error c) ns own)/\DFr B P w w'
theorem qQuoted (B P R:Nat) (s:ByteArray) (now de i:Nat) (ns:List Tn) (own:List Nat) (w:World) (h:Dt w B P R s now de (.ok i) ns own) (hx:nx s.data.toList i=34) (hs:s.size<=100000) :
  Calls Tryz.prog 82 #[.pointer (some ⟨R,0,none⟩)] w (TqPost B P R s now de ns own (str s.data.toList (s.data.toList.length+1) (i+1) []) w):=by
 have hlt:i < s.size:=by have:=nx_lt (l:=s.data.toList) (i:=i) (by omega);simpa using this
 obtain ⟨h1,h2,N,c,O,oc,xs,ks,h3,h4,h5,h6⟩:=h
 refine (dQuoted_any R s _ _ now de i w h6.2 hlt hx (by omega)).mono ?_
 rintro e w' ⟨a1,a2,a3⟩
 refine ⟨fun t j hg=>?_,fun c hg=>?_,dfr_R h6 h1 h2 h5.hP a3⟩
 ·obtain ⟨b1,b2⟩:=a1 t j hg
  exact ⟨b1,h1,h2,N,_,O,oc,xs,ks,h3,h4,h5.keepR h6.2 a3,b2⟩
 ·obtain ⟨⟨t,-,b1⟩,b2⟩:=a2 c.1 c.2 hg
  exact ⟨t,b1,h1,h2,N,_,O,oc,xs,ks,h3,h4,h5.keepR h6.2 a3,b2⟩
def IqPost (B P R:Nat) (s:ByteArray) (now de:Nat) (ns:List Tn) (own:List Nat) (g:Rs (Int × Nat)) (w:World) (e:Ending) (w':World):Prop:=(∀n j,g=.ok (n,j)->e=.returned (.int .i64 n)/\Dt w' B P R s now de (.ok j) ns own)/\(∀c,g=.error c->∃n:Int,e=.returned (.int .i64 n)/\Dt w' B P R s now de (.error c) ns own)/\DFr B P w w'
theorem qInt (B P R:Nat) (s:ByteArray) (now de i:Nat) (ns:List Tn) (own:List Nat) (w:World) (h:Dt w B P R s now de (.ok i) ns own) (hi:i < s.size) (hx:nx s.data.toList i=43\/nx s.data.toList i=45\/isDg (nx s.data.toList i)=true) (hs:s.size<=100000) :
  Calls Tryz.prog 85 #[.pointer (some ⟨R,0,none⟩)] w (IqPost B P R s now de ns own (rdInt s.data.toList i) w):=by
 obtain ⟨h1,h2,N,c,O,oc,xs,ks,h3,h4,h5,h6⟩:=h
 refine (dInt_any R s _ _ now de i w h6.2 hi (by omega) hx).mono ?_
 rintro e w' ⟨a1,a2,a3⟩
 refine ⟨fun t j hg=>?_,fun c hg=>?_,dfr_R h6 h1 h2 h5.hP a3⟩
 ·obtain ⟨b1,b2⟩:=a1 t j hg
  exact ⟨b1,h1,h2,N,_,O,oc,xs,ks,h3,h4,h5.keepR h6.2 a3,b2⟩
 ·obtain ⟨⟨t,b1⟩,b2⟩:=a2 c.1 c.2 hg
  exact ⟨t,b1,h1,h2,N,_,O,oc,xs,ks,h3,h4,h5.keepR h6.2 a3,b2⟩
theorem Dt.cells {w:World} {B P R:Nat} {s:ByteArray} {now de i:Nat} {ns:List Tn} {own:List Nat} (h:Dt w B P R s now de (.ok i) ns own):w.cell? ⟨R,0,none⟩=some (.string s)/\w.cell? ⟨R,1,none⟩=some (.int .i64 (i:Nat))/\w.cell? ⟨R,5,none⟩=some (.int .i64 0)/\w.cell? ⟨R,7,none⟩=some (.int .i64 (de:Nat))/\w.cell? ⟨R,4,none⟩=some (.int .i64 (now:Nat))/\i<=s.size/\∀k,w.frozen? ⟨R,k,none⟩=false:=by
 obtain ⟨h1,h2,N,c,O,oc,xs,ks,h3,h4,h5,h6⟩:=h
 obtain ⟨c0,c1,c2,c3,c4,c5,c6,c7,cf⟩:=h6.2.cells
 exact ⟨c0,c1,c5,c7,c4,h6.1,cf⟩
theorem Dt.drew {w:World} {B P R:Nat} {s:ByteArray} {now de:Nat} {q:Rs Nat} {ns:List Tn} {own:List Nat} (h:Dt w B P R s now de q ns own) (n:Nat):Dt (w.drewN n) B P R s now de q ns own/\DFr B P w (w.drewN n):=by
 have hb:=h.base
 obtain ⟨h1,h2,N,c,O,oc,xs,ks,h3,h4,h5,h6⟩:=h
 have g:w.grownBy (w.drewN n) none:=gb_drew (gb_refl w none) n
 exact ⟨⟨h1,h2,N,c,O,oc,xs,ks,h3,h4,h5.gb g,h6.grow g⟩,DFr.gb g hb.1 hb.2.1⟩
theorem Fq.err {w:World} {B P R:Nat} {s:ByteArray} {now de:Nat} {e:Int × Nat} (h:Fq w B P R s now de e):w.cell? ⟨R,5,none⟩=some (.int .i64 e.1)/\(e.1 == 0)=false:=by
 obtain ⟨L,O,⟨h1,j,h2,h3⟩,-⟩:=h
 exact ⟨h3.cells.2.2.2.2.2.1,by simpa using h1⟩
def vFin {α:Type} (F:α->List Tn):Rs (α × Nat)->Rs (Nat × List Tn)
 | .error e=>.error e
 | .ok (t,j)=>.ok (j,F t)
theorem val_q (l:List UInt8) (f i up:Nat) (k:List UInt8) (p d:Nat) (ns:List Tn) (h:nx l i=34):val l (f+1) i up k p d ns=vFin (fun t=>addN ns up ⟨3,k,t,0,[],p⟩) (str l (l.length+1) (i+1) []):=by
 rw [val_step,if_pos h]
 cases str l (l.length+1) (i+1) [] <;> rfl
theorem val_i (l:List UInt8) (f i up:Nat) (k:List UInt8) (p d:Nat) (ns:List Tn) (h0:¬ nx l i=34) (h:nx l i=43\/nx l i=45\/isDg (nx l i)=true):val l (f+1) i up k p d ns=vFin (fun n=>addN ns up ⟨4,k,[],n,[],p⟩) (rdInt l i):=by
 rw [val_step,if_neg h0,if_pos h]
 cases rdInt l i <;> rfl
theorem val_t (l:List UInt8) (f i up:Nat) (k:List UInt8) (p d:Nat) (ns:List Tn) (h:nx l i=116\/nx l i=102):val l (f+1) i up k p d ns=vFin (fun n=>addN ns up ⟨5,k,[],n,[],p⟩) (rdTru l i):=by
 rw [val_step,if_neg (by rcases h with h | h <;> rw [h] <;> decide),if_neg (by rcases h with h | h <;> rw [h] <;> decide),if_pos h]
 cases rdTru l i <;> rfl
theorem Dt.err {w:World} {B P R:Nat} {s:ByteArray} {now de:Nat} {ns:List Tn} {own:List Nat} {e:Int × Nat} (h:Dt w B P R s now de (.error e) ns own):w.cell? ⟨R,5,none⟩=some (.int .i64 e.1)/\(e.1 == 0)=false:=h.fq.err
end Go.Proofs.YtbgnflcebafjjaaGreatDoor
namespace Go.Proofs.YtbgnflcebafjjaaGreatDoor
open Go.RowKit Go.Maps Go.WideMaps Go.Joins
set_option linter.unusedVariables false
set_option maxRecDepth 100000 in
set_option maxHeartbeats 3200000 in
theorem dVal_end (f:Nat) (B P R:Nat) (s:ByteArray) (own:List Nat) (now i up:Nat) (k:List UInt8) (p d:Nat) (ns:List Tn) (w:World) (h:Dt w B P R s now d (.ok i) ns own) (hs:s.size<=100000) (W:WF ns own) (V:WT ns) (hu:up < ns.length) (hk2:¬ kdAt ns up=2) (hd:d<=8) (hsz:ns.length+(s.size - i)<=700000) (hf:2 * (s.size - i)+1<=f+1) (he:s.size<=i) :
  Calls Tryz.prog 57 #[.pointer (some ⟨R,0,none⟩),.int .i64 (up:Nat),.string ⟨k.toArray⟩,.int .i64 (p:Nat)] w (DvPost B P R s now d own (val s.data.toList (f+1) i up k p d ns) w):=by
 have hl:s.data.toList.length=s.size:=by simp
 obtain ⟨c0,c1,c5,-,-,hi,-⟩:=h.cells
 have HD:Hid (Dt w B P R s now d (.ok i) ns own):=h
 rw [val_step]
 have hn:nx s.data.toList i=-1:=nx_end _ _ (by omega)
 rw [if_neg (by rw [hn];decide),if_neg (by rw [hn];decide),if_neg (by rw [hn];decide),if_neg (by rw [hn];decide)]
 have hge:decide ((s.size:Int)<=(i:Int))=true:=by simp;omega
 have hge2:(s.size:Int)<=(i:Int):=by omega
 have CF:Hid (∀w,Dt w B P R s now d (.ok i) ns own->Calls Tryz.prog 55 #[.pointer (some ⟨R,0,none⟩),.int .i64 2,.int .i64 (i:Nat)] w fun e w'=>e=.returned (.tuple #[])/\Dt w' B P R s now d (.error (2,i)) ns own/\DFr B P w w'):=fun w h=>qFail B P R s now d ns own i w h 2 (by decide) i
 clear h hn he V W hk2
 go_enter Tryz.func57,Tryz.ntmps57
 go_wp2
 go_quiet (fail)
 have HDA:=HD.out.drew nq
 have HDA1:Hid (Dt (w.drewN nq) B P R s now d (.ok i) ns own):=HDA.1
 have HFA:Hid (DFr B P w (w.drewN nq)):=HDA.2
 obtain ⟨wA,hwA⟩:∃W,w.drewN nq=W:=⟨_,rfl⟩
 rw [hwA] at HDA1 HFA ⊢
 obtain ⟨d0,d1,d5,-,-,-,-⟩:=HDA1.out.cells
 clear hwA HDA c0 c1 c5
 go_wp2_with (first | (go_at_call 55;refine (CF.out _ HDA1.out).mono ?_;rintro e w2 ⟨rfl,hd2,hf2⟩;have e5:=hd2.err.1))
 refine bodyPost_ret (results_none rfl _ _ _) rfl ?_
 exact ⟨rfl,fun j ns' hh=>(by cases hh),fun c hh=>(by cases hh;exact hd2.fq),HFA.out.two hf2⟩
end Go.Proofs.YtbgnflcebafjjaaGreatDoor
namespace Go.Proofs.YtbgnflcebafjjaaGreatDoor
open Go.RowKit Go.Maps Go.WideMaps Go.Joins
set_option linter.unusedVariables false
set_option maxRecDepth 100000 in
set_option maxHeartbeats 3200000 in
theorem dVal_q (f:Nat) (B P R:Nat) (s:ByteArray) (own:List Nat) (now i up:Nat) (k:List UInt8) (p d:Nat) (ns:List Tn) (w:World) (h:Dt w B P R s now d (.ok i) ns own) (hs:s.size<=100000) (W:WF ns own) (V:WT ns) (hu:up < ns.length) (hk2:¬ kdAt ns up=2) (hd:d<=8) (hsz:ns.length+(s.size - i)<=700000) (hf:2 * (s.size - i)+1<=f+1) (hx:nx s.data.toList i=34) :
  Calls Tryz.prog 57 #[.pointer (some ⟨R,0,none⟩),.int .i64 (up:Nat),.string ⟨k.toArray⟩,.int .i64 (p:Nat)] w (DvPost B P R s now d own (val s.data.toList (f+1) i up k p d ns) w):=by
 have hl:s.data.toList.length=s.size:=by simp
 obtain ⟨c0,c1,c5,-,-,hi,-⟩:=h.cells
 have HD:Hid (Dt w B P R s now d (.ok i) ns own):=h
 rw [val_q _ _ _ _ _ _ _ _ hx]
 have hlt0:i < s.size:=by have:=nx_lt (l:=s.data.toList) (i:=i) (by omega);omega
 have hlt:i < s.size:=hlt0
 have hge:decide ((s.size:Int)<=(i:Int))=false:=by simp;omega
 have hge2:¬ (s.size:Int)<=(i:Int):=by omega
 have HXX:Hid (nx s.data.toList i=(s[i].toNat:Int)):=byte_at s i hlt
 have q34:((s[i].toNat:Int) == 34)=true:=by rw [<-HXX.out,hx];rfl
 have CQ:Hid (∀w,Dt w B P R s now d (.ok i) ns own->Calls Tryz.prog 82 #[.pointer (some ⟨R,0,none⟩)] w (TqPost B P R s now d ns own (str s.data.toList (s.data.toList.length+1) (i+1) []) w)):=fun w h=>qQuoted B P R s now d i ns own w h hx hs
 have CA:Hid (∀(q:Rs Nat) (t:List UInt8) w,Dt w B P R s now d q ns own->Calls Tryz.prog 17 #[.pointer (some ⟨R,0,none⟩),.int .i64 (up:Nat),.agg #[.int .i64 3,.string ⟨k.toArray⟩,.string ⟨t.toArray⟩,.int .i64 0,.slice none 0 0,.int .i64 (p:Nat)]] w (DaPost B P R s now d q ns own (addN ns up ⟨3,k,t,0,[],p⟩) w)):=fun q t w h=>dAdd_any B P R s now d q ns own up 3 0 k t p w h W hu (by omega)
 obtain ⟨G,hG⟩:∃G,str s.data.toList (s.data.toList.length+1) (i+1) []=G:=⟨_,rfl⟩
 rw [hG] at CQ ⊢
 obtain ⟨Q,hQ⟩:∃Q:Rs (Nat × List Tn),(vFin (fun t=>addN ns up ⟨3,k,t,0,[],p⟩) G)=Q:=⟨_,rfl⟩
 have HQ:Hid ((vFin (fun t=>addN ns up ⟨3,k,t,0,[],p⟩) G)=Q):=hQ
 rw [hQ]
 clear h hx hG hQ V W hk2 HXX
 go_enter Tryz.func57,Tryz.ntmps57
 go_wp2
 go_quiet (fail)
 have HDA:=HD.out.drew nq
 have HDA1:Hid (Dt (w.drewN nq) B P R s now d (.ok i) ns own):=HDA.1
 have HFA:Hid (DFr B P w (w.drewN nq)):=HDA.2
 obtain ⟨wA,hwA⟩:∃W,w.drewN nq=W:=⟨_,rfl⟩
 rw [hwA] at HDA1 HFA ⊢
 obtain ⟨d0,d1,d5,-,-,-,-⟩:=HDA1.out.cells
 clear hwA HDA c0 c1 c5
 go_wp2
 go_quiet (fail)
 have HDB:=HDA1.out.drew nq
 have HDB1:Hid (Dt (wA.drewN nq) B P R s now d (.ok i) ns own):=HDB.1
 have HFB:Hid (DFr B P w (wA.drewN nq)):=HFA.out.two HDB.2
 obtain ⟨wB,hwB⟩:∃W,wA.drewN nq=W:=⟨_,rfl⟩
 rw [hwB] at HDB1 HFB ⊢
 obtain ⟨g0,g1,g5,-,-,-,-⟩:=HDB1.out.cells
 clear hwB HDB d0 d1 d5
 go_wp2_with (first | (go_at_call 82;refine (CQ.out _ HDB1.out).mono ?_))
 rintro e w2 ⟨h1,h2,hf2⟩
 have HF2:Hid (DFr B P w w2):=HFB.out.two hf2
 clear hf2
 match G,h1,h2,HQ with
 | .error c,_,h2,HQ =>
  obtain ⟨t,rfl,hd2⟩:=h2 c rfl
  have HD2:Hid (Dt w2 B P R s now d (.error c) ns own):=hd2
  have HQ2:Hid (Q=.error c):=HQ.out.symm
  clear h2 hd2
  go_wp2_with (first | (go_at_call 17;refine (CA.out _ t _ HD2.out).mono ?_;rintro e w3 ⟨rfl,hd3,hf3⟩))
  refine bodyPost_end (results_none rfl _ _ _) rfl ?_
  rw [HQ2.out]
  exact ⟨rfl,fun j ns' hh=>(by cases hh),fun c' hh=>(by injection hh with hh;subst hh;exact hd3.fq),HF2.out.two hf3⟩
 | .ok (t,j),h1,_,HQ =>
  obtain ⟨rfl,hd2⟩:=h1 t j rfl
  have HD2:Hid (Dt w2 B P R s now d (.ok j) ns own):=hd2
  have HQ2:Hid (Q=.ok (j,addN ns up ⟨3,k,t,0,[],p⟩)):=HQ.out.symm
  clear h1 hd2
  go_wp2_with (first | (go_at_call 17;refine (CA.out _ t _ HD2.out).mono ?_;rintro e w3 ⟨rfl,hd3,hf3⟩))
  refine bodyPost_end (results_none rfl _ _ _) rfl ?_
  rw [HQ2.out]
  exact ⟨rfl,fun j ns' hh=>(by cases hh;exact hd3),fun c' hh=>(by cases hh),HF2.out.two hf3⟩
end Go.Proofs.YtbgnflcebafjjaaGreatDoor
namespace Go.Proofs.YtbgnflcebafjjaaGreatDoor
open Go.RowKit Go.Maps Go.WideMaps Go.Joins
set_option linter.unusedVariables false
set_option maxRecDepth 100000 in
set_option maxHeartbeats 3200000 in
theorem dVal_i (f:Nat) (B P R:Nat) (s:ByteArray) (own:List Nat) (now i up:Nat) (k:List UInt8) (p d:Nat) (ns:List Tn) (w:World) (h:Dt w B P R s now d (.ok i) ns own) (hs:s.size<=100000) (W:WF ns own) (V:WT ns) (hu:up < ns.length) (hk2:¬ kdAt ns up=2) (hd:d<=8) (hsz:ns.length+(s.size - i)<=700000) (hf:2 * (s.size - i)+1<=f+1) (hx:nx s.data.toList i=43\/nx s.data.toList i=45\/isDg (nx s.data.toList i)=true) :
  Calls Tryz.prog 57 #[.pointer (some ⟨R,0,none⟩),.int .i64 (up:Nat),.string ⟨k.toArray⟩,.int .i64 (p:Nat)] w (DvPost B P R s now d own (val s.data.toList (f+1) i up k p d ns) w):=by
 have hl:s.data.toList.length=s.size:=by simp
 obtain ⟨c0,c1,c5,-,-,hi,-⟩:=h.cells
 have HD:Hid (Dt w B P R s now d (.ok i) ns own):=h
 have hx34:¬ nx s.data.toList i=34:=fun e=>by rw [e] at hx;revert hx;decide
 have hx91:¬ nx s.data.toList i=91:=fun e=>by rw [e] at hx;revert hx;decide
 rw [val_i _ _ _ _ _ _ _ _ hx34 hx]
 have hlt0:i < s.size:=by
  have:=nx_lt (l:=s.data.toList) (i:=i) (by
   rcases hx with h | h | h
   ·rw [h];decide
   ·rw [h];decide
   ·have:=of_decide_eq_true h;omega)
  omega
 have hlt:i < s.size:=hlt0
 have hge:decide ((s.size:Int)<=(i:Int))=false:=by simp;omega
 have hge2:¬ (s.size:Int)<=(i:Int):=by omega
 have HXX:Hid (nx s.data.toList i=(s[i].toNat:Int)):=byte_at s i hlt
 have q34:((s[i].toNat:Int) == 34)=false:=by rw [beq_eq_false_iff_ne,<-HXX.out];exact hx34
 have q91:((s[i].toNat:Int) == 91)=false:=by rw [beq_eq_false_iff_ne,<-HXX.out];exact hx91
 have CD:Hid (∀w,Calls Tryz.prog 84 #[.int .u8 (s[i].toNat:Int)] w fun e w'=>e=.returned (.bool (isDg (s[i].toNat:Int)))/\w'=w):=dDigit_any s[i]
 have HOR:Hid (((s[i].toNat:Int) == 43)=true\/(((s[i].toNat:Int) == 43)=false/\((s[i].toNat:Int) == 45)=true)\/(((s[i].toNat:Int) == 43)=false/\((s[i].toNat:Int) == 45)=false/\isDg (s[i].toNat:Int)=true)):=by
  show _\/_
  rw [HXX.out] at hx
  by_cases h1:(s[i].toNat:Int)=43
  ·left;simpa using h1
  ·by_cases h2:(s[i].toNat:Int)=45
   ·right;left;exact ⟨by simpa using h1,by simpa using h2⟩
   ·right;right
    exact ⟨by simpa using h1,by simpa using h2,by rcases hx with h | h | h;exact (h1 h).elim;exact (h2 h).elim;exact h⟩
 have CQ:Hid (∀w,Dt w B P R s now d (.ok i) ns own->Calls Tryz.prog 85 #[.pointer (some ⟨R,0,none⟩)] w (IqPost B P R s now d ns own (rdInt s.data.toList i) w)):=fun w h=>qInt B P R s now d i ns own w h hlt hx hs
 have CA:Hid (∀(q:Rs Nat) (t:Int) w,Dt w B P R s now d q ns own->Calls Tryz.prog 17 #[.pointer (some ⟨R,0,none⟩),.int .i64 (up:Nat),.agg #[.int .i64 4,.string ⟨k.toArray⟩,.string ⟨#[]⟩,.int .i64 t,.slice none 0 0,.int .i64 (p:Nat)]] w (DaPost B P R s now d q ns own (addN ns up ⟨4,k,[],t,[],p⟩) w)):=fun q t w h=>dAdd_any B P R s now d q ns own up 4 t k [] p w h W hu (by omega)
 obtain ⟨G,hG⟩:∃G,rdInt s.data.toList i=G:=⟨_,rfl⟩
 rw [hG] at CQ ⊢
 obtain ⟨Q,hQ⟩:∃Q:Rs (Nat × List Tn),(vFin (fun n=>addN ns up ⟨4,k,[],n,[],p⟩) G)=Q:=⟨_,rfl⟩
 have HQ:Hid ((vFin (fun n=>addN ns up ⟨4,k,[],n,[],p⟩) G)=Q):=hQ
 rw [hQ]
 obtain ⟨bd,hbd⟩:∃b,isDg (s[i].toNat:Int)=b:=⟨_,rfl⟩
 rw [hbd] at CD HOR
 clear h hx hG hQ V W hk2 HXX hx34 hx91 hbd
 go_enter Tryz.func57,Tryz.ntmps57
 go_wp2
 go_quiet (fail)
 have HDA:=HD.out.drew nq
 have HDA1:Hid (Dt (w.drewN nq) B P R s now d (.ok i) ns own):=HDA.1
 have HFA:Hid (DFr B P w (w.drewN nq)):=HDA.2
 obtain ⟨wA,hwA⟩:∃W,w.drewN nq=W:=⟨_,rfl⟩
 rw [hwA] at HDA1 HFA ⊢
 obtain ⟨d0,d1,d5,-,-,-,-⟩:=HDA1.out.cells
 clear hwA HDA c0 c1 c5
 go_wp2
 go_quiet (fail)
 have HDB:=HDA1.out.drew nq
 have HDB1:Hid (Dt (wA.drewN nq) B P R s now d (.ok i) ns own):=HDB.1
 have HFB:Hid (DFr B P w (wA.drewN nq)):=HFA.out.two HDB.2
 obtain ⟨wB,hwB⟩:∃W,wA.drewN nq=W:=⟨_,rfl⟩
 rw [hwB] at HDB1 HFB ⊢
 obtain ⟨g0,g1,g5,-,-,-,-⟩:=HDB1.out.cells
 clear hwB HDB d0 d1 d5
 rcases HOR.out with q43 | ⟨q43,q45⟩ | ⟨q43,q45,rfl⟩
 ·go_wp2_with (first | (go_at_call 85;refine (CQ.out _ HDB1.out).mono ?_))
  rintro e w2 ⟨h1,h2,hf2⟩
  have HF2:Hid (DFr B P w w2):=HFB.out.two hf2
  clear hf2
  match G,h1,h2,HQ with
  | .error c,_,h2,HQ =>
   obtain ⟨t,rfl,hd2⟩:=h2 c rfl
   have HD2:Hid (Dt w2 B P R s now d (.error c) ns own):=hd2
   have HQ2:Hid (Q=.error c):=HQ.out.symm
   clear h2 hd2
   go_wp2_with (first | (go_at_call 17;refine (CA.out _ t _ HD2.out).mono ?_;rintro e w3 ⟨rfl,hd3,hf3⟩))
   refine bodyPost_end (results_none rfl _ _ _) rfl ?_
   rw [HQ2.out]
   exact ⟨rfl,fun j ns' hh=>(by cases hh),fun c' hh=>(by injection hh with hh;subst hh;exact hd3.fq),HF2.out.two hf3⟩
  | .ok (t,j),h1,_,HQ =>
   obtain ⟨rfl,hd2⟩:=h1 t j rfl
   have HD2:Hid (Dt w2 B P R s now d (.ok j) ns own):=hd2
   have HQ2:Hid (Q=.ok (j,addN ns up ⟨4,k,[],t,[],p⟩)):=HQ.out.symm
   clear h1 hd2
   go_wp2_with (first | (go_at_call 17;refine (CA.out _ t _ HD2.out).mono ?_;rintro e w3 ⟨rfl,hd3,hf3⟩))
   refine bodyPost_end (results_none rfl _ _ _) rfl ?_
   rw [HQ2.out]
   exact ⟨rfl,fun j ns' hh=>(by cases hh;exact hd3),fun c' hh=>(by cases hh),HF2.out.two hf3⟩
 ·go_wp2_with (first | (go_at_call 85;refine (CQ.out _ HDB1.out).mono ?_))
  rintro e w2 ⟨h1,h2,hf2⟩
  have HF2:Hid (DFr B P w w2):=HFB.out.two hf2
  clear hf2
  match G,h1,h2,HQ with
  | .error c,_,h2,HQ =>
   obtain ⟨t,rfl,hd2⟩:=h2 c rfl
   have HD2:Hid (Dt w2 B P R s now d (.error c) ns own):=hd2
   have HQ2:Hid (Q=.error c):=HQ.out.symm
   clear h2 hd2
   go_wp2_with (first | (go_at_call 17;refine (CA.out _ t _ HD2.out).mono ?_;rintro e w3 ⟨rfl,hd3,hf3⟩))
   refine bodyPost_end (results_none rfl _ _ _) rfl ?_
   rw [HQ2.out]
   exact ⟨rfl,fun j ns' hh=>(by cases hh),fun c' hh=>(by injection hh with hh;subst hh;exact hd3.fq),HF2.out.two hf3⟩
  | .ok (t,j),h1,_,HQ =>
   obtain ⟨rfl,hd2⟩:=h1 t j rfl
   have HD2:Hid (Dt w2 B P R s now d (.ok j) ns own):=hd2
   have HQ2:Hid (Q=.ok (j,addN ns up ⟨4,k,[],t,[],p⟩)):=HQ.out.symm
   clear h1 hd2
   go_wp2_with (first | (go_at_call 17;refine (CA.out _ t _ HD2.out).mono ?_;rintro e w3 ⟨rfl,hd3,hf3⟩))
   refine bodyPost_end (results_none rfl _ _ _) rfl ?_
   rw [HQ2.out]
   exact ⟨rfl,fun j ns' hh=>(by cases hh;exact hd3),fun c' hh=>(by cases hh),HF2.out.two hf3⟩
 ·go_wp2_with (first | (go_at_call 85;refine (CQ.out _ HDB1.out).mono ?_) | (go_at_call 84;refine (CD.out _).mono ?_;rintro e w' ⟨rfl,rfl⟩))
  rintro e w2 ⟨h1,h2,hf2⟩
  have HF2:Hid (DFr B P w w2):=HFB.out.two hf2
  clear hf2
  match G,h1,h2,HQ with
  | .error c,_,h2,HQ =>
   obtain ⟨t,rfl,hd2⟩:=h2 c rfl
   have HD2:Hid (Dt w2 B P R s now d (.error c) ns own):=hd2
   have HQ2:Hid (Q=.error c):=HQ.out.symm
   clear h2 hd2
   go_wp2_with (first | (go_at_call 17;refine (CA.out _ t _ HD2.out).mono ?_;rintro e w3 ⟨rfl,hd3,hf3⟩))
   refine bodyPost_end (results_none rfl _ _ _) rfl ?_
   rw [HQ2.out]
   exact ⟨rfl,fun j ns' hh=>(by cases hh),fun c' hh=>(by injection hh with hh;subst hh;exact hd3.fq),HF2.out.two hf3⟩
  | .ok (t,j),h1,_,HQ =>
   obtain ⟨rfl,hd2⟩:=h1 t j rfl
   have HD2:Hid (Dt w2 B P R s now d (.ok j) ns own):=hd2
   have HQ2:Hid (Q=.ok (j,addN ns up ⟨4,k,[],t,[],p⟩)):=HQ.out.symm
   clear h1 hd2
   go_wp2_with (first | (go_at_call 17;refine (CA.out _ t _ HD2.out).mono ?_;rintro e w3 ⟨rfl,hd3,hf3⟩))
   refine bodyPost_end (results_none rfl _ _ _) rfl ?_
   rw [HQ2.out]
   exact ⟨rfl,fun j ns' hh=>(by cases hh;exact hd3),fun c' hh=>(by cases hh),HF2.out.two hf3⟩
end Go.Proofs.YtbgnflcebafjjaaGreatDoor
namespace Go.Proofs.YtbgnflcebafjjaaGreatDoor
open Go.RowKit Go.Maps Go.WideMaps Go.Joins
set_option linter.unusedVariables false
set_option maxRecDepth 100000 in
set_option maxHeartbeats 3200000 in
theorem dVal_l (f:Nat) (CL:DlC f) (B P R:Nat) (s:ByteArray) (own:List Nat) (now i up:Nat) (k:List UInt8) (p d:Nat) (ns:List Tn) (w:World) (h:Dt w B P R s now d (.ok i) ns own) (hs:s.size<=100000) (W:WF ns own) (V:WT ns) (hu:up < ns.length) (hk2:¬ kdAt ns up=2) (hd:d<=8) (hsz:ns.length+(s.size - i)<=700000) (hf:2 * (s.size - i)+1<=f+1) (hx:nx s.data.toList i=91) :
  Calls Tryz.prog 57 #[.pointer (some ⟨R,0,none⟩),.int .i64 (up:Nat),.string ⟨k.toArray⟩,.int .i64 (p:Nat)] w (DvPost B P R s now d own (val s.data.toList (f+1) i up k p d ns) w):=by
 have hl:s.data.toList.length=s.size:=by simp
 obtain ⟨c0,c1,c5,-,-,hi,-⟩:=h.cells
 have HD:Hid (Dt w B P R s now d (.ok i) ns own):=h
 rw [val_step]
 rw [if_neg (by rw [hx];decide),if_neg (by rw [hx];decide),if_neg (by rw [hx];decide),if_pos hx]
 have hlt0:i < s.size:=by have:=nx_lt (l:=s.data.toList) (i:=i) (by omega);omega
 have hlt:i < s.size:=hlt0
 have hge:decide ((s.size:Int)<=(i:Int))=false:=by simp;omega
 have hge2:¬ (s.size:Int)<=(i:Int):=by omega
 have HXX:Hid (nx s.data.toList i=(s[i].toNat:Int)):=byte_at s i hlt
 have q34:((s[i].toNat:Int) == 34)=false:=by rw [beq_eq_false_iff_ne,<-HXX.out];rw [hx];decide
 have q91:((s[i].toNat:Int) == 91)=true:=by rw [<-HXX.out,hx];rfl
 have CQ:Hid (∀w,Dt w B P R s now d (.ok i) ns own->Calls Tryz.prog 83 #[.pointer (some ⟨R,0,none⟩),.int .i64 (up:Nat),.string ⟨k.toArray⟩,.int .i64 (p:Nat)] w (DvPost B P R s now d own (if d=8 then .error (4,i) else lst s.data.toList f (i+1) ns.length (d+1) (addN ns up ⟨1,k,[],0,[],p⟩)) w)):=fun w h=>CL B P R s own now i up k p d ns w h hs hx W V hu hk2 hd hsz (by omega)
 obtain ⟨G,hG⟩:∃G:Rs (Nat × List Tn),(if d=8 then .error (4,i) else lst s.data.toList f (i+1) ns.length (d+1) (addN ns up ⟨1,k,[],0,[],p⟩))=G:=⟨_,rfl⟩
 rw [hG] at CQ ⊢
 clear h hx hG V W hk2 HXX
 go_enter Tryz.func57,Tryz.ntmps57
 go_wp2
 go_quiet (fail)
 have HDA:=HD.out.drew nq
 have HDA1:Hid (Dt (w.drewN nq) B P R s now d (.ok i) ns own):=HDA.1
 have HFA:Hid (DFr B P w (w.drewN nq)):=HDA.2
 obtain ⟨wA,hwA⟩:∃W,w.drewN nq=W:=⟨_,rfl⟩
 rw [hwA] at HDA1 HFA ⊢
 obtain ⟨d0,d1,d5,-,-,-,-⟩:=HDA1.out.cells
 clear hwA HDA c0 c1 c5
 go_wp2
 go_quiet (fail)
 have HDB:=HDA1.out.drew nq
 have HDB1:Hid (Dt (wA.drewN nq) B P R s now d (.ok i) ns own):=HDB.1
 have HFB:Hid (DFr B P w (wA.drewN nq)):=HFA.out.two HDB.2
 obtain ⟨wB,hwB⟩:∃W,wA.drewN nq=W:=⟨_,rfl⟩
 rw [hwB] at HDB1 HFB ⊢
 obtain ⟨g0,g1,g5,-,-,-,-⟩:=HDB1.out.cells
 clear hwB HDB d0 d1 d5
 go_wp2_with (first | (go_at_call 83;refine (CQ.out _ HDB1.out).mono ?_;rintro e w2 ⟨rfl,h1,h2,hf2⟩))
 refine bodyPost_end (results_none rfl _ _ _) rfl ?_
 exact ⟨rfl,h1,h2,HFB.out.two hf2⟩
end Go.Proofs.YtbgnflcebafjjaaGreatDoor
namespace Go.Proofs.YtbgnflcebafjjaaGreatDoor
open Go.RowKit Go.Maps Go.WideMaps Go.Joins
set_option linter.unusedVariables false
set_option maxRecDepth 100000 in
set_option maxHeartbeats 3200000 in
theorem dVal_x (f:Nat) (B P R:Nat) (s:ByteArray) (own:List Nat) (now i up:Nat) (k:List UInt8) (p d:Nat) (ns:List Tn) (w:World) (h:Dt w B P R s now d (.ok i) ns own) (hs:s.size<=100000) (W:WF ns own) (V:WT ns) (hu:up < ns.length) (hk2:¬ kdAt ns up=2) (hd:d<=8) (hsz:ns.length+(s.size - i)<=700000) (hf:2 * (s.size - i)+1<=f+1) (hlt0:i < s.size) (n34:¬ nx s.data.toList i=34) (nin:¬ (nx s.data.toList i=43\/nx s.data.toList i=45\/isDg (nx s.data.toList i)=true)) (ntf:¬ (nx s.data.toList i=116\/nx s.data.toList i=102)) (n91:¬ nx s.data.toList i=91) :
  Calls Tryz.prog 57 #[.pointer (some ⟨R,0,none⟩),.int .i64 (up:Nat),.string ⟨k.toArray⟩,.int .i64 (p:Nat)] w (DvPost B P R s now d own (val s.data.toList (f+1) i up k p d ns) w):=by
 have hl:s.data.toList.length=s.size:=by simp
 obtain ⟨c0,c1,c5,-,-,hi,-⟩:=h.cells
 have HD:Hid (Dt w B P R s now d (.ok i) ns own):=h
 rw [val_step]
 rw [if_neg n34,if_neg nin,if_neg ntf,if_neg n91]
 have n43:¬ nx s.data.toList i=43:=fun e=>nin (Or.inl e)
 have n45:¬ nx s.data.toList i=45:=fun e=>nin (Or.inr (Or.inl e))
 have ndg:isDg (nx s.data.toList i)=false:=by cases hh:isDg (nx s.data.toList i);rfl;exact (nin (Or.inr (Or.inr hh))).elim
 have n116:¬ nx s.data.toList i=116:=fun e=>ntf (Or.inl e)
 have n102:¬ nx s.data.toList i=102:=fun e=>ntf (Or.inr e)
 have hlt:i < s.size:=hlt0
 have hge:decide ((s.size:Int)<=(i:Int))=false:=by simp;omega
 have hge2:¬ (s.size:Int)<=(i:Int):=by omega
 have HXX:Hid (nx s.data.toList i=(s[i].toNat:Int)):=byte_at s i hlt
 have q34:((s[i].toNat:Int) == 34)=false:=by rw [beq_eq_false_iff_ne,<-HXX.out];exact n34
 have q91:((s[i].toNat:Int) == 91)=false:=by rw [beq_eq_false_iff_ne,<-HXX.out];exact n91
 have q43:((s[i].toNat:Int) == 43)=false:=by rw [beq_eq_false_iff_ne,<-HXX.out];exact n43
 have q45:((s[i].toNat:Int) == 45)=false:=by rw [beq_eq_false_iff_ne,<-HXX.out];exact n45
 have q116:((s[i].toNat:Int) == 116)=false:=by rw [beq_eq_false_iff_ne,<-HXX.out];exact n116
 have q102:((s[i].toNat:Int) == 102)=false:=by rw [beq_eq_false_iff_ne,<-HXX.out];exact n102
 have CD:Hid (∀w,Calls Tryz.prog 84 #[.int .u8 (s[i].toNat:Int)] w fun e w'=>e=.returned (.bool false)/\w'=w):=fun w=>by
  have:=dDigit_any s[i] w
  rw [<-HXX.out,ndg] at this
  rw [<-HXX.out]
  exact this
 have CF:Hid (∀w,Dt w B P R s now d (.ok i) ns own->Calls Tryz.prog 55 #[.pointer (some ⟨R,0,none⟩),.int .i64 2,.int .i64 (i:Nat)] w fun e w'=>e=.returned (.tuple #[])/\Dt w' B P R s now d (.error (2,i)) ns own/\DFr B P w w'):=fun w h=>qFail B P R s now d ns own i w h 2 (by decide) i
 clear h V W hk2 HXX n34 nin ntf n91 n43 n45 ndg n116 n102
 go_enter Tryz.func57,Tryz.ntmps57
 go_wp2
 go_quiet (fail)
 have HDA:=HD.out.drew nq
 have HDA1:Hid (Dt (w.drewN nq) B P R s now d (.ok i) ns own):=HDA.1
 have HFA:Hid (DFr B P w (w.drewN nq)):=HDA.2
 obtain ⟨wA,hwA⟩:∃W,w.drewN nq=W:=⟨_,rfl⟩
 rw [hwA] at HDA1 HFA ⊢
 obtain ⟨d0,d1,d5,-,-,-,-⟩:=HDA1.out.cells
 clear hwA HDA c0 c1 c5
 go_wp2
 go_quiet (fail)
 have HDB:=HDA1.out.drew nq
 have HDB1:Hid (Dt (wA.drewN nq) B P R s now d (.ok i) ns own):=HDB.1
 have HFB:Hid (DFr B P w (wA.drewN nq)):=HFA.out.two HDB.2
 obtain ⟨wB,hwB⟩:∃W,wA.drewN nq=W:=⟨_,rfl⟩
 rw [hwB] at HDB1 HFB ⊢
 obtain ⟨g0,g1,g5,-,-,-,-⟩:=HDB1.out.cells
 clear hwB HDB d0 d1 d5
 go_wp2_with (first | (go_at_call 84;refine (CD.out _).mono ?_;rintro e w' ⟨rfl,rfl⟩) | (go_at_call 55;refine (CF.out _ HDB1.out).mono ?_;rintro e w2 ⟨rfl,hd2,hf2⟩))
 refine bodyPost_end (results_none rfl _ _ _) rfl ?_
 exact ⟨rfl,fun j ns' hh=>(by cases hh),fun c hh=>(by cases hh;exact hd2.fq),HFB.out.two hf2⟩
end Go.Proofs.YtbgnflcebafjjaaGreatDoor
