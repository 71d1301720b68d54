import Derived.Test.YtnnbgjaphfhibaaGreatDoorN25
import Derived.Test.YtnnbgjaphfhibaaGreatDoorN26
import Derived.Test.YtnnbgjaphfhibaaGreatDoorN11
set_option linter.unusedVariables false
set_option linter.unusedSimpArgs false
set_option maxRecDepth 100000
set_option maxHeartbeats 6400000
open Go.Proofs.Tryz
namespace Go.Proofs.YtnnbgjaphfhibaaGreatDoor
open Go.RowKit Go.Maps Go.WideMaps Go.Joins
def Fq(w:World)(B P R:Nat)(s:ByteArray)(now de:Nat)(e:Int × Nat):Prop:=∃L O,Ds w R s L O now de (.error e)/\B<=R/\¬P=R/\P<w.heap.size
def Dq(w:World)(B P R:Nat)(s:ByteArray)(now de:Nat)(q:Rs Nat)(ns:List Tn)(own:List Nat):Prop:=match q with | .ok i=>Dt w B P R s now de (.ok i) ns own | .error e=>Fq w B P R s now de e
section
variable {w w':World} {B P R:Nat} {s:ByteArray} {now de:Nat} {q q':Rs Nat} {ns:List Tn} {own:List Nat}
theorem Dt.fq{e:Int × Nat}(h:Dt w B P R s now de (.error e) ns own):Fq w B P R s now de e:=by
 obtain⟨h1,h2,N,c,O,oc,xs,ks,h3,h4,h5,h6⟩:=h;exact⟨_,_,h6,h1,h2,h5.hP⟩
theorem Dt.dq(h:Dt w B P R s now de q ns own):Dq w B P R s now de q ns own:=by
 match q,h with
 | .ok i,h=>exact h
 | .error e,h=>exact h.fq
theorem Dt.base(h:Dt w B P R s now de q ns own):B<=w.heap.size/\P<w.heap.size/\R<w.heap.size:=by
 obtain⟨h1,h2,N,c,O,oc,xs,ks,h3,h4,h5,h6⟩:=h;obtain⟨i,er,p,hd⟩:=h6.dd;exact⟨Nat.le_of_lt (Nat.lt_of_le_of_lt h1 (aA hd)),h5.hP,aA hd⟩
theorem qV{L O:Value}(hd:Ds w R s L O now de q)(hB:B<=R)(hP:¬P=R)(hPs:P<w.heap.size)(hg:w.grownBy w' (some R)):DFr B P w w':=by
 obtain⟨i,er,p,hdd⟩:=hd.dd;exact DFr.row hg (Nat.le_of_lt (Nat.lt_of_le_of_lt hB (aA hdd))) hPs hB hP hdd (Or.inl rfl)
theorem Dt.keep(h:Dt w B P R s now de q ns own)(hs:∀L O,Ds w R s L O now de q->Ds w' R s L O now de q')(hg:w.grownBy w' (some R)):Dt w' B P R s now de q' ns own/\DFr B P w w':=by
 obtain⟨h1,h2,N,c,O,oc,xs,ks,h3,h4,h5,h6⟩:=h;obtain⟨i,er,p,hdd⟩:=h6.dd;exact⟨⟨h1,h2,N,c,O,oc,xs,ks,h3,h4,h5.keepR hdd hg,hs _ _ h6⟩,qV h6 h1 h2 h5.hP hg⟩
end
theorem GX{B P R:Nat}{s:ByteArray}{now de:Nat}{ns:List Tn}{own:List Nat}{fn:Nat}{args:Array Value}(F:Rs Nat->Rs Nat)(hF:∀e,F (.error e)=.error e)(C:∀L O w q,Ds w R s L O now de q->Calls prog fn args w fun e w'=>e=.returned (.tuple #[])/\Ds w' R s L O now de (F q)/\w.grownBy w' (some R))(q:Rs Nat)(w:World)(h:Dq w B P R s now de q ns own) :
  Calls prog fn args w fun e w'=>e=.returned (.tuple #[])/\Dq w' B P R s now de (F q) ns own/\DFr B P w w':=by
 match q,h with
 | .error e,⟨L,O,h1,h2,h3,h4⟩ =>
  refine(C L O w _ h1).mono ?_;rintro e' w' ⟨rfl,a,b⟩;rw[hF]at a ⊢;exact⟨rfl,⟨L,O,a,h2,h3,Nat.lt_of_lt_of_le h4 b.size⟩,qV h1 h2 h3 h4 b⟩
 | .ok i,h =>
  obtain⟨h1,h2,N,c,O,oc,xs,ks,h3,h4,h5,h6⟩:=h;refine(C _ _ w _ h6).mono ?_;rintro e' w' ⟨rfl,a,b⟩;obtain⟨ii,er,p,hdd⟩:=h6.dd;exact⟨rfl,Dt.dq ⟨h1,h2,N,c,O,oc,xs,ks,h3,h4,h5.keepR hdd b,a⟩,qV h6 h1 h2 h5.hP b⟩
section
variable (B P R:Nat) (s:ByteArray) (now de:Nat) (ns:List Tn) (own:List Nat) (q:Rs Nat) (w:World) (h:Dq w B P R s now de q ns own) (hs:s.size<=100000)
include h hs
theorem MG(c:Int)(hc:0<=c):Calls prog 56 #[.pointer (some ⟨R,0,none⟩),.int .u8 c] w fun e w'=>e=.returned (.tuple #[])/\Dq w' B P R s now de (q.bind fun i=>must s.data.toList i c) ns own/\DFr B P w w' :=
 GX (fun q=>q.bind fun i=>must s.data.toList i c) (fun _=>rfl) (fun L O w q h=>I7 R s L O now de q c hc w h (by omega)) q w h
theorem UF:Calls prog 51 #[.pointer (some ⟨R,0,none⟩)] w fun e w'=>e=.returned (.tuple #[])/\Dq w' B P R s now de (q.bind fun i=>.ok (bl s.data.toList i)) ns own/\DFr B P w w' :=
 GX (fun q=>q.bind fun i=>.ok (bl s.data.toList i)) (fun _=>rfl) (fun L O w q h=>PV R s L O now de q w h (by omega)) q w h
theorem abR:Calls prog 55 #[.pointer (some ⟨R,0,none⟩)] w fun e w'=>e=.returned (.tuple #[])/\Dq w' B P R s now de (q.bind (gz s.data.toList)) ns own/\DFr B P w w' :=
 GX (fun q=>q.bind (gz s.data.toList)) (fun _=>rfl) (fun L O w q h=>Qa R s L O now de q w h (by omega)) q w h
theorem abS:Calls prog 162 #[.pointer (some ⟨R,0,none⟩)] w fun e w'=>e=.returned (.tuple #[])/\Dq w' B P R s now de (q.bind (gap s.data.toList (s.data.toList.length+1))) ns own/\DFr B P w w' :=
 GX (fun q=>q.bind (gap s.data.toList (s.data.toList.length+1))) (fun _=>rfl) (fun L O w q h=>Yi R s L O now de q w h (by omega)) q w h
theorem UG(c:Int)(hc:0<=c):Calls prog 52 #[.pointer (some ⟨R,0,none⟩),.int .u8 c] w fun e w'=>e=.returned (.bool (ed s.data.toList q c))/\Dq w' B P R s now de q ns own/\DFr B P w w':=by
 match q,h with
 | .error e,⟨L,O,h1,h2,h3,h4⟩ =>
  refine(rG R s L O now de _ c hc w h1 (by omega)).mono ?_;rintro e' w' ⟨rfl,b⟩;obtain⟨ii,er,p,hdd⟩:=h1.dd;exact⟨rfl,⟨L,O,h1.grow b,h2,h3,Nat.lt_of_lt_of_le h4 b.size⟩,DFr.gb b (Nat.le_of_lt (Nat.lt_of_le_of_lt h2 (aA hdd))) h4⟩
 | .ok i,h =>
  obtain⟨h1,h2,N,c',O,oc,xs,ks,h3,h4,h5,h6⟩:=h;refine(rG R s _ _ now de _ c hc w h6 (by omega)).mono ?_;rintro e' w' ⟨rfl,b⟩;obtain⟨ii,er,p,hdd⟩:=h6.dd;exact⟨rfl,⟨h1,h2,N,c',O,oc,xs,ks,h3,h4,h5.gb b,h6.grow b⟩,DFr.gb b (Nat.le_of_lt (Nat.lt_of_le_of_lt h1 (aA hdd))) h5.hP⟩
end
theorem xW(B P R:Nat)(s:ByteArray)(now de:Nat)(ns:List Tn)(own:List Nat)(i:Nat)(w:World)(h:Dt w B P R s now de (.ok i) ns own)(c:Int)(hc:c≠0)(a:Nat) :
  Calls prog 82 #[.pointer (some ⟨R,0,none⟩),.int .i64 c,.int .i64 (a:Nat)] w fun e w'=>e=.returned (.tuple #[])/\Dt w' B P R s now de (.error (c,a)) ns own/\DFr B P w w':=by
 have h0:=h;obtain⟨h1,h2,N,c',O,oc,xs,ks,h3,h4,h5,h6⟩:=h;refine(oV R s _ _ now de i c a w h6.2).mono ?_;rintro e' w' ⟨rfl,a1,b⟩;exact⟨rfl,⟨h1,h2,N,c',O,oc,xs,ks,h3,h4,h5.keepR h6.2 b,⟨hc,i,h6.1,a1⟩⟩,qV h6 h1 h2 h5.hP b⟩
def pM(B P R:Nat)(s:ByteArray)(now de:Nat)(own:List Nat)(g:Rs (Nat × List Tn))(w:World)(e:Ending)(w':World):Prop:=e=.returned (.tuple #[])/\(∀j ns',g=.ok (j,ns')->Dt w' B P R s now de (.ok j) ns' own)/\(∀c,g=.error c->Fq w' B P R s now de c)/\DFr B P w w'
def MH(f:Nat):Prop:=∀(B P R:Nat) (s:ByteArray) (own:List Nat) (now i up:Nat) (k:List UInt8) (p d:Nat) (ns:List Tn) (w:World),Dt w B P R s now d (.ok i) ns own->s.size<=100000->WF ns own->WT ns->up<ns.length->¬aj ns up=2->d<=8->ns.length+(s.size-i)<=700000->2*(s.size-i)+1<=f →
 Calls prog 83 #[.pointer (some ⟨R,0,none⟩),.int .i64 (up:Nat),.string ⟨k.toArray⟩,.int .i64 (p:Nat)] w (pM B P R s now d own (val s.data.toList f i up k p d ns) w)
def Cb(f:Nat):Prop:=∀(B P R:Nat) (s:ByteArray) (own:List Nat) (now i up:Nat) (k:List UInt8) (p d:Nat) (ns:List Tn) (w:World),Dt w B P R s now d (.ok i) ns own->s.size<=100000->nx s.data.toList i=91->WF ns own->WT ns->up<ns.length->¬aj ns up=2->d<=8->ns.length+(s.size-i)<=700000->2*(s.size-i)<=f →
 Calls prog 121 #[.pointer (some ⟨R,0,none⟩),.int .i64 (up:Nat),.string ⟨k.toArray⟩,.int .i64 (p:Nat)] w (pM B P R s now d own (if d=8 then .error (4,i) else lst s.data.toList f (i+1) ns.length (d+1) (addN ns up ⟨1,k,[],0,[],p⟩)) w)
open Go.RowKit Go.Maps Go.WideMaps Go.Joins
def UH(B P R:Nat)(s:ByteArray)(now de:Nat)(ns:List Tn)(own:List Nat)(g:Rs (List UInt8 × Nat))(w:World)(e:Ending)(w':World):Prop:=(∀t j,g=.ok (t,j)->e=.returned (.string ⟨t.toArray⟩)/\Dt w' B P R s now de (.ok j) ns own)/\(∀c,g=.error c->∃t:List UInt8,e=.returned (.string ⟨t.toArray⟩)/\Dt w' B P R s now de (.error c) ns own)/\DFr B P w w'
theorem abT(B P R:Nat)(s:ByteArray)(now de i:Nat)(ns:List Tn)(own:List Nat)(w:World)(h:Dt w B P R s now de (.ok i) ns own)(hx:nx s.data.toList i=34)(hs:s.size<=100000) :
  Calls prog 119 #[.pointer (some ⟨R,0,none⟩)] w (UH B P R s now de ns own (str s.data.toList (s.data.toList.length+1) (i+1) []) w):=by
 have hlt:i<s.size:=by have:=bu (l:=s.data.toList) (i:=i) (by omega);simpa using this
 obtain⟨h1,h2,N,c,O,oc,xs,ks,h3,h4,h5,h6⟩:=h;refine(TC R s _ _ now de i w h6.2 hlt hx (by omega)).mono ?_;rintro e w' ⟨a1,a2,a3⟩;refine⟨fun t j hg=>?_,fun c hg=>?_,qV h6 h1 h2 h5.hP a3⟩
 ·obtain⟨b1,b2⟩:=a1 t j hg;exact⟨b1,h1,h2,N,_,O,oc,xs,ks,h3,h4,h5.keepR h6.2 a3,b2⟩
 ·obtain⟨⟨t,-,b1⟩,b2⟩:=a2 c.1 c.2 hg;exact⟨t,b1,h1,h2,N,_,O,oc,xs,ks,h3,h4,h5.keepR h6.2 a3,b2⟩
def UI(B P R:Nat)(s:ByteArray)(now de:Nat)(ns:List Tn)(own:List Nat)(g:Rs (Int × Nat))(w:World)(e:Ending)(w':World):Prop:=(∀n j,g=.ok (n,j)->e=.returned (.int .i64 n)/\Dt w' B P R s now de (.ok j) ns own)/\(∀c,g=.error c->∃n:Int,e=.returned (.int .i64 n)/\Dt w' B P R s now de (.error c) ns own)/\DFr B P w w'
theorem abU(B P R:Nat)(s:ByteArray)(now de i:Nat)(ns:List Tn)(own:List Nat)(w:World)(h:Dt w B P R s now de (.ok i) ns own)(hi:i<s.size)(hx:nx s.data.toList i=43\/nx s.data.toList i=45\/ax (nx s.data.toList i)=true)(hs:s.size<=100000) :
  Calls prog 123 #[.pointer (some ⟨R,0,none⟩)] w (UI B P R s now de ns own (iQ s.data.toList i) w):=by
 obtain⟨h1,h2,N,c,O,oc,xs,ks,h3,h4,h5,h6⟩:=h;refine(abd R s _ _ now de i w h6.2 hi (by omega) hx).mono ?_;rintro e w' ⟨a1,a2,a3⟩;refine⟨fun t j hg=>?_,fun c hg=>?_,qV h6 h1 h2 h5.hP a3⟩
 ·obtain⟨b1,b2⟩:=a1 t j hg;exact⟨b1,h1,h2,N,_,O,oc,xs,ks,h3,h4,h5.keepR h6.2 a3,b2⟩
 ·obtain⟨⟨t,b1⟩,b2⟩:=a2 c.1 c.2 hg;exact⟨t,b1,h1,h2,N,_,O,oc,xs,ks,h3,h4,h5.keepR h6.2 a3,b2⟩
theorem Dt.cells{w:World}{B P R:Nat}{s:ByteArray}{now de i:Nat}{ns:List Tn}{own:List Nat}(h:Dt w B P R s now de (.ok i) ns own):w.cell? ⟨R,0,none⟩=some (.string s)/\w.cell? ⟨R,1,none⟩=some (.int .i64 (i:Nat))/\w.cell? ⟨R,5,none⟩=some (.int .i64 0)/\w.cell? ⟨R,7,none⟩=some (.int .i64 (de:Nat))/\w.cell? ⟨R,4,none⟩=some (.int .i64 (now:Nat))/\i<=s.size/\∀k,w.frozen? ⟨R,k,none⟩=false:=by
 obtain⟨h1,h2,N,c,O,oc,xs,ks,h3,h4,h5,h6⟩:=h;obtain⟨c0,c1,c2,c3,c4,c5,c6,c7,cf⟩:=h6.2.cells;exact⟨c0,c1,c5,c7,c4,h6.1,cf⟩
theorem Dt.drew{w:World}{B P R:Nat}{s:ByteArray}{now de:Nat}{q:Rs Nat}{ns:List Tn}{own:List Nat}(h:Dt w B P R s now de q ns own)(n:Nat):Dt (w.drewN n) B P R s now de q ns own/\DFr B P w (w.drewN n):=by
 have hb:=h.base;obtain⟨h1,h2,N,c,O,oc,xs,ks,h3,h4,h5,h6⟩:=h;have g:w.grownBy (w.drewN n) none:=au (ak w none) n;exact⟨⟨h1,h2,N,c,O,oc,xs,ks,h3,h4,h5.gb g,h6.grow g⟩,DFr.gb g hb.1 hb.2.1⟩
theorem Fq.err{w:World}{B P R:Nat}{s:ByteArray}{now de:Nat}{e:Int × Nat}(h:Fq w B P R s now de e):w.cell? ⟨R,5,none⟩=some (.int .i64 e.1)/\(e.1 == 0)=false:=by
 obtain⟨L,O,⟨h1,j,h2,h3⟩,-⟩:=h;exact⟨h3.cells.2.2.2.2.2.1,by simpa using h1⟩
def sJ{α:Type}(F:α->List Tn):Rs (α × Nat)->Rs (Nat × List Tn)
 | .error e=>.error e
 | .ok (t,j)=>.ok (j,F t)
theorem abV(l:List UInt8)(f i up:Nat)(k:List UInt8)(p d:Nat)(ns:List Tn)(h:nx l i=34):val l (f+1) i up k p d ns=sJ (fun t=>addN ns up ⟨3,k,t,0,[],p⟩) (str l (l.length+1) (i+1) []):=by
 rw[rJ,if_pos h]
 cases str l (l.length+1) (i+1) []<;>rfl
theorem abW(l:List UInt8)(f i up:Nat)(k:List UInt8)(p d:Nat)(ns:List Tn)(h0:¬nx l i=34)(h:nx l i=43\/nx l i=45\/ax (nx l i)=true):val l (f+1) i up k p d ns=sJ (fun n=>addN ns up ⟨4,k,[],n,[],p⟩) (iQ l i):=by
 rw[rJ,if_neg h0,if_pos h]
 cases iQ l i<;>rfl
theorem abX(l:List UInt8)(f i up:Nat)(k:List UInt8)(p d:Nat)(ns:List Tn)(h:nx l i=116\/nx l i=102):val l (f+1) i up k p d ns=sJ (fun n=>addN ns up ⟨5,k,[],n,[],p⟩) (kH l i):=by
 rw[rJ,if_neg (by rcases h with h|h<;>rw[h]<;>decide),if_neg (by rcases h with h|h<;>rw[h]<;>decide),if_pos h]
 cases kH l i<;>rfl
theorem Dt.err{w:World}{B P R:Nat}{s:ByteArray}{now de:Nat}{ns:List Tn}{own:List Nat}{e:Int × Nat}(h:Dt w B P R s now de (.error e) ns own):w.cell? ⟨R,5,none⟩=some (.int .i64 e.1)/\(e.1 == 0)=false:=h.fq.err
open Go.RowKit Go.Maps Go.WideMaps Go.Joins
theorem abY(f:Nat)(B P R:Nat)(s:ByteArray)(own:List Nat)(now i up:Nat)(k:List UInt8)(p d:Nat)(ns:List Tn)(w:World)(h:Dt w B P R s now d (.ok i) ns own)(hs:s.size<=100000)(W:WF ns own)(V:WT ns)(hu:up<ns.length)(hk2:¬aj ns up=2)(hd:d<=8)(hsz:ns.length+(s.size-i)<=700000)(hf:2*(s.size-i)+1<=f+1)(he:s.size<=i) :
  Calls prog 83 #[.pointer (some ⟨R,0,none⟩),.int .i64 (up:Nat),.string ⟨k.toArray⟩,.int .i64 (p:Nat)] w (pM B P R s now d own (val s.data.toList (f+1) i up k p d ns) w):=by
 have hl:s.data.toList.length=s.size:=by simp
 obtain⟨c0,c1,c5,-,-,hi,-⟩:=h.cells;have HD:Hd (Dt w B P R s now d (.ok i) ns own):=h;rw[rJ];have hn:nx s.data.toList i=-1:=ji _ _ (by omega);rw[if_neg (by rw[hn];decide),if_neg (by rw[hn];decide),if_neg (by rw[hn];decide),if_neg (by rw[hn];decide)];have hge:decide ((s.size:Int)<=(i:Int))=true:=by simp;omega
 have kZ:(s.size:Int)<=(i:Int):=by omega
 have CF:Hd (∀w,Dt w B P R s now d (.ok i) ns own->Calls prog 82 #[.pointer (some ⟨R,0,none⟩),.int .i64 2,.int .i64 (i:Nat)] w fun e w'=>e=.returned (.tuple #[])/\Dt w' B P R s now d (.error (2,i)) ns own/\DFr B P w w'):=fun w h=>xW B P R s now d ns own i w h 2 (by decide) i
 clear h hn he V W hk2;go_enter func83,ntmps83;go_wp2;go_quiet (fail);have aC:=HD.o.drew nq;have dF:Hd (Dt (w.drewN nq) B P R s now d (.ok i) ns own):=aC.1;have bH:Hd (DFr B P w (w.drewN nq)):=aC.2;obtain⟨wA,hwA⟩:∃W,w.drewN nq=W:=⟨_,rfl⟩;rw[hwA]at dF bH ⊢;obtain⟨d0,d1,d5,-,-,-,-⟩:=dF.o.cells;clear hwA aC c0 c1 c5;go_wp2_with (go_at_call 82;refine(CF.o _ dF.o).mono ?_;rintro e w2 ⟨rfl,hd2,hf2⟩;have e5:=hd2.err.1);refine bodyPost_ret (results_none rfl _ _ _) rfl ?_;exact⟨rfl,fun j ns' hh=>(by cases hh),fun c hh=>(by cases hh;exact hd2.fq),bH.o.two hf2⟩
open Go.RowKit Go.Maps Go.WideMaps Go.Joins
theorem abZ(f:Nat)(CL:Cb f)(B P R:Nat)(s:ByteArray)(own:List Nat)(now i up:Nat)(k:List UInt8)(p d:Nat)(ns:List Tn)(w:World)(h:Dt w B P R s now d (.ok i) ns own)(hs:s.size<=100000)(W:WF ns own)(V:WT ns)(hu:up<ns.length)(hk2:¬aj ns up=2)(hd:d<=8)(hsz:ns.length+(s.size-i)<=700000)(hf:2*(s.size-i)+1<=f+1)(hx:nx s.data.toList i=91) :
  Calls prog 83 #[.pointer (some ⟨R,0,none⟩),.int .i64 (up:Nat),.string ⟨k.toArray⟩,.int .i64 (p:Nat)] w (pM B P R s now d own (val s.data.toList (f+1) i up k p d ns) w):=by
 have hl:s.data.toList.length=s.size:=by simp
 obtain⟨c0,c1,c5,-,-,hi,-⟩:=h.cells;have HD:Hd (Dt w B P R s now d (.ok i) ns own):=h;rw[rJ];rw[if_neg (by rw[hx];decide),if_neg (by rw[hx];decide),if_neg (by rw[hx];decide),if_pos hx];have hlt0:i<s.size:=by have:=bu (l:=s.data.toList) (i:=i) (by omega);omega
 have hlt:i<s.size:=hlt0;have hge:decide ((s.size:Int)<=(i:Int))=false:=by simp;omega
 have kZ:¬(s.size:Int)<=(i:Int):=by omega
 have fM:Hd (nx s.data.toList i=(s[i].toNat:Int)):=byte_at s i hlt;have q34:((s[i].toNat:Int) == 34)=false:=by rw[beq_eq_false_iff_ne,<-fM.o];rw[hx];decide
 have q91:((s[i].toNat:Int) == 91)=true:=by rw[<-fM.o,hx];rfl
 have CQ:Hd (∀w,Dt w B P R s now d (.ok i) ns own->Calls prog 121 #[.pointer (some ⟨R,0,none⟩),.int .i64 (up:Nat),.string ⟨k.toArray⟩,.int .i64 (p:Nat)] w (pM B P R s now d own (if d=8 then .error (4,i) else lst s.data.toList f (i+1) ns.length (d+1) (addN ns up ⟨1,k,[],0,[],p⟩)) w)):=fun w h=>CL B P R s own now i up k p d ns w h hs hx W V hu hk2 hd hsz (by omega)
 obtain⟨G,hG⟩:∃G:Rs (Nat × List Tn),(if d=8 then .error (4,i) else lst s.data.toList f (i+1) ns.length (d+1) (addN ns up ⟨1,k,[],0,[],p⟩))=G:=⟨_,rfl⟩;rw[hG]at CQ ⊢;clear h hx hG V W hk2 fM;go_enter func83,ntmps83;go_wp2;go_quiet (fail);have aC:=HD.o.drew nq;have dF:Hd (Dt (w.drewN nq) B P R s now d (.ok i) ns own):=aC.1;have bH:Hd (DFr B P w (w.drewN nq)):=aC.2;obtain⟨wA,hwA⟩:∃W,w.drewN nq=W:=⟨_,rfl⟩;rw[hwA]at dF bH ⊢;obtain⟨d0,d1,d5,-,-,-,-⟩:=dF.o.cells;clear hwA aC c0 c1 c5;go_wp2;go_quiet (fail);have aK:=dF.o.drew nq;have jF:Hd (Dt (wA.drewN nq) B P R s now d (.ok i) ns own):=aK.1;have kD:Hd (DFr B P w (wA.drewN nq)):=bH.o.two aK.2;obtain⟨wB,hwB⟩:∃W,wA.drewN nq=W:=⟨_,rfl⟩;rw[hwB]at jF kD ⊢;obtain⟨g0,g1,g5,-,-,-,-⟩:=jF.o.cells;clear hwB aK d0 d1 d5;go_wp2_with (go_at_call 121;refine(CQ.o _ jF.o).mono ?_;rintro e w2 ⟨rfl,h1,h2,hf2⟩)
 refine bodyPost_end (results_none rfl _ _ _) rfl ?_;exact⟨rfl,h1,h2,kD.o.two hf2⟩
open Go.RowKit Go.Maps Go.WideMaps Go.Joins
theorem ab1(f:Nat)(B P R:Nat)(s:ByteArray)(own:List Nat)(now i up:Nat)(k:List UInt8)(p d:Nat)(ns:List Tn)(w:World)(h:Dt w B P R s now d (.ok i) ns own)(hs:s.size<=100000)(W:WF ns own)(V:WT ns)(hu:up<ns.length)(hk2:¬aj ns up=2)(hd:d<=8)(hsz:ns.length+(s.size-i)<=700000)(hf:2*(s.size-i)+1<=f+1)(hlt0:i<s.size)(n34:¬nx s.data.toList i=34)(nin:¬(nx s.data.toList i=43\/nx s.data.toList i=45\/ax (nx s.data.toList i)=true))(ntf:¬(nx s.data.toList i=116\/nx s.data.toList i=102))(n91:¬nx s.data.toList i=91) :
  Calls prog 83 #[.pointer (some ⟨R,0,none⟩),.int .i64 (up:Nat),.string ⟨k.toArray⟩,.int .i64 (p:Nat)] w (pM B P R s now d own (val s.data.toList (f+1) i up k p d ns) w):=by
 have hl:s.data.toList.length=s.size:=by simp
 obtain⟨c0,c1,c5,-,-,hi,-⟩:=h.cells;have HD:Hd (Dt w B P R s now d (.ok i) ns own):=h;rw[rJ];rw[if_neg n34,if_neg nin,if_neg ntf,if_neg n91];have n43:¬nx s.data.toList i=43:=fun e=>nin (Or.inl e)
 have n45:¬nx s.data.toList i=45:=fun e=>nin (Or.inr (Or.inl e))
 have ndg:ax (nx s.data.toList i)=false:=by cases hh:ax (nx s.data.toList i);rfl;exact(nin (Or.inr (Or.inr hh))).elim
 have n116:¬nx s.data.toList i=116:=fun e=>ntf (Or.inl e)
 have n102:¬nx s.data.toList i=102:=fun e=>ntf (Or.inr e)
 have hlt:i<s.size:=hlt0;have hge:decide ((s.size:Int)<=(i:Int))=false:=by simp;omega
 have kZ:¬(s.size:Int)<=(i:Int):=by omega
 have fM:Hd (nx s.data.toList i=(s[i].toNat:Int)):=byte_at s i hlt;have q34:((s[i].toNat:Int) == 34)=false:=by rw[beq_eq_false_iff_ne,<-fM.o];exact n34
 have q91:((s[i].toNat:Int) == 91)=false:=by rw[beq_eq_false_iff_ne,<-fM.o];exact n91
 have q43:((s[i].toNat:Int) == 43)=false:=by rw[beq_eq_false_iff_ne,<-fM.o];exact n43
 have q45:((s[i].toNat:Int) == 45)=false:=by rw[beq_eq_false_iff_ne,<-fM.o];exact n45
 have q116:((s[i].toNat:Int) == 116)=false:=by rw[beq_eq_false_iff_ne,<-fM.o];exact n116
 have q102:((s[i].toNat:Int) == 102)=false:=by rw[beq_eq_false_iff_ne,<-fM.o];exact n102
 have CD:Hd (∀w,Calls prog 122 #[.int .u8 (s[i].toNat:Int)] w fun e w'=>e=.returned (.bool false)/\w'=w):=fun w=>by
  have:=yR s[i] w;rw[<-fM.o,ndg]at this;rw[<-fM.o];exact this
 have CF:Hd (∀w,Dt w B P R s now d (.ok i) ns own->Calls prog 82 #[.pointer (some ⟨R,0,none⟩),.int .i64 2,.int .i64 (i:Nat)] w fun e w'=>e=.returned (.tuple #[])/\Dt w' B P R s now d (.error (2,i)) ns own/\DFr B P w w'):=fun w h=>xW B P R s now d ns own i w h 2 (by decide) i
 clear h V W hk2 fM n34 nin ntf n91 n43 n45 ndg n116 n102;go_enter func83,ntmps83;go_wp2;go_quiet (fail);have aC:=HD.o.drew nq;have dF:Hd (Dt (w.drewN nq) B P R s now d (.ok i) ns own):=aC.1;have bH:Hd (DFr B P w (w.drewN nq)):=aC.2;obtain⟨wA,hwA⟩:∃W,w.drewN nq=W:=⟨_,rfl⟩;rw[hwA]at dF bH ⊢;obtain⟨d0,d1,d5,-,-,-,-⟩:=dF.o.cells;clear hwA aC c0 c1 c5;go_wp2;go_quiet (fail);have aK:=dF.o.drew nq;have jF:Hd (Dt (wA.drewN nq) B P R s now d (.ok i) ns own):=aK.1;have kD:Hd (DFr B P w (wA.drewN nq)):=bH.o.two aK.2;obtain⟨wB,hwB⟩:∃W,wA.drewN nq=W:=⟨_,rfl⟩;rw[hwB]at jF kD ⊢;obtain⟨g0,g1,g5,-,-,-,-⟩:=jF.o.cells;clear hwB aK d0 d1 d5;go_wp2_with (first|(go_at_call 122;refine(CD.o _).mono ?_;rintro e w' ⟨rfl,rfl⟩)|(go_at_call 82;refine(CF.o _ jF.o).mono ?_;rintro e w2 ⟨rfl,hd2,hf2⟩));refine bodyPost_end (results_none rfl _ _ _) rfl ?_
 exact⟨rfl,fun j ns' hh=>(by cases hh),fun c hh=>(by cases hh;exact hd2.fq),kD.o.two hf2⟩
open Go.RowKit Go.Maps Go.WideMaps Go.Joins
theorem ab2(f:Nat)(B P R:Nat)(s:ByteArray)(own:List Nat)(now i up:Nat)(k:List UInt8)(p d:Nat)(ns:List Tn)(w:World)(h:Dt w B P R s now d (.ok i) ns own)(hs:s.size<=100000)(W:WF ns own)(V:WT ns)(hu:up<ns.length)(hk2:¬aj ns up=2)(hd:d<=8)(hsz:ns.length+(s.size-i)<=700000)(hf:2*(s.size-i)+1<=f+1)(hx:nx s.data.toList i=34) :
  Calls prog 83 #[.pointer (some ⟨R,0,none⟩),.int .i64 (up:Nat),.string ⟨k.toArray⟩,.int .i64 (p:Nat)] w (pM B P R s now d own (val s.data.toList (f+1) i up k p d ns) w):=by
 have hl:s.data.toList.length=s.size:=by simp
 obtain⟨c0,c1,c5,-,-,hi,-⟩:=h.cells;have HD:Hd (Dt w B P R s now d (.ok i) ns own):=h;rw[abV _ _ _ _ _ _ _ _ hx];have hlt0:i<s.size:=by have:=bu (l:=s.data.toList) (i:=i) (by omega);omega
 have hlt:i<s.size:=hlt0;have hge:decide ((s.size:Int)<=(i:Int))=false:=by simp;omega
 have kZ:¬(s.size:Int)<=(i:Int):=by omega
 have fM:Hd (nx s.data.toList i=(s[i].toNat:Int)):=byte_at s i hlt;have q34:((s[i].toNat:Int) == 34)=true:=by rw[<-fM.o,hx];rfl
 have CQ:Hd (∀w,Dt w B P R s now d (.ok i) ns own->Calls prog 119 #[.pointer (some ⟨R,0,none⟩)] w (UH B P R s now d ns own (str s.data.toList (s.data.toList.length+1) (i+1) []) w)):=fun w h=>abT B P R s now d i ns own w h hx hs
 have CA:Hd (∀(q:Rs Nat) (t:List UInt8) w,Dt w B P R s now d q ns own->Calls prog 29 #[.pointer (some ⟨R,0,none⟩),.int .i64 (up:Nat),.agg #[.int .i64 3,.string ⟨k.toArray⟩,.string ⟨t.toArray⟩,.int .i64 0,.slice none 0 0,.int .i64 (p:Nat)]] w (zh B P R s now d q ns own (addN ns up ⟨3,k,t,0,[],p⟩) w)):=fun q t w h=>um B P R s now d q ns own up 3 0 k t p w h W hu (by omega)
 obtain⟨G,hG⟩:=zN (str s.data.toList (s.data.toList.length+1) (i+1) []);rw[hG]at CQ ⊢;obtain⟨Q,hQ⟩:∃Q:Rs (Nat × List Tn),(sJ (fun t=>addN ns up ⟨3,k,t,0,[],p⟩) G)=Q:=⟨_,rfl⟩;have HQ:Hd ((sJ (fun t=>addN ns up ⟨3,k,t,0,[],p⟩) G)=Q):=hQ;rw[hQ];clear h hx hG hQ V W hk2 fM;go_enter func83,ntmps83;go_wp2;go_quiet (fail);have aC:=HD.o.drew nq;have dF:Hd (Dt (w.drewN nq) B P R s now d (.ok i) ns own):=aC.1;have bH:Hd (DFr B P w (w.drewN nq)):=aC.2;obtain⟨wA,hwA⟩:∃W,w.drewN nq=W:=⟨_,rfl⟩;rw[hwA]at dF bH ⊢;obtain⟨d0,d1,d5,-,-,-,-⟩:=dF.o.cells;clear hwA aC c0 c1 c5;go_wp2;go_quiet (fail);have aK:=dF.o.drew nq;have jF:Hd (Dt (wA.drewN nq) B P R s now d (.ok i) ns own):=aK.1;have kD:Hd (DFr B P w (wA.drewN nq)):=bH.o.two aK.2;obtain⟨wB,hwB⟩:∃W,wA.drewN nq=W:=⟨_,rfl⟩;rw[hwB]at jF kD ⊢;obtain⟨g0,g1,g5,-,-,-,-⟩:=jF.o.cells;clear hwB aK d0 d1 d5
 go_wp2_with (go_at_call 119;refine(CQ.o _ jF.o).mono ?_);rintro e w2 ⟨h1,h2,hf2⟩;have HF2:Hd (DFr B P w w2):=kD.o.two hf2;clear hf2
 match G,h1,h2,HQ with
 | .error c,_,h2,HQ =>
  obtain⟨t,rfl,hd2⟩:=h2 c rfl;have HD2:Hd (Dt w2 B P R s now d (.error c) ns own):=hd2;have jh:Hd (Q=.error c):=HQ.o.symm;clear h2 hd2;go_wp2_with (go_at_call 29;refine(CA.o _ t _ HD2.o).mono ?_;rintro e w3 ⟨rfl,hd3,hf3⟩);refine bodyPost_end (results_none rfl _ _ _) rfl ?_;rw[jh.o];exact⟨rfl,fun j ns' hh=>(by cases hh),fun c' hh=>(by injection hh with hh;subst hh;exact hd3.fq),HF2.o.two hf3⟩
 | .ok (t,j),h1,_,HQ =>
  obtain⟨rfl,hd2⟩:=h1 t j rfl;have HD2:Hd (Dt w2 B P R s now d (.ok j) ns own):=hd2;have jh:Hd (Q=.ok (j,addN ns up ⟨3,k,t,0,[],p⟩)):=HQ.o.symm;clear h1 hd2;go_wp2_with (go_at_call 29;refine(CA.o _ t _ HD2.o).mono ?_;rintro e w3 ⟨rfl,hd3,hf3⟩);refine bodyPost_end (results_none rfl _ _ _) rfl ?_;rw[jh.o];exact⟨rfl,fun j ns' hh=>(by cases hh;exact hd3),fun c' hh=>(by cases hh),HF2.o.two hf3⟩
open Go.RowKit Go.Maps Go.WideMaps Go.Joins
theorem ab3(f:Nat)(B P R:Nat)(s:ByteArray)(own:List Nat)(now i up:Nat)(k:List UInt8)(p d:Nat)(ns:List Tn)(w:World)(h:Dt w B P R s now d (.ok i) ns own)(hs:s.size<=100000)(W:WF ns own)(V:WT ns)(hu:up<ns.length)(hk2:¬aj ns up=2)(hd:d<=8)(hsz:ns.length+(s.size-i)<=700000)(hf:2*(s.size-i)+1<=f+1)(hx:nx s.data.toList i=43\/nx s.data.toList i=45\/ax (nx s.data.toList i)=true) :
  Calls prog 83 #[.pointer (some ⟨R,0,none⟩),.int .i64 (up:Nat),.string ⟨k.toArray⟩,.int .i64 (p:Nat)] w (pM B P R s now d own (val s.data.toList (f+1) i up k p d ns) w):=by
 have hl:s.data.toList.length=s.size:=by simp
 obtain⟨c0,c1,c5,-,-,hi,-⟩:=h.cells;have HD:Hd (Dt w B P R s now d (.ok i) ns own):=h;have hx34:¬nx s.data.toList i=34:=fun e=>by rw[e]at hx;revert hx;decide
 have hx91:¬nx s.data.toList i=91:=fun e=>by rw[e]at hx;revert hx;decide
 rw[abW _ _ _ _ _ _ _ _ hx34 hx];have hlt0:i<s.size:=by
  have:=bu (l:=s.data.toList) (i:=i) (by
   rcases hx with h|h|h
   ·rw[h];decide
   ·rw[h];decide
   ·have:=of_decide_eq_true h;omega)
  omega
 have hlt:i<s.size:=hlt0;have hge:decide ((s.size:Int)<=(i:Int))=false:=by simp;omega
 have kZ:¬(s.size:Int)<=(i:Int):=by omega
 have fM:Hd (nx s.data.toList i=(s[i].toNat:Int)):=byte_at s i hlt;have q34:((s[i].toNat:Int) == 34)=false:=by rw[beq_eq_false_iff_ne,<-fM.o];exact hx34
 have q91:((s[i].toNat:Int) == 91)=false:=by rw[beq_eq_false_iff_ne,<-fM.o];exact hx91
 have CD:Hd (∀w,Calls prog 122 #[.int .u8 (s[i].toNat:Int)] w fun e w'=>e=.returned (.bool (ax (s[i].toNat:Int)))/\w'=w):=yR s[i];have uy:Hd (((s[i].toNat:Int) == 43)=true\/(((s[i].toNat:Int) == 43)=false/\((s[i].toNat:Int) == 45)=true)\/(((s[i].toNat:Int) == 43)=false/\((s[i].toNat:Int) == 45)=false/\ax (s[i].toNat:Int)=true)):=by
  show _\/_;rw[fM.o]at hx
  by_cases h1:(s[i].toNat:Int)=43
  ·left;simpa using h1
  ·by_cases h2:(s[i].toNat:Int)=45
   ·right;left;exact⟨by simpa using h1,by simpa using h2⟩
   ·right;right;exact⟨by simpa using h1,by simpa using h2,by rcases hx with h|h|h;exact(h1 h).elim;exact(h2 h).elim;exact h⟩
 have CQ:Hd (∀w,Dt w B P R s now d (.ok i) ns own->Calls prog 123 #[.pointer (some ⟨R,0,none⟩)] w (UI B P R s now d ns own (iQ s.data.toList i) w)):=fun w h=>abU B P R s now d i ns own w h hlt hx hs
 have CA:Hd (∀(q:Rs Nat) (t:Int) w,Dt w B P R s now d q ns own->Calls prog 29 #[.pointer (some ⟨R,0,none⟩),.int .i64 (up:Nat),.agg #[.int .i64 4,.string ⟨k.toArray⟩,.string ⟨#[]⟩,.int .i64 t,.slice none 0 0,.int .i64 (p:Nat)]] w (zh B P R s now d q ns own (addN ns up ⟨4,k,[],t,[],p⟩) w)):=fun q t w h=>um B P R s now d q ns own up 4 t k [] p w h W hu (by omega)
 obtain⟨G,hG⟩:=zN (iQ s.data.toList i);rw[hG]at CQ ⊢;obtain⟨Q,hQ⟩:∃Q:Rs (Nat × List Tn),(sJ (fun n=>addN ns up ⟨4,k,[],n,[],p⟩) G)=Q:=⟨_,rfl⟩;have HQ:Hd ((sJ (fun n=>addN ns up ⟨4,k,[],n,[],p⟩) G)=Q):=hQ;rw[hQ];obtain⟨bd,hbd⟩:∃b,ax (s[i].toNat:Int)=b:=⟨_,rfl⟩;rw[hbd]at CD uy;clear h hx hG hQ V W hk2 fM hx34 hx91 hbd;go_enter func83,ntmps83;go_wp2;go_quiet (fail);have aC:=HD.o.drew nq;have dF:Hd (Dt (w.drewN nq) B P R s now d (.ok i) ns own):=aC.1;have bH:Hd (DFr B P w (w.drewN nq)):=aC.2;obtain⟨wA,hwA⟩:∃W,w.drewN nq=W:=⟨_,rfl⟩;rw[hwA]at dF bH ⊢;obtain⟨d0,d1,d5,-,-,-,-⟩:=dF.o.cells;clear hwA aC c0 c1 c5;go_wp2;go_quiet (fail);have aK:=dF.o.drew nq;have jF:Hd (Dt (wA.drewN nq) B P R s now d (.ok i) ns own):=aK.1;have kD:Hd (DFr B P w (wA.drewN nq)):=bH.o.two aK.2;obtain⟨wB,hwB⟩:∃W,wA.drewN nq=W:=⟨_,rfl⟩;rw[hwB]at jF kD ⊢
 obtain⟨g0,g1,g5,-,-,-,-⟩:=jF.o.cells;clear hwB aK d0 d1 d5
 rcases uy.o with q43|⟨q43,q45⟩|⟨q43,q45,rfl⟩
 ·go_wp2_with (go_at_call 123;refine(CQ.o _ jF.o).mono ?_);rintro e w2 ⟨h1,h2,hf2⟩;have HF2:Hd (DFr B P w w2):=kD.o.two hf2;clear hf2
  match G,h1,h2,HQ with
  | .error c,_,h2,HQ =>
   obtain⟨t,rfl,hd2⟩:=h2 c rfl;have HD2:Hd (Dt w2 B P R s now d (.error c) ns own):=hd2;have jh:Hd (Q=.error c):=HQ.o.symm;clear h2 hd2;go_wp2_with (go_at_call 29;refine(CA.o _ t _ HD2.o).mono ?_;rintro e w3 ⟨rfl,hd3,hf3⟩);refine bodyPost_end (results_none rfl _ _ _) rfl ?_;rw[jh.o];exact⟨rfl,fun j ns' hh=>(by cases hh),fun c' hh=>(by injection hh with hh;subst hh;exact hd3.fq),HF2.o.two hf3⟩
  | .ok (t,j),h1,_,HQ =>
   obtain⟨rfl,hd2⟩:=h1 t j rfl;have HD2:Hd (Dt w2 B P R s now d (.ok j) ns own):=hd2;have jh:Hd (Q=.ok (j,addN ns up ⟨4,k,[],t,[],p⟩)):=HQ.o.symm;clear h1 hd2;go_wp2_with (go_at_call 29;refine(CA.o _ t _ HD2.o).mono ?_;rintro e w3 ⟨rfl,hd3,hf3⟩);refine bodyPost_end (results_none rfl _ _ _) rfl ?_;rw[jh.o];exact⟨rfl,fun j ns' hh=>(by cases hh;exact hd3),fun c' hh=>(by cases hh),HF2.o.two hf3⟩
 ·go_wp2_with (go_at_call 123;refine(CQ.o _ jF.o).mono ?_);rintro e w2 ⟨h1,h2,hf2⟩;have HF2:Hd (DFr B P w w2):=kD.o.two hf2;clear hf2
  match G,h1,h2,HQ with
  | .error c,_,h2,HQ =>
   obtain⟨t,rfl,hd2⟩:=h2 c rfl;have HD2:Hd (Dt w2 B P R s now d (.error c) ns own):=hd2;have jh:Hd (Q=.error c):=HQ.o.symm;clear h2 hd2;go_wp2_with (go_at_call 29;refine(CA.o _ t _ HD2.o).mono ?_;rintro e w3 ⟨rfl,hd3,hf3⟩);refine bodyPost_end (results_none rfl _ _ _) rfl ?_;rw[jh.o];exact⟨rfl,fun j ns' hh=>(by cases hh),fun c' hh=>(by injection hh with hh;subst hh;exact hd3.fq),HF2.o.two hf3⟩
  | .ok (t,j),h1,_,HQ =>
   obtain⟨rfl,hd2⟩:=h1 t j rfl;have HD2:Hd (Dt w2 B P R s now d (.ok j) ns own):=hd2;have jh:Hd (Q=.ok (j,addN ns up ⟨4,k,[],t,[],p⟩)):=HQ.o.symm;clear h1 hd2;go_wp2_with (go_at_call 29;refine(CA.o _ t _ HD2.o).mono ?_;rintro e w3 ⟨rfl,hd3,hf3⟩);refine bodyPost_end (results_none rfl _ _ _) rfl ?_;rw[jh.o];exact⟨rfl,fun j ns' hh=>(by cases hh;exact hd3),fun c' hh=>(by cases hh),HF2.o.two hf3⟩
 ·go_wp2_with (first|(go_at_call 123;refine(CQ.o _ jF.o).mono ?_)|(go_at_call 122;refine(CD.o _).mono ?_;rintro e w' ⟨rfl,rfl⟩));rintro e w2 ⟨h1,h2,hf2⟩;have HF2:Hd (DFr B P w w2):=kD.o.two hf2;clear hf2
  match G,h1,h2,HQ with
  | .error c,_,h2,HQ =>
   obtain⟨t,rfl,hd2⟩:=h2 c rfl;have HD2:Hd (Dt w2 B P R s now d (.error c) ns own):=hd2;have jh:Hd (Q=.error c):=HQ.o.symm;clear h2 hd2;go_wp2_with (go_at_call 29;refine(CA.o _ t _ HD2.o).mono ?_;rintro e w3 ⟨rfl,hd3,hf3⟩);refine bodyPost_end (results_none rfl _ _ _) rfl ?_;rw[jh.o];exact⟨rfl,fun j ns' hh=>(by cases hh),fun c' hh=>(by injection hh with hh;subst hh;exact hd3.fq),HF2.o.two hf3⟩
  | .ok (t,j),h1,_,HQ =>
   obtain⟨rfl,hd2⟩:=h1 t j rfl;have HD2:Hd (Dt w2 B P R s now d (.ok j) ns own):=hd2;have jh:Hd (Q=.ok (j,addN ns up ⟨4,k,[],t,[],p⟩)):=HQ.o.symm;clear h1 hd2;go_wp2_with (go_at_call 29;refine(CA.o _ t _ HD2.o).mono ?_;rintro e w3 ⟨rfl,hd3,hf3⟩);refine bodyPost_end (results_none rfl _ _ _) rfl ?_;rw[jh.o];exact⟨rfl,fun j ns' hh=>(by cases hh;exact hd3),fun c' hh=>(by cases hh),HF2.o.two hf3⟩
open Go.RowKit Go.Maps Go.WideMaps Go.Joins
theorem Dt.setI{w:World}{B P R:Nat}{s:ByteArray}{now de i:Nat}{ns:List Tn}{own:List Nat}(h:Dt w B P R s now de (.ok i) ns own)(j:Nat)(hj:j<=s.size):Dt (w.setCell ⟨R,1,none⟩ (.int .i64 (j:Nat))) B P R s now de (.ok j) ns own/\DFr B P w (w.setCell ⟨R,1,none⟩ (.int .i64 (j:Nat))) :=
 h.keep (fun L O hd=>⟨hj,hd.2.setI j⟩) (aV (ak w (some R)) 1 _)
theorem ab4(f:Nat)(B P R:Nat)(s:ByteArray)(own:List Nat)(now i up:Nat)(k:List UInt8)(p d:Nat)(ns:List Tn)(w:World)(h:Dt w B P R s now d (.ok i) ns own)(hs:s.size<=100000)(W:WF ns own)(V:WT ns)(hu:up<ns.length)(hk2:¬aj ns up=2)(hd:d<=8)(hsz:ns.length+(s.size-i)<=700000)(hf:2*(s.size-i)+1<=f+1)(hx:nx s.data.toList i=116\/nx s.data.toList i=102) :
  Calls prog 83 #[.pointer (some ⟨R,0,none⟩),.int .i64 (up:Nat),.string ⟨k.toArray⟩,.int .i64 (p:Nat)] w (pM B P R s now d own (val s.data.toList (f+1) i up k p d ns) w):=by
 have hl:s.data.toList.length=s.size:=by simp
 obtain⟨c0,c1,c5,-,-,hi,-⟩:=h.cells;have HD:Hd (Dt w B P R s now d (.ok i) ns own):=h;rw[abX _ _ _ _ _ _ _ _ hx];have hlt0:i<s.size:=by
  have:=bu (l:=s.data.toList) (i:=i) (by rcases hx with h|h<;>rw[h]<;>decide);omega
 have hlt:i<s.size:=hlt0;have hge:decide ((s.size:Int)<=(i:Int))=false:=by simp;omega
 have kZ:¬(s.size:Int)<=(i:Int):=by omega
 have fM:Hd (nx s.data.toList i=(s[i].toNat:Int)):=byte_at s i hlt;have q34:((s[i].toNat:Int) == 34)=false:=by rw[beq_eq_false_iff_ne,<-fM.o];rcases hx with h|h<;>rw[h]<;>decide
 have q91:((s[i].toNat:Int) == 91)=false:=by rw[beq_eq_false_iff_ne,<-fM.o];rcases hx with h|h<;>rw[h]<;>decide
 have q43:((s[i].toNat:Int) == 43)=false:=by rw[beq_eq_false_iff_ne,<-fM.o];rcases hx with h|h<;>rw[h]<;>decide
 have q45:((s[i].toNat:Int) == 45)=false:=by rw[beq_eq_false_iff_ne,<-fM.o];rcases hx with h|h<;>rw[h]<;>decide
 have ndg:ax (nx s.data.toList i)=false:=by rcases hx with h|h<;>rw[h]<;>decide
 have CD:Hd (∀w,Calls prog 122 #[.int .u8 (s[i].toNat:Int)] w fun e w'=>e=.returned (.bool false)/\w'=w):=fun w=>by
  have:=yR s[i] w;rw[<-fM.o,ndg]at this;rw[<-fM.o];exact this
 have uy:Hd (((s[i].toNat:Int) == 116)=true\/(((s[i].toNat:Int) == 116)=false/\((s[i].toNat:Int) == 102)=true)):=by
  show _\/_;rw[<-fM.o]
  rcases hx with h|h
  ·left;rw[h];rfl
  ·right;rw[h];exact⟨rfl,rfl⟩
 have CA:Hd (∀(q:Rs Nat) (t:Int) w,Dt w B P R s now d q ns own->Calls prog 29 #[.pointer (some ⟨R,0,none⟩),.int .i64 (up:Nat),.agg #[.int .i64 5,.string ⟨k.toArray⟩,.string ⟨#[]⟩,.int .i64 t,.slice none 0 0,.int .i64 (p:Nat)]] w (zh B P R s now d q ns own (addN ns up ⟨5,k,[],t,[],p⟩) w)):=fun q t w h=>um B P R s now d q ns own up 5 t k [] p w h W hu (by omega)
 have CF:Hd (∀j w,Dt w B P R s now d (.ok j) ns own->Calls prog 82 #[.pointer (some ⟨R,0,none⟩),.int .i64 2,.int .i64 (i:Nat)] w fun e w'=>e=.returned (.tuple #[])/\Dt w' B P R s now d (.error (2,i)) ns own/\DFr B P w w'):=fun j w h=>xW B P R s now d ns own j w h 2 (by decide) i
 have HST:Hd (∀k (hk:k<s.size),aZ (s[k].toNat:Int)=true->toR aZ s.data.toList k=toR aZ s.data.toList (k+1)):=fun k hk hb=>ql aZ _ k (by omega) (by rw[byte_at s k hk];exact hb)
 have jH:Hd (∀k (hk:k<s.size),aZ (s[k].toNat:Int)=false->toR aZ s.data.toList k=k):=fun k hk hb=>lG aZ _ k (by rw[byte_at s k hk];exact hb)
 have qo:Hd (∀k,s.size<=k->toR aZ s.data.toList k=k):=fun k hk=>zV aZ _ k (by omega)
 obtain⟨Q,hQ⟩:∃Q:Rs (Nat × List Tn),(sJ (fun n=>addN ns up ⟨5,k,[],n,[],p⟩) (kH s.data.toList i))=Q:=⟨_,rfl⟩;have HQ:Hd (sJ (fun n=>addN ns up ⟨5,k,[],n,[],p⟩) (if ag s.data.toList i (toR aZ s.data.toList i-i)=[116,114,117,101] then .ok (1,toR aZ s.data.toList i) else if ag s.data.toList i (toR aZ s.data.toList i-i)=[102,97,108,115,101] then .ok (0,toR aZ s.data.toList i) else .error (2,i))=Q):=by
  show _=_;rw[<-EF];exact hQ
 rw[hQ];clear h hx hQ V W hk2 fM ndg;go_enter func83,ntmps83;go_wp2;go_quiet (fail);have aC:=HD.o.drew nq;have dF:Hd (Dt (w.drewN nq) B P R s now d (.ok i) ns own):=aC.1;have bH:Hd (DFr B P w (w.drewN nq)):=aC.2;obtain⟨wA,hwA⟩:∃W,w.drewN nq=W:=⟨_,rfl⟩;rw[hwA]at dF bH ⊢;obtain⟨d0,d1,d5,-,-,-,-⟩:=dF.o.cells;clear hwA aC c0 c1 c5;go_wp2;go_quiet (fail);have aK:=dF.o.drew nq;have jF:Hd (Dt (wA.drewN nq) B P R s now d (.ok i) ns own):=aK.1;have kD:Hd (DFr B P w (wA.drewN nq)):=bH.o.two aK.2;obtain⟨wB,hwB⟩:∃W,wA.drewN nq=W:=⟨_,rfl⟩;rw[hwB]at jF kD ⊢;obtain⟨g0,g1,g5,-,-,-,-⟩:=jF.o.cells;clear hwB aK d0 d1 d5
 rcases uy.o with q116|⟨q116,q102⟩
 all_goals (
  go_wp2_with (go_at_call 122;refine(CD.o _).mono ?_;rintro e w' ⟨rfl,rfl⟩);go_loopw [] (fun wr=>∃j:Nat,Dt wr B P R s now d (.ok j) ns own/\i<=j/\toR aZ s.data.toList j=toR aZ s.data.toList i/\DFr B P w wr) (fun wr=>s.size-dI wr R)
  case atStart=>exact⟨i,jF.o,Nat.le_refl _,rfl,kD.o⟩
  case round =>
   obtain⟨j,hdj,hij,hto,hfj⟩:=hrel;obtain⟨e0,e1,e5,-,-,hj,ef⟩:=hdj.cells;have ef1:=ef 1;have UJ:Hd (Dt wr B P R s now d (.ok j) ns own):=hdj;have UK:Hd (DFr B P w wr):=hfj;have l9:Hd (toR aZ s.data.toList j=toR aZ s.data.toList i):=hto;have gI:Hd (dI wr R=j):=by show dI wr R=j;unfold dI;rw[e1];simp
   clear hdj hto hfj ef;have hcs:(∃hjl:j<s.size,97<=(s[j].toNat:Int)/\(s[j].toNat:Int)<=122)\/(toR aZ s.data.toList i=j/\((∃hjl:j<s.size,decide ((j:Int)<(s.size:Int))=true/\decide (97<=(s[j].toNat:Int))=true/\decide ((s[j].toNat:Int)<=122)=false)\/(∃hjl:j<s.size,decide ((j:Int)<(s.size:Int))=true/\decide (97<=(s[j].toNat:Int))=false)\/(¬j<s.size/\decide ((j:Int)<(s.size:Int))=false))):=by
    by_cases hjl:j<s.size
    ·have hlt2:decide ((j:Int)<(s.size:Int))=true:=by simp;omega
     have zu:aZ (s[j].toNat:Int)=decide (97<=(s[j].toNat:Int)/\(s[j].toNat:Int)<=122):=rfl
     by_cases h97:97<=(s[j].toNat:Int)
     ·by_cases h122:(s[j].toNat:Int)<=122
      ·exact Or.inl ⟨hjl,h97,h122⟩
      ·exact Or.inr ⟨l9.o.symm.trans (jH.o j hjl (by rw[zu,decide_eq_false (fun h=>h122 h.2)])),Or.inl ⟨hjl,hlt2,by simpa using h97,by simpa using h122⟩⟩
     ·exact Or.inr ⟨l9.o.symm.trans (jH.o j hjl (by rw[zu,decide_eq_false (fun h=>h97 h.1)])),Or.inr (Or.inl ⟨hjl,hlt2,by simpa using h97⟩)⟩
    ·exact Or.inr ⟨l9.o.symm.trans (qo.o j (by omega)),Or.inr (Or.inr ⟨hjl,by simp;omega⟩)⟩
   rcases hcs with⟨hjl,h97,h122⟩|⟨hJ,⟨hjl,hlt',g97,g122⟩|⟨hjl,hlt',g97⟩|⟨hjl,hge'⟩⟩
   ·have hlt':decide ((j:Int)<(s.size:Int))=true:=by simp;omega
    have g97:decide (97<=(s[j].toNat:Int))=true:=by simpa using h97
    have g122:decide ((s[j].toNat:Int)<=122)=true:=by simpa using h122
    have HN:Hd (toR aZ s.data.toList (j+1)=toR aZ s.data.toList i):=(HST.o j hjl (show aZ _=true from decide_eq_true ⟨h97,h122⟩)).symm.trans l9.o;go_wp2;go_quiet (fail);have dJ:=UJ.o.drew nq;have uz:Hd (Dt (wr.drewN nq) B P R s now d (.ok j) ns own):=dJ.1;have xX:Hd (DFr B P w (wr.drewN nq)):=UK.o.two dJ.2;obtain⟨wC,fH⟩:∃W,wr.drewN nq=W:=⟨_,rfl⟩;rw[fH]at uz xX ⊢;obtain⟨k0,k1,k5,-,-,-,kf⟩:=uz.o.cells;have kf1:=kf 1;have jL:=uz.o.setI (j+1) (by omega);have eH:Hd (Dt (wC.setCell ⟨R,1,none⟩ (.int .i64 ((j:Int)+1))) B P R s now d (.ok (j+1)) ns own):=jL.1;have HS2:Hd (DFr B P w (wC.setCell ⟨R,1,none⟩ (.int .i64 ((j:Int)+1)))):=xX.o.two jL.2;clear fH dJ kf jL;go_wp2;refine⟨⟨j+1,eH.o,by omega,HN.o,HS2.o⟩,?_⟩;have e9:dI (wC.setCell ⟨R,1,none⟩ (.int .i64 ((j:Int)+1))) R=j+1:=by
     unfold dI;rw[eH.o.cells.2.1];simp
    rw[gI.o,e9];omega
   all_goals (
    have HJ:Hd (toR aZ s.data.toList i=j):=hJ;clear hJ;go_wp2;go_quiet (fail);have dJ:=UJ.o.drew nq;have uz:Hd (Dt (wr.drewN nq) B P R s now d (.ok j) ns own):=dJ.1;have xX:Hd (DFr B P w (wr.drewN nq)):=UK.o.two dJ.2;obtain⟨wC,fH⟩:∃W,wr.drewN nq=W:=⟨_,rfl⟩;rw[fH]at uz xX ⊢;obtain⟨k0,k1,k5,-,-,-,-⟩:=uz.o.cells;clear fH dJ;have GY:=HQ.o;rw[HJ.o]at GY;obtain⟨X,hX⟩:=zN (ag s.data.toList i (j-i));have sl:∀wx,(Instr.slice 9 (.string s) (some (.int .i64 (i:Int))) (some (.int .i64 (j:Int))) none).run prog wx=.ok (.string ⟨X.toArray⟩) wx:=fun wx=>by
     rw[<-hX];exact kS s i j hij hj wx
    rw[hX]at GY;have MI:Hd (sJ (fun n=>addN ns up ⟨5,k,[],n,[],p⟩) (if X=[116,114,117,101] then .ok (1,j) else if X=[102,97,108,115,101] then .ok (0,j) else .error (2,i))=Q):=GY;clear hX GY
    by_cases hT:X=[116,114,117,101]
    ·have bT:(X == [116,114,117,101])=true:=by simpa using hT
     have jh:Hd (Q=.ok (j,addN ns up ⟨5,k,[],1,[],p⟩)):=by
      have:=MI.o;rw[if_pos hT]at this;exact this.symm
     clear hT;go_wp2;go_quiet (fail);have eY:=uz.o.drew nq;have wI:Hd (Dt (wC.drewN nq) B P R s now d (.ok j) ns own):=eY.1;have dN:Hd (DFr B P w (wC.drewN nq)):=xX.o.two eY.2;obtain⟨wE,hwE⟩:∃W,wC.drewN nq=W:=⟨_,rfl⟩;rw[hwE]at wI dN ⊢;clear hwE eY k0 k1 k5;go_wp2_with (go_at_call 29;refine(CA.o _ 1 _ wI.o).mono ?_;rintro e w3 ⟨rfl,hd3,hf3⟩);refine bodyPost_end (results_none rfl _ _ _) rfl ?_;rw[jh.o];exact⟨rfl,fun j ns' hh=>(by cases hh;exact hd3),fun c' hh=>(by cases hh),dN.o.two hf3⟩
    ·have bT:(X == [116,114,117,101])=false:=by simpa using hT
     by_cases hF:X=[102,97,108,115,101]
     ·have bF:(X == [102,97,108,115,101])=true:=by simpa using hF
      have bG:(X != [102,97,108,115,101])=false:=by simpa using hF
      have jh:Hd (Q=.ok (j,addN ns up ⟨5,k,[],0,[],p⟩)):=by
       have:=MI.o;rw[if_neg hT,if_pos hF]at this;exact this.symm
      clear hT hF;go_wp2;go_quiet (fail);have eY:=uz.o.drew nq;have wI:Hd (Dt (wC.drewN nq) B P R s now d (.ok j) ns own):=eY.1;have dN:Hd (DFr B P w (wC.drewN nq)):=xX.o.two eY.2;obtain⟨wE,hwE⟩:∃W,wC.drewN nq=W:=⟨_,rfl⟩;rw[hwE]at wI dN ⊢;clear hwE eY k0 k1 k5;go_wp2_with (go_at_call 29;refine(CA.o _ 0 _ wI.o).mono ?_;rintro e w3 ⟨rfl,hd3,hf3⟩);refine bodyPost_end (results_none rfl _ _ _) rfl ?_;rw[jh.o];exact⟨rfl,fun j ns' hh=>(by cases hh;exact hd3),fun c' hh=>(by cases hh),dN.o.two hf3⟩
     ·have bF:(X == [102,97,108,115,101])=false:=by simpa using hF
      have bG:(X != [102,97,108,115,101])=true:=by simpa using hF
      have jh:Hd (Q=.error (2,i)):=by
       have:=MI.o;rw[if_neg hT,if_neg hF]at this;exact this.symm
      clear hT hF;go_wp2;go_quiet (fail);have eY:=uz.o.drew nq;have wI:Hd (Dt (wC.drewN nq) B P R s now d (.ok j) ns own):=eY.1;have dN:Hd (DFr B P w (wC.drewN nq)):=xX.o.two eY.2;obtain⟨wE,hwE⟩:∃W,wC.drewN nq=W:=⟨_,rfl⟩;rw[hwE]at wI dN ⊢;clear hwE eY k0 k1 k5;go_wp2_with (first|(go_at_call 82;refine(CF.o j _ wI.o).mono ?_;rintro e w3 ⟨rfl,hd3,hf3⟩)|(go_at_call 29;refine(CA.o _ 0 _ hd3).mono ?_;rintro e w4 ⟨rfl,hd4,hf4⟩));refine bodyPost_end (results_none rfl _ _ _) rfl ?_;rw[jh.o];exact⟨rfl,fun j ns' hh=>(by cases hh),fun c' hh=>(by cases hh;exact hd4.fq),(dN.o.two hf3).two hf4⟩))
end Go.Proofs.YtnnbgjaphfhibaaGreatDoor
