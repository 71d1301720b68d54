import Derived.Test.YtnnbgjaphfhibaaGreatDoorE22
import Derived.Test.YtnnbgjaphfhibaaGreatDoorE18
import Derived.Test.YtnnbgjaphfhibaaGreatDoorE15
set_option linter.all false
set_option maxRecDepth 100000
set_option maxHeartbeats 0
open Go.Proofs.Tryz
namespace Go.Proofs.YtnnbgjaphfhibaaGreatDoor
open Go.RowKit Go.Maps Go.WideMaps Go.Joins
def Fq(w:World)(B P R:Nat)(s:ByteArray)(now de:Nat)(e:Int × Nat):Prop:=∃L O,Ds w R s L O now de (.error e)/\B<=R/\¬P=R/\P<w.heap.size
def Dq(w:World)(B P R:Nat)(s:ByteArray)(now de:Nat)(q:Rs Nat)(ns:List Tn)(own:List Nat):Prop:=match q with | .ok i=>Dt w B P R s now de (.ok i) ns own | .error e=>Fq w B P R s now de e
section
variable {w w':World} {B P R:Nat} {s:ByteArray} {now de:Nat} {q q':Rs Nat} {ns:List Tn} {own:List Nat}
theorem Dt.fq{e:Int × Nat}(h:Dt w B P R s now de (.error e) ns own):Fq w B P R s now de e:=by
 obtain⟨h1,h2,N,c,O,oc,xs,ks,h3,h4,h5,h6⟩:=h;exact⟨_,_,h6,h1,h2,h5.hP⟩
theorem Dt.dq(h:Dt w B P R s now de q ns own):Dq w B P R s now de q ns own:=by
 match q,h with
 | .ok i,h=>exact h
 | .error e,h=>exact h.fq
theorem Dt.base(h:Dt w B P R s now de q ns own):B<=w.heap.size/\P<w.heap.size/\R<w.heap.size:=by
 obtain⟨h1,h2,N,c,O,oc,xs,ks,h3,h4,h5,h6⟩:=h;obtain⟨i,er,p,hd⟩:=h6.dd;exact⟨Nat.le_of_lt (Nat.lt_of_le_of_lt h1 (aB hd)),h5.hP,aB hd⟩
theorem rZ{L O:Value}(hd:Ds w R s L O now de q)(hB:B<=R)(hP:¬P=R)(hPs:P<w.heap.size)(hg:w.grownBy w' (some R)):DFr B P w w':=by
 obtain⟨i,er,p,hdd⟩:=hd.dd;exact DFr.row hg (Nat.le_of_lt (Nat.lt_of_le_of_lt hB (aB hdd))) hPs hB hP hdd (Or.inl rfl)
theorem Dt.keep(h:Dt w B P R s now de q ns own)(hs:∀L O,Ds w R s L O now de q->Ds w' R s L O now de q')(hg:w.grownBy w' (some R)):Dt w' B P R s now de q' ns own/\DFr B P w w':=by
 obtain⟨h1,h2,N,c,O,oc,xs,ks,h3,h4,h5,h6⟩:=h;obtain⟨i,er,p,hdd⟩:=h6.dd;exact⟨⟨h1,h2,N,c,O,oc,xs,ks,h3,h4,h5.keepR hdd hg,hs _ _ h6⟩,rZ h6 h1 h2 h5.hP hg⟩
end
theorem IX{B P R:Nat}{s:ByteArray}{now de:Nat}{ns:List Tn}{own:List Nat}{fn:Nat}{args:Array Value}(F:Rs Nat->Rs Nat)(hF:∀e,F (.error e)=.error e)(C:∀L O w q,Ds w R s L O now de q->Calls prog fn args w fun e w'=>e=.returned (.tuple #[])/\Ds w' R s L O now de (F q)/\w.grownBy w' (some R))(q:Rs Nat)(w:World)(h:Dq w B P R s now de q ns own) :
  Calls prog fn args w fun e w'=>e=.returned (.tuple #[])/\Dq w' B P R s now de (F q) ns own/\DFr B P w w':=by
 match q,h with
 | .error e,⟨L,O,h1,h2,h3,h4⟩ =>
  refine(C L O w _ h1).mono ?_;rintro e' w' ⟨rfl,a,b⟩;rw[hF]at a ⊢;exact⟨rfl,⟨L,O,a,h2,h3,Nat.lt_of_lt_of_le h4 b.size⟩,rZ h1 h2 h3 h4 b⟩
 | .ok i,h =>
  obtain⟨h1,h2,N,c,O,oc,xs,ks,h3,h4,h5,h6⟩:=h;refine(C _ _ w _ h6).mono ?_;rintro e' w' ⟨rfl,a,b⟩;obtain⟨ii,er,p,hdd⟩:=h6.dd;exact⟨rfl,Dt.dq ⟨h1,h2,N,c,O,oc,xs,ks,h3,h4,h5.keepR hdd b,a⟩,rZ h6 h1 h2 h5.hP b⟩
section
variable (B P R:Nat) (s:ByteArray) (now de:Nat) (ns:List Tn) (own:List Nat) (q:Rs Nat) (w:World) (h:Dq w B P R s now de q ns own) (hs:s.size<=100000)
include h hs
theorem Oz(c:Int)(hc:0<=c):Calls prog 56 #[.pointer (some ⟨R,0,none⟩),.int .u8 c] w fun e w'=>e=.returned (.tuple #[])/\Dq w' B P R s now de (q.bind fun i=>must s.data.toList i c) ns own/\DFr B P w w' :=
 IX (fun q=>q.bind fun i=>must s.data.toList i c) (fun _=>rfl) (fun L O w q h=>Ll R s L O now de q c hc w h (by omega)) q w h
theorem Xb:Calls prog 51 #[.pointer (some ⟨R,0,none⟩)] w fun e w'=>e=.returned (.tuple #[])/\Dq w' B P R s now de (q.bind fun i=>.ok (bl s.data.toList i)) ns own/\DFr B P w w' :=
 IX (fun q=>q.bind fun i=>.ok (bl s.data.toList i)) (fun _=>rfl) (fun L O w q h=>SC R s L O now de q w h (by omega)) q w h
theorem aes:Calls prog 55 #[.pointer (some ⟨R,0,none⟩)] w fun e w'=>e=.returned (.tuple #[])/\Dq w' B P R s now de (q.bind (jo s.data.toList)) ns own/\DFr B P w w' :=
 IX (fun q=>q.bind (jo s.data.toList)) (fun _=>rfl) (fun L O w q h=>S9 R s L O now de q w h (by omega)) q w h
theorem aet:Calls prog 162 #[.pointer (some ⟨R,0,none⟩)] w fun e w'=>e=.returned (.tuple #[])/\Dq w' B P R s now de (q.bind (gap s.data.toList (s.data.toList.length+1))) ns own/\DFr B P w w' :=
 IX (fun q=>q.bind (gap s.data.toList (s.data.toList.length+1))) (fun _=>rfl) (fun L O w q h=>abp R s L O now de q w h (by omega)) q w h
theorem Xc(c:Int)(hc:0<=c):Calls prog 52 #[.pointer (some ⟨R,0,none⟩),.int .u8 c] w fun e w'=>e=.returned (.bool (iU s.data.toList q c))/\Dq w' B P R s now de q ns own/\DFr B P w w':=by
 match q,h with
 | .error e,⟨L,O,h1,h2,h3,h4⟩ =>
  refine(tH R s L O now de _ c hc w h1 (by omega)).mono ?_;rintro e' w' ⟨rfl,b⟩;obtain⟨ii,er,p,hdd⟩:=h1.dd;exact⟨rfl,⟨L,O,h1.grow b,h2,h3,Nat.lt_of_lt_of_le h4 b.size⟩,DFr.gb b (Nat.le_of_lt (Nat.lt_of_le_of_lt h2 (aB hdd))) h4⟩
 | .ok i,h =>
  obtain⟨h1,h2,N,c',O,oc,xs,ks,h3,h4,h5,h6⟩:=h;refine(tH R s _ _ now de _ c hc w h6 (by omega)).mono ?_;rintro e' w' ⟨rfl,b⟩;obtain⟨ii,er,p,hdd⟩:=h6.dd;exact⟨rfl,⟨h1,h2,N,c',O,oc,xs,ks,h3,h4,h5.gb b,h6.grow b⟩,DFr.gb b (Nat.le_of_lt (Nat.lt_of_le_of_lt h1 (aB hdd))) h5.hP⟩
end
theorem zi(B P R:Nat)(s:ByteArray)(now de:Nat)(ns:List Tn)(own:List Nat)(i:Nat)(w:World)(h:Dt w B P R s now de (.ok i) ns own)(c:Int)(hc:c≠0)(a:Nat) :
  Calls prog 82 #[.pointer (some ⟨R,0,none⟩),.int .i64 c,.int .i64 (a:Nat)] w fun e w'=>e=.returned (.tuple #[])/\Dt w' B P R s now de (.error (c,a)) ns own/\DFr B P w w':=by
 have h0:=h;obtain⟨h1,h2,N,c',O,oc,xs,ks,h3,h4,h5,h6⟩:=h;refine(qg R s _ _ now de i c a w h6.2).mono ?_;rintro e' w' ⟨rfl,a1,b⟩;exact⟨rfl,⟨h1,h2,N,c',O,oc,xs,ks,h3,h4,h5.keepR h6.2 b,⟨hc,i,h6.1,a1⟩⟩,rZ h6 h1 h2 h5.hP b⟩
def uu(B P R:Nat)(s:ByteArray)(now de:Nat)(own:List Nat)(g:Rs (Nat × List Tn))(w:World)(e:Ending)(w':World):Prop:=e=.returned (.tuple #[])/\(∀j ns',g=.ok (j,ns')->Dt w' B P R s now de (.ok j) ns' own)/\(∀c,g=.error c->Fq w' B P R s now de c)/\DFr B P w w'
def OA(f:Nat):Prop:=∀(B P R:Nat) (s:ByteArray) (own:List Nat) (now i up:Nat) (k:List UInt8) (p d:Nat) (ns:List Tn) (w:World),Dt w B P R s now d (.ok i) ns own->s.size<=100000->WF ns own->WT ns->up<ns.length->¬ak ns up=2->d<=8->ns.length+(s.size-i)<=700000->2*(s.size-i)+1<=f →
 Calls prog 83 #[.pointer (some ⟨R,0,none⟩),.int .i64 (up:Nat),.string ⟨k.toArray⟩,.int .i64 (p:Nat)] w (uu B P R s now d own (val s.data.toList f i up k p d ns) w)
def IY(f:Nat):Prop:=∀(B P R:Nat) (s:ByteArray) (own:List Nat) (now i up:Nat) (k:List UInt8) (p d:Nat) (ns:List Tn) (w:World),Dt w B P R s now d (.ok i) ns own->s.size<=100000->nx s.data.toList i=91->WF ns own->WT ns->up<ns.length->¬ak ns up=2->d<=8->ns.length+(s.size-i)<=700000->2*(s.size-i)<=f →
 Calls prog 121 #[.pointer (some ⟨R,0,none⟩),.int .i64 (up:Nat),.string ⟨k.toArray⟩,.int .i64 (p:Nat)] w (uu B P R s now d own (if d=8 then .error (4,i) else lst s.data.toList f (i+1) ns.length (d+1) (addN ns up ⟨1,k,[],0,[],p⟩)) w)
open Go.RowKit Go.Maps Go.WideMaps Go.Joins
def aeu(B P R:Nat)(s:ByteArray)(now de:Nat)(ns:List Tn)(own:List Nat)(g:Rs (List UInt8 × Nat))(w:World)(e:Ending)(w':World):Prop:=(∀t j,g=.ok (t,j)->e=.returned (.string ⟨t.toArray⟩)/\Dt w' B P R s now de (.ok j) ns own)/\(∀c,g=.error c->∃t:List UInt8,e=.returned (.string ⟨t.toArray⟩)/\Dt w' B P R s now de (.error c) ns own)/\DFr B P w w'
theorem aev(B P R:Nat)(s:ByteArray)(now de i:Nat)(ns:List Tn)(own:List Nat)(w:World)(h:Dt w B P R s now de (.ok i) ns own)(hx:nx s.data.toList i=34)(hs:s.size<=100000) :
  Calls prog 119 #[.pointer (some ⟨R,0,none⟩)] w (aeu B P R s now de ns own (str s.data.toList (s.data.toList.length+1) (i+1) []) w):=by
 have hlt:i<s.size:=by have:=aY (l:=s.data.toList) (i:=i) (by omega);simpa using this
 obtain⟨h1,h2,N,c,O,oc,xs,ks,h3,h4,h5,h6⟩:=h;refine(Vj R s _ _ now de i w h6.2 hlt hx (by omega)).mono ?_;rintro e w' ⟨a1,a2,a3⟩;refine⟨fun t j hg=>?_,fun c hg=>?_,rZ h6 h1 h2 h5.hP a3⟩
 ·obtain⟨b1,b2⟩:=a1 t j hg;exact⟨b1,h1,h2,N,_,O,oc,xs,ks,h3,h4,h5.keepR h6.2 a3,b2⟩
 ·obtain⟨⟨t,-,b1⟩,b2⟩:=a2 c.1 c.2 hg;exact⟨t,b1,h1,h2,N,_,O,oc,xs,ks,h3,h4,h5.keepR h6.2 a3,b2⟩
def aew(B P R:Nat)(s:ByteArray)(now de:Nat)(ns:List Tn)(own:List Nat)(g:Rs (Int × Nat))(w:World)(e:Ending)(w':World):Prop:=(∀n j,g=.ok (n,j)->e=.returned (.int .i64 n)/\Dt w' B P R s now de (.ok j) ns own)/\(∀c,g=.error c->∃n:Int,e=.returned (.int .i64 n)/\Dt w' B P R s now de (.error c) ns own)/\DFr B P w w'
theorem aex(B P R:Nat)(s:ByteArray)(now de i:Nat)(ns:List Tn)(own:List Nat)(w:World)(h:Dt w B P R s now de (.ok i) ns own)(hi:i<s.size)(hx:nx s.data.toList i=43\/nx s.data.toList i=45\/aA (nx s.data.toList i)=true)(hs:s.size<=100000) :
  Calls prog 123 #[.pointer (some ⟨R,0,none⟩)] w (aew B P R s now de ns own (jc s.data.toList i) w):=by
 obtain⟨h1,h2,N,c,O,oc,xs,ks,h3,h4,h5,h6⟩:=h;refine(ado R s _ _ now de i w h6.2 hi (by omega) hx).mono ?_;rintro e w' ⟨a1,a2,a3⟩;refine⟨fun t j hg=>?_,fun c hg=>?_,rZ h6 h1 h2 h5.hP a3⟩
 ·obtain⟨b1,b2⟩:=a1 t j hg;exact⟨b1,h1,h2,N,_,O,oc,xs,ks,h3,h4,h5.keepR h6.2 a3,b2⟩
 ·obtain⟨⟨t,b1⟩,b2⟩:=a2 c.1 c.2 hg;exact⟨t,b1,h1,h2,N,_,O,oc,xs,ks,h3,h4,h5.keepR h6.2 a3,b2⟩
theorem Dt.cells{w:World}{B P R:Nat}{s:ByteArray}{now de i:Nat}{ns:List Tn}{own:List Nat}(h:Dt w B P R s now de (.ok i) ns own):w.cell? ⟨R,0,none⟩=some (.string s)/\w.cell? ⟨R,1,none⟩=some (.int .i64 (i:Nat))/\w.cell? ⟨R,5,none⟩=some (.int .i64 0)/\w.cell? ⟨R,7,none⟩=some (.int .i64 (de:Nat))/\w.cell? ⟨R,4,none⟩=some (.int .i64 (now:Nat))/\i<=s.size/\∀k,w.frozen? ⟨R,k,none⟩=false:=by
 obtain⟨h1,h2,N,c,O,oc,xs,ks,h3,h4,h5,h6⟩:=h;obtain⟨c0,c1,c2,c3,c4,c5,c6,c7,cf⟩:=h6.2.cells;exact⟨c0,c1,c5,c7,c4,h6.1,cf⟩
theorem Dt.drew{w:World}{B P R:Nat}{s:ByteArray}{now de:Nat}{q:Rs Nat}{ns:List Tn}{own:List Nat}(h:Dt w B P R s now de q ns own)(n:Nat):Dt (w.drewN n) B P R s now de q ns own/\DFr B P w (w.drewN n):=by
 have hb:=h.base;obtain⟨h1,h2,N,c,O,oc,xs,ks,h3,h4,h5,h6⟩:=h;have g:=ay (au w none) n;exact⟨⟨h1,h2,N,c,O,oc,xs,ks,h3,h4,h5.gb g,h6.grow g⟩,DFr.gb g hb.1 hb.2.1⟩
theorem Fq.err{w:World}{B P R:Nat}{s:ByteArray}{now de:Nat}{e:Int × Nat}(h:Fq w B P R s now de e):w.cell? ⟨R,5,none⟩=some (.int .i64 e.1)/\(e.1 == 0)=false:=by
 obtain⟨L,O,⟨h1,j,h2,h3⟩,-⟩:=h;exact⟨h3.cells.2.2.2.2.2.1,by simpa using h1⟩
def zk{α:Type}(F:α->List Tn):Rs (α × Nat)->Rs (Nat × List Tn)
 | .error e=>.error e
 | .ok (t,j)=>.ok (j,F t)
theorem aey(l:List UInt8)(f i up:Nat)(k:List UInt8)(p d:Nat)(ns:List Tn)(h:nx l i=34):val l (f+1) i up k p d ns=zk (fun t=>addN ns up ⟨3,k,t,0,[],p⟩) (str l (l.length+1) (i+1) []):=by
 rw[o9,if_pos h]
 cases str l (l.length+1) (i+1) []<;>rfl
theorem aez(l:List UInt8)(f i up:Nat)(k:List UInt8)(p d:Nat)(ns:List Tn)(h0:¬nx l i=34)(h:nx l i=43\/nx l i=45\/aA (nx l i)=true):val l (f+1) i up k p d ns=zk (fun n=>addN ns up ⟨4,k,[],n,[],p⟩) (jc l i):=by
 rw[o9,if_neg h0,if_pos h]
 cases jc l i<;>rfl
theorem aeA(l:List UInt8)(f i up:Nat)(k:List UInt8)(p d:Nat)(ns:List Tn)(h:nx l i=116\/nx l i=102):val l (f+1) i up k p d ns=zk (fun n=>addN ns up ⟨5,k,[],n,[],p⟩) (lQ l i):=by
 rw[o9,if_neg (by rcases h with h|h<;>rw[h]<;>decide),if_neg (by rcases h with h|h<;>rw[h]<;>decide),if_pos h]
 cases lQ l i<;>rfl
theorem Dt.err{w:World}{B P R:Nat}{s:ByteArray}{now de:Nat}{ns:List Tn}{own:List Nat}{e:Int × Nat}(h:Dt w B P R s now de (.error e) ns own):w.cell? ⟨R,5,none⟩=some (.int .i64 e.1)/\(e.1 == 0)=false:=h.fq.err
open Go.RowKit Go.Maps Go.WideMaps Go.Joins
theorem aeB(f:Nat)(B P R:Nat)(s:ByteArray)(own:List Nat)(now i up:Nat)(k:List UInt8)(p d:Nat)(ns:List Tn)(w:World)(h:Dt w B P R s now d (.ok i) ns own)(hs:s.size<=100000)(W:WF ns own)(V:WT ns)(hu:up<ns.length)(hk2:¬ak ns up=2)(hd:d<=8)(hsz:ns.length+(s.size-i)<=700000)(hf:2*(s.size-i)+1<=f+1)(he:s.size<=i) :
  Calls prog 83 #[.pointer (some ⟨R,0,none⟩),.int .i64 (up:Nat),.string ⟨k.toArray⟩,.int .i64 (p:Nat)] w (uu B P R s now d own (val s.data.toList (f+1) i up k p d ns) w):=by
 have hl:s.data.toList.length=s.size:=by simp
 obtain⟨c0,c1,c5,-,-,hi,-⟩:=h.cells;have HD:=ae h;rw[o9];have hn:nx s.data.toList i=-1:=jJ _ _ (by omega);rw[if_neg (by rw[hn];decide),if_neg (by rw[hn];decide),if_neg (by rw[hn];decide),if_neg (by rw[hn];decide)];have hge:decide ((s.size:Int)<=(i:Int))=true:=by simp;omega
 have lU:(s.size:Int)<=(i:Int):=by omega
 have CF:=ae (fun w (h:Dt w B P R s now d (.ok i) ns own)=>zi B P R s now d ns own i w h 2 (by decide) i);clear h hn he V W hk2;go_enter func83,ntmps83;go_wp2;go_quiet (fail);have aF:=HD.o.drew nq;have dG:=ae aF.1;have bi:=ae aF.2;obtain⟨wA,hwA⟩:=zN (w.drewN nq);rw[hwA]at dG bi ⊢;obtain⟨d0,d1,d5,-,-,-,-⟩:=dG.o.cells;clear hwA aF c0 c1 c5;go_wp2_with (go_at_call 82;refine(CF.o _ dG.o).mono ?_;rintro e w2 ⟨rfl,hd2,hf2⟩;have e5:=hd2.err.1);refine bodyPost_ret (results_none rfl _ _ _) rfl ?_;exact⟨rfl,fun j ns' hh=>(by cases hh),fun c hh=>(by cases hh;exact hd2.fq),bi.o.two hf2⟩
open Go.RowKit Go.Maps Go.WideMaps Go.Joins
theorem aeC(f:Nat)(CL:IY f)(B P R:Nat)(s:ByteArray)(own:List Nat)(now i up:Nat)(k:List UInt8)(p d:Nat)(ns:List Tn)(w:World)(h:Dt w B P R s now d (.ok i) ns own)(hs:s.size<=100000)(W:WF ns own)(V:WT ns)(hu:up<ns.length)(hk2:¬ak ns up=2)(hd:d<=8)(hsz:ns.length+(s.size-i)<=700000)(hf:2*(s.size-i)+1<=f+1)(hx:nx s.data.toList i=91) :
  Calls prog 83 #[.pointer (some ⟨R,0,none⟩),.int .i64 (up:Nat),.string ⟨k.toArray⟩,.int .i64 (p:Nat)] w (uu B P R s now d own (val s.data.toList (f+1) i up k p d ns) w):=by
 have hl:s.data.toList.length=s.size:=by simp
 obtain⟨c0,c1,c5,-,-,hi,-⟩:=h.cells;have HD:=ae h;rw[o9];rw[if_neg (by rw[hx];decide),if_neg (by rw[hx];decide),if_neg (by rw[hx];decide),if_pos hx];have hlt0:i<s.size:=by have:=aY (l:=s.data.toList) (i:=i) (by omega);omega
 have hlt:=hlt0;have hge:decide ((s.size:Int)<=(i:Int))=false:=by simp;omega
 have lU:¬(s.size:Int)<=(i:Int):=by omega
 have gm:Hd (nx s.data.toList i=(s[i].toNat:Int)):=byte_at s i hlt;have q34:((s[i].toNat:Int) == 34)=false:=by rw[beq_eq_false_iff_ne,<-gm.o];rw[hx];decide
 have q91:((s[i].toNat:Int) == 91)=true:=by rw[<-gm.o,hx];rfl
 have CQ:=ae (fun w (h:Dt w B P R s now d (.ok i) ns own)=>CL B P R s own now i up k p d ns w h hs hx W V hu hk2 hd hsz (by omega));obtain⟨G,hG⟩:∃G:Rs (Nat × List Tn),(if d=8 then .error (4,i) else lst s.data.toList f (i+1) ns.length (d+1) (addN ns up ⟨1,k,[],0,[],p⟩))=G:=⟨_,rfl⟩;rw[hG]at CQ ⊢;clear h hx hG V W hk2 gm;go_enter func83,ntmps83;go_wp2;go_quiet (fail);have aF:=HD.o.drew nq;have dG:=ae aF.1;have bi:=ae aF.2;obtain⟨wA,hwA⟩:=zN (w.drewN nq);rw[hwA]at dG bi ⊢;obtain⟨d0,d1,d5,-,-,-,-⟩:=dG.o.cells;clear hwA aF c0 c1 c5;go_wp2;go_quiet (fail);have aI:=dG.o.drew nq;have jX:=ae aI.1;have kT:=ae (bi.o.two aI.2);obtain⟨wB,hwB⟩:=zN (wA.drewN nq);rw[hwB]at jX kT ⊢;obtain⟨g0,g1,g5,-,-,-,-⟩:=jX.o.cells;clear hwB aI d0 d1 d5;go_wp2_with (go_at_call 121;refine(CQ.o _ jX.o).mono ?_;rintro e w2 ⟨rfl,h1,h2,hf2⟩)
 refine bodyPost_end (results_none rfl _ _ _) rfl ?_;exact⟨rfl,h1,h2,kT.o.two hf2⟩
open Go.RowKit Go.Maps Go.WideMaps Go.Joins
theorem aeD(f:Nat)(B P R:Nat)(s:ByteArray)(own:List Nat)(now i up:Nat)(k:List UInt8)(p d:Nat)(ns:List Tn)(w:World)(h:Dt w B P R s now d (.ok i) ns own)(hs:s.size<=100000)(W:WF ns own)(V:WT ns)(hu:up<ns.length)(hk2:¬ak ns up=2)(hd:d<=8)(hsz:ns.length+(s.size-i)<=700000)(hf:2*(s.size-i)+1<=f+1)(hx:nx s.data.toList i=34) :
  Calls prog 83 #[.pointer (some ⟨R,0,none⟩),.int .i64 (up:Nat),.string ⟨k.toArray⟩,.int .i64 (p:Nat)] w (uu B P R s now d own (val s.data.toList (f+1) i up k p d ns) w):=by
 have hl:s.data.toList.length=s.size:=by simp
 obtain⟨c0,c1,c5,-,-,hi,-⟩:=h.cells;have HD:=ae h;rw[aey _ _ _ _ _ _ _ _ hx];have hlt0:i<s.size:=by have:=aY (l:=s.data.toList) (i:=i) (by omega);omega
 have hlt:=hlt0;have hge:decide ((s.size:Int)<=(i:Int))=false:=by simp;omega
 have lU:¬(s.size:Int)<=(i:Int):=by omega
 have gm:Hd (nx s.data.toList i=(s[i].toNat:Int)):=byte_at s i hlt;have q34:((s[i].toNat:Int) == 34)=true:=by rw[<-gm.o,hx];rfl
 have CQ:=ae (fun w (h:Dt w B P R s now d (.ok i) ns own)=>aev B P R s now d i ns own w h hx hs);have CA:=ae (fun(q:Rs Nat) (t:List UInt8) w (h:Dt w B P R s now d q ns own)=>vO B P R s now d q ns own up 3 0 k t p w h W hu (by omega));obtain⟨G,hG⟩:=zN (str s.data.toList (s.data.toList.length+1) (i+1) []);rw[hG]at CQ ⊢;obtain⟨Q,hQ⟩:∃Q:Rs (Nat × List Tn),(zk (fun t=>addN ns up ⟨3,k,t,0,[],p⟩) G)=Q:=⟨_,rfl⟩;have HQ:=ae hQ;rw[hQ];clear h hx hG hQ V W hk2 gm;go_enter func83,ntmps83;go_wp2;go_quiet (fail);have aF:=HD.o.drew nq;have dG:=ae aF.1;have bi:=ae aF.2;obtain⟨wA,hwA⟩:=zN (w.drewN nq);rw[hwA]at dG bi ⊢;obtain⟨d0,d1,d5,-,-,-,-⟩:=dG.o.cells;clear hwA aF c0 c1 c5;go_wp2;go_quiet (fail);have aI:=dG.o.drew nq;have jX:=ae aI.1;have kT:=ae (bi.o.two aI.2);obtain⟨wB,hwB⟩:=zN (wA.drewN nq);rw[hwB]at jX kT ⊢
 obtain⟨g0,g1,g5,-,-,-,-⟩:=jX.o.cells;clear hwB aI d0 d1 d5;go_wp2_with (go_at_call 119;refine(CQ.o _ jX.o).mono ?_);rintro e w2 ⟨h1,h2,hf2⟩;have HF2:=ae (kT.o.two hf2);clear hf2
 match G,h1,h2,HQ with
 | .error c,_,h2,HQ =>
  obtain⟨t,rfl,hd2⟩:=h2 c rfl;have HD2:=ae hd2;have jf:Hd (Q=.error c):=HQ.o.symm;clear h2 hd2;go_wp2_with (go_at_call 29;refine(CA.o _ t _ HD2.o).mono ?_;rintro e w3 ⟨rfl,hd3,hf3⟩);refine bodyPost_end (results_none rfl _ _ _) rfl ?_;rw[jf.o];exact⟨rfl,fun j ns' hh=>(by cases hh),fun c' hh=>(by injection hh with hh;subst hh;exact hd3.fq),HF2.o.two hf3⟩
 | .ok (t,j),h1,_,HQ =>
  obtain⟨rfl,hd2⟩:=h1 t j rfl;have HD2:=ae hd2;have jf:Hd (Q=.ok (j,addN ns up ⟨3,k,t,0,[],p⟩)):=HQ.o.symm;clear h1 hd2;go_wp2_with (go_at_call 29;refine(CA.o _ t _ HD2.o).mono ?_;rintro e w3 ⟨rfl,hd3,hf3⟩);refine bodyPost_end (results_none rfl _ _ _) rfl ?_;rw[jf.o];exact⟨rfl,fun j ns' hh=>(by cases hh;exact hd3),fun c' hh=>(by cases hh),HF2.o.two hf3⟩
open Go.RowKit Go.Maps Go.WideMaps Go.Joins
theorem aeE(f:Nat)(B P R:Nat)(s:ByteArray)(own:List Nat)(now i up:Nat)(k:List UInt8)(p d:Nat)(ns:List Tn)(w:World)(h:Dt w B P R s now d (.ok i) ns own)(hs:s.size<=100000)(W:WF ns own)(V:WT ns)(hu:up<ns.length)(hk2:¬ak ns up=2)(hd:d<=8)(hsz:ns.length+(s.size-i)<=700000)(hf:2*(s.size-i)+1<=f+1)(hlt0:i<s.size)(n34:¬nx s.data.toList i=34)(nin:¬(nx s.data.toList i=43\/nx s.data.toList i=45\/aA (nx s.data.toList i)=true))(ntf:¬(nx s.data.toList i=116\/nx s.data.toList i=102))(n91:¬nx s.data.toList i=91) :
  Calls prog 83 #[.pointer (some ⟨R,0,none⟩),.int .i64 (up:Nat),.string ⟨k.toArray⟩,.int .i64 (p:Nat)] w (uu B P R s now d own (val s.data.toList (f+1) i up k p d ns) w):=by
 have hl:s.data.toList.length=s.size:=by simp
 obtain⟨c0,c1,c5,-,-,hi,-⟩:=h.cells;have HD:=ae h;rw[o9];rw[if_neg n34,if_neg nin,if_neg ntf,if_neg n91];have n43:¬nx s.data.toList i=43:=fun e=>nin (Or.inl e)
 have n45:¬nx s.data.toList i=45:=fun e=>nin (Or.inr (Or.inl e))
 have ndg:aA (nx s.data.toList i)=false:=by cases hh:aA (nx s.data.toList i);rfl;exact(nin (Or.inr (Or.inr hh))).elim
 have n116:¬nx s.data.toList i=116:=fun e=>ntf (Or.inl e)
 have n102:¬nx s.data.toList i=102:=fun e=>ntf (Or.inr e)
 have hlt:=hlt0;have hge:decide ((s.size:Int)<=(i:Int))=false:=by simp;omega
 have lU:¬(s.size:Int)<=(i:Int):=by omega
 have gm:Hd (nx s.data.toList i=(s[i].toNat:Int)):=byte_at s i hlt;have q34:((s[i].toNat:Int) == 34)=false:=by rw[beq_eq_false_iff_ne,<-gm.o];exact n34
 have q91:((s[i].toNat:Int) == 91)=false:=by rw[beq_eq_false_iff_ne,<-gm.o];exact n91
 have q43:((s[i].toNat:Int) == 43)=false:=by rw[beq_eq_false_iff_ne,<-gm.o];exact n43
 have q45:((s[i].toNat:Int) == 45)=false:=by rw[beq_eq_false_iff_ne,<-gm.o];exact n45
 have q116:((s[i].toNat:Int) == 116)=false:=by rw[beq_eq_false_iff_ne,<-gm.o];exact n116
 have q102:((s[i].toNat:Int) == 102)=false:=by rw[beq_eq_false_iff_ne,<-gm.o];exact n102
 have CD:Hd (∀w,Calls prog 122 #[.int .u8 (s[i].toNat:Int)] w fun e w'=>e=.returned (.bool false)/\w'=w):=fun w=>by
  have:=Af s[i] w;rw[<-gm.o,ndg]at this;rw[<-gm.o];exact this
 have CF:=ae (fun w (h:Dt w B P R s now d (.ok i) ns own)=>zi B P R s now d ns own i w h 2 (by decide) i);clear h V W hk2 gm n34 nin ntf n91 n43 n45 ndg n116 n102;go_enter func83,ntmps83;go_wp2;go_quiet (fail);have aF:=HD.o.drew nq;have dG:=ae aF.1;have bi:=ae aF.2;obtain⟨wA,hwA⟩:=zN (w.drewN nq);rw[hwA]at dG bi ⊢;obtain⟨d0,d1,d5,-,-,-,-⟩:=dG.o.cells;clear hwA aF c0 c1 c5;go_wp2;go_quiet (fail);have aI:=dG.o.drew nq;have jX:=ae aI.1;have kT:=ae (bi.o.two aI.2);obtain⟨wB,hwB⟩:=zN (wA.drewN nq);rw[hwB]at jX kT ⊢;obtain⟨g0,g1,g5,-,-,-,-⟩:=jX.o.cells;clear hwB aI d0 d1 d5;go_wp2_with (first|(go_at_call 122;refine(CD.o _).mono ?_;rintro e w' ⟨rfl,rfl⟩)|(go_at_call 82;refine(CF.o _ jX.o).mono ?_;rintro e w2 ⟨rfl,hd2,hf2⟩));refine bodyPost_end (results_none rfl _ _ _) rfl ?_;exact⟨rfl,fun j ns' hh=>(by cases hh),fun c hh=>(by cases hh;exact hd2.fq),kT.o.two hf2⟩
open Go.RowKit Go.Maps Go.WideMaps Go.Joins
theorem aeF(f:Nat)(B P R:Nat)(s:ByteArray)(own:List Nat)(now i up:Nat)(k:List UInt8)(p d:Nat)(ns:List Tn)(w:World)(h:Dt w B P R s now d (.ok i) ns own)(hs:s.size<=100000)(W:WF ns own)(V:WT ns)(hu:up<ns.length)(hk2:¬ak ns up=2)(hd:d<=8)(hsz:ns.length+(s.size-i)<=700000)(hf:2*(s.size-i)+1<=f+1)(hx:nx s.data.toList i=43\/nx s.data.toList i=45\/aA (nx s.data.toList i)=true) :
  Calls prog 83 #[.pointer (some ⟨R,0,none⟩),.int .i64 (up:Nat),.string ⟨k.toArray⟩,.int .i64 (p:Nat)] w (uu B P R s now d own (val s.data.toList (f+1) i up k p d ns) w):=by
 have hl:s.data.toList.length=s.size:=by simp
 obtain⟨c0,c1,c5,-,-,hi,-⟩:=h.cells;have HD:=ae h;have hx34:¬nx s.data.toList i=34:=fun e=>by rw[e]at hx;revert hx;decide
 have hx91:¬nx s.data.toList i=91:=fun e=>by rw[e]at hx;revert hx;decide
 rw[aez _ _ _ _ _ _ _ _ hx34 hx];have hlt0:i<s.size:=by
  have:=aY (l:=s.data.toList) (i:=i) (by
   rcases hx with h|h|h
   ·rw[h];decide
   ·rw[h];decide
   ·have:=of_decide_eq_true h;omega)
  omega
 have hlt:=hlt0;have hge:decide ((s.size:Int)<=(i:Int))=false:=by simp;omega
 have lU:¬(s.size:Int)<=(i:Int):=by omega
 have gm:Hd (nx s.data.toList i=(s[i].toNat:Int)):=byte_at s i hlt;have q34:((s[i].toNat:Int) == 34)=false:=by rw[beq_eq_false_iff_ne,<-gm.o];exact hx34
 have q91:((s[i].toNat:Int) == 91)=false:=by rw[beq_eq_false_iff_ne,<-gm.o];exact hx91
 have CD:=ae (Af s[i]);have vS:Hd (((s[i].toNat:Int) == 43)=true\/(((s[i].toNat:Int) == 43)=false/\((s[i].toNat:Int) == 45)=true)\/(((s[i].toNat:Int) == 43)=false/\((s[i].toNat:Int) == 45)=false/\aA (s[i].toNat:Int)=true)):=by
  show _\/_;rw[gm.o]at hx
  by_cases h1:(s[i].toNat:Int)=43
  ·left;simpa using h1
  ·by_cases h2:(s[i].toNat:Int)=45
   ·right;left;exact⟨by simpa using h1,by simpa using h2⟩
   ·right;right;exact⟨by simpa using h1,by simpa using h2,by rcases hx with h|h|h;exact(h1 h).elim;exact(h2 h).elim;exact h⟩
 have CQ:=ae (fun w (h:Dt w B P R s now d (.ok i) ns own)=>aex B P R s now d i ns own w h hlt hx hs);have CA:=ae (fun(q:Rs Nat) (t:Int) w (h:Dt w B P R s now d q ns own)=>vO B P R s now d q ns own up 4 t k [] p w h W hu (by omega));obtain⟨G,hG⟩:=zN (jc s.data.toList i);rw[hG]at CQ ⊢;obtain⟨Q,hQ⟩:∃Q:Rs (Nat × List Tn),(zk (fun n=>addN ns up ⟨4,k,[],n,[],p⟩) G)=Q:=⟨_,rfl⟩;have HQ:=ae hQ;rw[hQ];obtain⟨bd,hbd⟩:=zN (aA (s[i].toNat:Int));rw[hbd]at CD vS;clear h hx hG hQ V W hk2 gm hx34 hx91 hbd;go_enter func83,ntmps83;go_wp2;go_quiet (fail);have aF:=HD.o.drew nq;have dG:=ae aF.1;have bi:=ae aF.2;obtain⟨wA,hwA⟩:=zN (w.drewN nq);rw[hwA]at dG bi ⊢;obtain⟨d0,d1,d5,-,-,-,-⟩:=dG.o.cells;clear hwA aF c0 c1 c5;go_wp2;go_quiet (fail);have aI:=dG.o.drew nq;have jX:=ae aI.1;have kT:=ae (bi.o.two aI.2)
 obtain⟨wB,hwB⟩:=zN (wA.drewN nq);rw[hwB]at jX kT ⊢;obtain⟨g0,g1,g5,-,-,-,-⟩:=jX.o.cells;clear hwB aI d0 d1 d5
 rcases vS.o with q43|⟨q43,q45⟩|⟨q43,q45,rfl⟩
 ·go_wp2_with (go_at_call 123;refine(CQ.o _ jX.o).mono ?_);rintro e w2 ⟨h1,h2,hf2⟩;have HF2:=ae (kT.o.two hf2);clear hf2
  match G,h1,h2,HQ with
  | .error c,_,h2,HQ =>
   obtain⟨t,rfl,hd2⟩:=h2 c rfl;have HD2:=ae hd2;have jf:Hd (Q=.error c):=HQ.o.symm;clear h2 hd2;go_wp2_with (go_at_call 29;refine(CA.o _ t _ HD2.o).mono ?_;rintro e w3 ⟨rfl,hd3,hf3⟩);refine bodyPost_end (results_none rfl _ _ _) rfl ?_;rw[jf.o];exact⟨rfl,fun j ns' hh=>(by cases hh),fun c' hh=>(by injection hh with hh;subst hh;exact hd3.fq),HF2.o.two hf3⟩
  | .ok (t,j),h1,_,HQ =>
   obtain⟨rfl,hd2⟩:=h1 t j rfl;have HD2:=ae hd2;have jf:Hd (Q=.ok (j,addN ns up ⟨4,k,[],t,[],p⟩)):=HQ.o.symm;clear h1 hd2;go_wp2_with (go_at_call 29;refine(CA.o _ t _ HD2.o).mono ?_;rintro e w3 ⟨rfl,hd3,hf3⟩);refine bodyPost_end (results_none rfl _ _ _) rfl ?_;rw[jf.o];exact⟨rfl,fun j ns' hh=>(by cases hh;exact hd3),fun c' hh=>(by cases hh),HF2.o.two hf3⟩
 ·go_wp2_with (go_at_call 123;refine(CQ.o _ jX.o).mono ?_);rintro e w2 ⟨h1,h2,hf2⟩;have HF2:=ae (kT.o.two hf2);clear hf2
  match G,h1,h2,HQ with
  | .error c,_,h2,HQ =>
   obtain⟨t,rfl,hd2⟩:=h2 c rfl;have HD2:=ae hd2;have jf:Hd (Q=.error c):=HQ.o.symm;clear h2 hd2;go_wp2_with (go_at_call 29;refine(CA.o _ t _ HD2.o).mono ?_;rintro e w3 ⟨rfl,hd3,hf3⟩);refine bodyPost_end (results_none rfl _ _ _) rfl ?_;rw[jf.o];exact⟨rfl,fun j ns' hh=>(by cases hh),fun c' hh=>(by injection hh with hh;subst hh;exact hd3.fq),HF2.o.two hf3⟩
  | .ok (t,j),h1,_,HQ =>
   obtain⟨rfl,hd2⟩:=h1 t j rfl;have HD2:=ae hd2;have jf:Hd (Q=.ok (j,addN ns up ⟨4,k,[],t,[],p⟩)):=HQ.o.symm;clear h1 hd2;go_wp2_with (go_at_call 29;refine(CA.o _ t _ HD2.o).mono ?_;rintro e w3 ⟨rfl,hd3,hf3⟩);refine bodyPost_end (results_none rfl _ _ _) rfl ?_;rw[jf.o];exact⟨rfl,fun j ns' hh=>(by cases hh;exact hd3),fun c' hh=>(by cases hh),HF2.o.two hf3⟩
 ·go_wp2_with (first|(go_at_call 123;refine(CQ.o _ jX.o).mono ?_)|(go_at_call 122;refine(CD.o _).mono ?_;rintro e w' ⟨rfl,rfl⟩));rintro e w2 ⟨h1,h2,hf2⟩;have HF2:=ae (kT.o.two hf2);clear hf2
  match G,h1,h2,HQ with
  | .error c,_,h2,HQ =>
   obtain⟨t,rfl,hd2⟩:=h2 c rfl;have HD2:=ae hd2;have jf:Hd (Q=.error c):=HQ.o.symm;clear h2 hd2;go_wp2_with (go_at_call 29;refine(CA.o _ t _ HD2.o).mono ?_;rintro e w3 ⟨rfl,hd3,hf3⟩);refine bodyPost_end (results_none rfl _ _ _) rfl ?_;rw[jf.o];exact⟨rfl,fun j ns' hh=>(by cases hh),fun c' hh=>(by injection hh with hh;subst hh;exact hd3.fq),HF2.o.two hf3⟩
  | .ok (t,j),h1,_,HQ =>
   obtain⟨rfl,hd2⟩:=h1 t j rfl;have HD2:=ae hd2;have jf:Hd (Q=.ok (j,addN ns up ⟨4,k,[],t,[],p⟩)):=HQ.o.symm;clear h1 hd2;go_wp2_with (go_at_call 29;refine(CA.o _ t _ HD2.o).mono ?_;rintro e w3 ⟨rfl,hd3,hf3⟩);refine bodyPost_end (results_none rfl _ _ _) rfl ?_;rw[jf.o];exact⟨rfl,fun j ns' hh=>(by cases hh;exact hd3),fun c' hh=>(by cases hh),HF2.o.two hf3⟩
open Go.RowKit Go.Maps Go.WideMaps Go.Joins
theorem Dt.setI{w:World}{B P R:Nat}{s:ByteArray}{now de i:Nat}{ns:List Tn}{own:List Nat}(h:Dt w B P R s now de (.ok i) ns own)(j:Nat)(hj:j<=s.size):Dt (w.setCell ⟨R,1,none⟩ (.int .i64 (j:Nat))) B P R s now de (.ok j) ns own/\DFr B P w (w.setCell ⟨R,1,none⟩ (.int .i64 (j:Nat))) :=
 h.keep (fun L O hd=>⟨hj,hd.2.setI j⟩) (aS (au w (some R)) 1 _)
theorem aeG(f:Nat)(B P R:Nat)(s:ByteArray)(own:List Nat)(now i up:Nat)(k:List UInt8)(p d:Nat)(ns:List Tn)(w:World)(h:Dt w B P R s now d (.ok i) ns own)(hs:s.size<=100000)(W:WF ns own)(V:WT ns)(hu:up<ns.length)(hk2:¬ak ns up=2)(hd:d<=8)(hsz:ns.length+(s.size-i)<=700000)(hf:2*(s.size-i)+1<=f+1)(hx:nx s.data.toList i=116\/nx s.data.toList i=102) :
  Calls prog 83 #[.pointer (some ⟨R,0,none⟩),.int .i64 (up:Nat),.string ⟨k.toArray⟩,.int .i64 (p:Nat)] w (uu B P R s now d own (val s.data.toList (f+1) i up k p d ns) w):=by
 have hl:s.data.toList.length=s.size:=by simp
 obtain⟨c0,c1,c5,-,-,hi,-⟩:=h.cells;have HD:=ae h;rw[aeA _ _ _ _ _ _ _ _ hx];have hlt0:i<s.size:=by
  have:=aY (l:=s.data.toList) (i:=i) (by rcases hx with h|h<;>rw[h]<;>decide);omega
 have hlt:=hlt0;have hge:decide ((s.size:Int)<=(i:Int))=false:=by simp;omega
 have lU:¬(s.size:Int)<=(i:Int):=by omega
 have gm:Hd (nx s.data.toList i=(s[i].toNat:Int)):=byte_at s i hlt;have q34:((s[i].toNat:Int) == 34)=false:=by rw[beq_eq_false_iff_ne,<-gm.o];rcases hx with h|h<;>rw[h]<;>decide
 have q91:((s[i].toNat:Int) == 91)=false:=by rw[beq_eq_false_iff_ne,<-gm.o];rcases hx with h|h<;>rw[h]<;>decide
 have q43:((s[i].toNat:Int) == 43)=false:=by rw[beq_eq_false_iff_ne,<-gm.o];rcases hx with h|h<;>rw[h]<;>decide
 have q45:((s[i].toNat:Int) == 45)=false:=by rw[beq_eq_false_iff_ne,<-gm.o];rcases hx with h|h<;>rw[h]<;>decide
 have ndg:aA (nx s.data.toList i)=false:=by rcases hx with h|h<;>rw[h]<;>decide
 have CD:Hd (∀w,Calls prog 122 #[.int .u8 (s[i].toNat:Int)] w fun e w'=>e=.returned (.bool false)/\w'=w):=fun w=>by
  have:=Af s[i] w;rw[<-gm.o,ndg]at this;rw[<-gm.o];exact this
 have vS:Hd (((s[i].toNat:Int) == 116)=true\/(((s[i].toNat:Int) == 116)=false/\((s[i].toNat:Int) == 102)=true)):=by
  show _\/_;rw[<-gm.o]
  rcases hx with h|h
  ·left;rw[h];rfl
  ·right;rw[h];exact⟨rfl,rfl⟩
 have CA:=ae (fun(q:Rs Nat) (t:Int) w (h:Dt w B P R s now d q ns own)=>vO B P R s now d q ns own up 5 t k [] p w h W hu (by omega));have CF:=ae (fun j w (h:Dt w B P R s now d (.ok j) ns own)=>zi B P R s now d ns own j w h 2 (by decide) i);have HST:Hd (∀k (hk:k<s.size),dH (s[k].toNat:Int)=true->toR dH s.data.toList k=toR dH s.data.toList (k+1)):=fun k hk hb=>qV dH _ k (by omega) (by rw[byte_at s k hk];exact hb)
 have kY:=ae (fun k (hk:k<s.size) (hb:dH (s[k].toNat:Int)=false)=>kX dH _ k (by rw[byte_at s k hk];exact hb));have qX:Hd (∀k,s.size<=k->toR dH s.data.toList k=k):=fun k hk=>Cb dH _ k (by omega)
 obtain⟨Q,hQ⟩:∃Q:Rs (Nat × List Tn),(zk (fun n=>addN ns up ⟨5,k,[],n,[],p⟩) (lQ s.data.toList i))=Q:=⟨_,rfl⟩;have HQ:Hd (zk (fun n=>addN ns up ⟨5,k,[],n,[],p⟩) (if aj s.data.toList i (toR dH s.data.toList i-i)=[116,114,117,101] then .ok (1,toR dH s.data.toList i) else if aj s.data.toList i (toR dH s.data.toList i-i)=[102,97,108,115,101] then .ok (0,toR dH s.data.toList i) else .error (2,i))=Q):=by
  show _=_;rw[<-GK];exact hQ
 rw[hQ];clear h hx hQ V W hk2 gm ndg;go_enter func83,ntmps83;go_wp2;go_quiet (fail);have aF:=HD.o.drew nq;have dG:=ae aF.1;have bi:=ae aF.2;obtain⟨wA,hwA⟩:=zN (w.drewN nq);rw[hwA]at dG bi ⊢;obtain⟨d0,d1,d5,-,-,-,-⟩:=dG.o.cells;clear hwA aF c0 c1 c5;go_wp2;go_quiet (fail);have aI:=dG.o.drew nq;have jX:=ae aI.1;have kT:=ae (bi.o.two aI.2);obtain⟨wB,hwB⟩:=zN (wA.drewN nq);rw[hwB]at jX kT ⊢;obtain⟨g0,g1,g5,-,-,-,-⟩:=jX.o.cells;clear hwB aI d0 d1 d5
 rcases vS.o with q116|⟨q116,q102⟩
 all_goals (
  go_wp2_with (go_at_call 122;refine(CD.o _).mono ?_;rintro e w' ⟨rfl,rfl⟩);go_loopw [] (fun wr=>∃j:Nat,Dt wr B P R s now d (.ok j) ns own/\i<=j/\toR dH s.data.toList j=toR dH s.data.toList i/\DFr B P w wr) (fun wr=>s.size-dI wr R)
  case atStart=>exact⟨i,jX.o,Nat.le_refl _,rfl,kT.o⟩
  case round =>
   obtain⟨j,hdj,hij,hto,hfj⟩:=hrel;obtain⟨e0,e1,e5,-,-,hj,ef⟩:=hdj.cells;have ef1:=ef 1;have Xd:=ae hdj;have Xe:=ae hfj;have mZ:=ae hto;have ig:Hd (dI wr R=j):=by show dI wr R=j;unfold dI;rw[e1];simp
   clear hdj hto hfj ef;have hcs:(∃hjl:j<s.size,97<=(s[j].toNat:Int)/\(s[j].toNat:Int)<=122)\/(toR dH s.data.toList i=j/\((∃hjl:j<s.size,decide ((j:Int)<(s.size:Int))=true/\decide (97<=(s[j].toNat:Int))=true/\decide ((s[j].toNat:Int)<=122)=false)\/(∃hjl:j<s.size,decide ((j:Int)<(s.size:Int))=true/\decide (97<=(s[j].toNat:Int))=false)\/(¬j<s.size/\decide ((j:Int)<(s.size:Int))=false))):=by
    by_cases hjl:j<s.size
    ·have hlt2:decide ((j:Int)<(s.size:Int))=true:=by simp;omega
     have Xf:dH (s[j].toNat:Int)=decide (97<=(s[j].toNat:Int)/\(s[j].toNat:Int)<=122):=rfl
     by_cases h97:97<=(s[j].toNat:Int)
     ·by_cases h122:(s[j].toNat:Int)<=122
      ·exact Or.inl ⟨hjl,h97,h122⟩
      ·exact Or.inr ⟨mZ.o.symm.trans (kY.o j hjl (by rw[Xf,decide_eq_false (fun h=>h122 h.2)])),Or.inl ⟨hjl,hlt2,by simpa using h97,by simpa using h122⟩⟩
     ·exact Or.inr ⟨mZ.o.symm.trans (kY.o j hjl (by rw[Xf,decide_eq_false (fun h=>h97 h.1)])),Or.inr (Or.inl ⟨hjl,hlt2,by simpa using h97⟩)⟩
    ·exact Or.inr ⟨mZ.o.symm.trans (qX.o j (by omega)),Or.inr (Or.inr ⟨hjl,by simp;omega⟩)⟩
   rcases hcs with⟨hjl,h97,h122⟩|⟨hJ,⟨hjl,hlt',g97,g122⟩|⟨hjl,hlt',g97⟩|⟨hjl,hge'⟩⟩
   ·have hlt':decide ((j:Int)<(s.size:Int))=true:=by simp;omega
    have g97:decide (97<=(s[j].toNat:Int))=true:=by simpa using h97
    have g122:decide ((s[j].toNat:Int)<=122)=true:=by simpa using h122
    have HN:=ae ((HST.o j hjl (show dH _=true from decide_eq_true ⟨h97,h122⟩)).symm.trans mZ.o);go_wp2;go_quiet (fail);have dL:=Xd.o.drew nq;have vT:=ae dL.1;have zl:=ae (Xe.o.two dL.2);obtain⟨wC,fU⟩:=zN (wr.drewN nq);rw[fU]at vT zl ⊢;obtain⟨k0,k1,k5,-,-,-,kf⟩:=vT.o.cells;have kf1:=kf 1;have jr:=vT.o.setI (j+1) (by omega);have fC:Hd (Dt (wC.setCell ⟨R,1,none⟩ (.int .i64 ((j:Int)+1))) B P R s now d (.ok (j+1)) ns own):=jr.1;have HS2:Hd (DFr B P w (wC.setCell ⟨R,1,none⟩ (.int .i64 ((j:Int)+1)))):=zl.o.two jr.2;clear fU dL kf jr;go_wp2;refine⟨⟨j+1,fC.o,by omega,HN.o,HS2.o⟩,?_⟩;have e9:dI (wC.setCell ⟨R,1,none⟩ (.int .i64 ((j:Int)+1))) R=j+1:=by
     unfold dI;rw[fC.o.cells.2.1];simp
    rw[ig.o,e9];omega
   all_goals (
    have HJ:=ae hJ;clear hJ;go_wp2;go_quiet (fail);have dL:=Xd.o.drew nq;have vT:=ae dL.1;have zl:=ae (Xe.o.two dL.2);obtain⟨wC,fU⟩:=zN (wr.drewN nq);rw[fU]at vT zl ⊢;obtain⟨k0,k1,k5,-,-,-,-⟩:=vT.o.cells;clear fU dL;have IZ:=HQ.o;rw[HJ.o]at IZ;obtain⟨X,hX⟩:=zN (aj s.data.toList i (j-i));have sl:∀wx,(Instr.slice 9 (.string s) (some (.int .i64 (i:Int))) (some (.int .i64 (j:Int))) none).run prog wx=.ok (.string ⟨X.toArray⟩) wx:=fun wx=>by
     rw[<-hX];exact lM s i j hij hj wx
    rw[hX]at IZ;have OB:=ae IZ;clear hX IZ
    by_cases hT:X=[116,114,117,101]
    ·have bT:(X == [116,114,117,101])=true:=by simpa using hT
     have jf:Hd (Q=.ok (j,addN ns up ⟨5,k,[],1,[],p⟩)):=by
      have:=OB.o;rw[if_pos hT]at this;exact this.symm
     clear hT;go_wp2;go_quiet (fail);have fK:=vT.o.drew nq;have xW:=ae fK.1;have dV:=ae (zl.o.two fK.2);obtain⟨wE,hwE⟩:=zN (wC.drewN nq);rw[hwE]at xW dV ⊢;clear hwE fK k0 k1 k5;go_wp2_with (go_at_call 29;refine(CA.o _ 1 _ xW.o).mono ?_;rintro e w3 ⟨rfl,hd3,hf3⟩);refine bodyPost_end (results_none rfl _ _ _) rfl ?_;rw[jf.o];exact⟨rfl,fun j ns' hh=>(by cases hh;exact hd3),fun c' hh=>(by cases hh),dV.o.two hf3⟩
    ·have bT:(X == [116,114,117,101])=false:=by simpa using hT
     by_cases hF:X=[102,97,108,115,101]
     ·have bF:(X == [102,97,108,115,101])=true:=by simpa using hF
      have bG:(X != [102,97,108,115,101])=false:=by simpa using hF
      have jf:Hd (Q=.ok (j,addN ns up ⟨5,k,[],0,[],p⟩)):=by
       have:=OB.o;rw[if_neg hT,if_pos hF]at this;exact this.symm
      clear hT hF;go_wp2;go_quiet (fail);have fK:=vT.o.drew nq;have xW:=ae fK.1;have dV:=ae (zl.o.two fK.2);obtain⟨wE,hwE⟩:=zN (wC.drewN nq);rw[hwE]at xW dV ⊢;clear hwE fK k0 k1 k5;go_wp2_with (go_at_call 29;refine(CA.o _ 0 _ xW.o).mono ?_;rintro e w3 ⟨rfl,hd3,hf3⟩);refine bodyPost_end (results_none rfl _ _ _) rfl ?_;rw[jf.o];exact⟨rfl,fun j ns' hh=>(by cases hh;exact hd3),fun c' hh=>(by cases hh),dV.o.two hf3⟩
     ·have bF:(X == [102,97,108,115,101])=false:=by simpa using hF
      have bG:(X != [102,97,108,115,101])=true:=by simpa using hF
      have jf:Hd (Q=.error (2,i)):=by
       have:=OB.o;rw[if_neg hT,if_neg hF]at this;exact this.symm
      clear hT hF;go_wp2;go_quiet (fail);have fK:=vT.o.drew nq;have xW:=ae fK.1;have dV:=ae (zl.o.two fK.2);obtain⟨wE,hwE⟩:=zN (wC.drewN nq);rw[hwE]at xW dV ⊢;clear hwE fK k0 k1 k5;go_wp2_with (first|(go_at_call 82;refine(CF.o j _ xW.o).mono ?_;rintro e w3 ⟨rfl,hd3,hf3⟩)|(go_at_call 29;refine(CA.o _ 0 _ hd3).mono ?_;rintro e w4 ⟨rfl,hd4,hf4⟩));refine bodyPost_end (results_none rfl _ _ _) rfl ?_;rw[jf.o];exact⟨rfl,fun j ns' hh=>(by cases hh),fun c' hh=>(by cases hh;exact hd4.fq),(dV.o.two hf3).two hf4⟩))
open Go.RowKit Go.Maps Go.WideMaps Go.Joins
theorem aeH(B P R:Nat)(s:ByteArray)(now de:Nat)(c:Int × Nat)(up:Nat)(k:List UInt8)(p:Nat)(w:World)(h:Fq w B P R s now de c)(hs:s.size<=100000) :
  Calls prog 83 #[.pointer (some ⟨R,0,none⟩),.int .i64 (up:Nat),.string ⟨k.toArray⟩,.int .i64 (p:Nat)] w fun e w'=>e=.returned (.tuple #[])/\Fq w' B P R s now de c/\DFr B P w w':=by
 obtain⟨L,O,⟨h1,j,h2,h3⟩,h4,h5,h6⟩:=h;have HD:=ae h3;obtain⟨c0,c1,-,-,-,c5,-,-,-⟩:=h3.cells;have hb:(c.1 == 0)=false:=by simpa using h1
 have hb2:(c.1 != 0)=true:=by simpa using h1
 have HC:=ae h1;have HB:=ae (Nat.le_of_lt (Nat.lt_of_le_of_lt h4 (aB h3)));have Xg:Hd (∀n,Fq (w.drewN n) B P R s now de c/\DFr B P w (w.drewN n)):=fun n=>by
  have g:=ay (au w none) n;exact⟨⟨L,O,⟨h1,j,h2,h3.grow g⟩,h4,h5,h6⟩,DFr.gb g HB.o h6⟩
 obtain⟨x,hx⟩:=zN (c.1);obtain⟨y,hy⟩:=zN (c.2);rw[hx]at HD c5 hb hb2 HC;rw[hy]at HD;clear h1 h3 hx hy
 by_cases hj:s.size<=j
 ·have hge:decide ((s.size:Int)<=(j:Int))=true:=by simp;omega
  have lU:(s.size:Int)<=(j:Int):=by omega
  have CF:=ae (fun w' (h:Dd w' R s L O now de j x y)=>Lj R s L O now de j x y 2 j w' h HC.o);go_enter func83,ntmps83;go_wp2;go_quiet (fail);go_wp2_with (go_at_call 82;refine(CF.o _ ?_).mono ?_;exact HD.o;rintro e w' ⟨rfl,rfl⟩);refine bodyPost_ret (results_none rfl _ _ _) rfl ?_;exact⟨rfl,Xg.o _⟩
 ·have hge:decide ((s.size:Int)<=(j:Int))=false:=by simp;omega
  have lU:¬(s.size:Int)<=(j:Int):=by omega
  go_enter func83,ntmps83;go_wp2;go_quiet (fail);go_wp2;refine bodyPost_ret (results_none rfl _ _ _) rfl ?_;exact⟨rfl,Xg.o _⟩
theorem aeI(f:Nat)(CL:IY f):OA (f+1):=fun B P R s own now i up k p d ns w h hs W V hu hk2 hd hsz hf=>by
 by_cases he:s.size<=i
 ·exact aeB f B P R s own now i up k p d ns w h hs W V hu hk2 hd hsz hf he
 ·by_cases h34:nx s.data.toList i=34
  ·exact aeD f B P R s own now i up k p d ns w h hs W V hu hk2 hd hsz hf h34
  ·by_cases hin:nx s.data.toList i=43\/nx s.data.toList i=45\/aA (nx s.data.toList i)=true
   ·exact aeF f B P R s own now i up k p d ns w h hs W V hu hk2 hd hsz hf hin
   ·by_cases htf:nx s.data.toList i=116\/nx s.data.toList i=102
    ·exact aeG f B P R s own now i up k p d ns w h hs W V hu hk2 hd hsz hf htf
    ·by_cases kE:nx s.data.toList i=91
     ·exact aeC f CL B P R s own now i up k p d ns w h hs W V hu hk2 hd hsz hf kE
     ·exact aeE f B P R s own now i up k p d ns w h hs W V hu hk2 hd hsz hf (by omega) h34 hin htf kE
open Go.RowKit Go.Maps Go.WideMaps Go.Joins
def lh(l:List UInt8)(f j up d:Nat)(ns:List Tn):Rs (Nat × List Tn) :=
 if nx l j=93 then .ok (j+1,ns)
 else match val l f j up [] j d ns with
  | .error e=>.error e
  | .ok (j1,ns1)=>match gap l (l.length+1) j1 with
   | .error e=>.error e
   | .ok j2=>if nx l j2=44 then lst l f (j2+1) up d ns1 else if nx l j2=93 then .ok (j2+1,ns1) else .error (2,j2)
theorem Xh(l:List UInt8)(f i up d:Nat)(ns:List Tn):lst l (f+1) i up d ns=(gap l (l.length+1) i).bind fun j=>lh l f j up d ns:=by
 rw[yV]
 cases gap l (l.length+1) i with
 | error e=>rfl
 | ok j=>rfl
def lb(l:List UInt8)(f up d:Nat)(ns:List Tn)(q:Rs Nat):Rs (Nat × List Tn):=q.bind fun j2=>if nx l j2=44 then lst l f (j2+1) up d ns else if nx l j2=93 then .ok (j2+1,ns) else .error (2,j2)
theorem aeJ(l:List UInt8)(f j up d:Nat)(ns:List Tn)(h:¬nx l j=93):lh l f j up d ns=match val l f j up [] j d ns with | .error e=>.error e | .ok (j1,ns1)=>lb l f up d ns1 (gap l (l.length+1) j1):=by
 unfold lh lb;rw[if_neg h]
 cases val l f j up [] j d ns with
 | error e=>rfl
 | ok q =>
  obtain⟨j1,ns1⟩:=q;simp only[]
  cases gap l (l.length+1) j1<;>rfl
def lv(l:List UInt8)(f up d:Nat):Rs (Nat × List Tn)->Rs (Nat × List Tn)
 | .error e=>.error e
 | .ok (j1,ns1)=>lb l f up d ns1 (gap l (l.length+1) j1)
theorem aeK(l:List UInt8)(f j up d:Nat)(ns:List Tn)(h:¬nx l j=93):lh l f j up d ns=lv l f up d (val l f j up [] j d ns):=by
 rw[aeJ l f j up d ns h]
 cases val l f j up [] j d ns<;>rfl
theorem aeL(l:List UInt8)(f up d:Nat)(ns:List Tn)(j:Nat)(h:nx l j=93):lb l f up d ns (.ok j)=.ok (j+1,ns):=by
 show(if _ then _ else _)=_;rw[if_neg (by rw[h];decide),if_pos h]
theorem aeM(l:List UInt8)(f up d:Nat)(ns:List Tn)(j:Nat)(h:¬nx l j=93)(h2:¬nx l j=44):lb l f up d ns (.ok j)=.error (2,j):=by
 show(if _ then _ else _)=_;rw[if_neg h2,if_neg h]
theorem aeN(l:List UInt8)(f up d:Nat)(ns:List Tn)(j:Nat)(h2:nx l j=44):lb l (f+1) up d ns (.ok j)=(gap l (l.length+1) (j+1)).bind fun j=>lh l f j up d ns:=by
 show(if _ then _ else _)=_;rw[if_pos h2,Xh]
theorem aeO(l:List UInt8)(own:List Nat)(f i up d:Nat)(k:List UInt8)(p:Nat)(ns:List Tn)(j:Nat)(ns':List Tn)(hi:i<=l.length)(W:WF ns own)(V:WT ns)(hu:up<ns.length)(h2:¬ak ns up=2)(h:val l f i up k p d ns=.ok (j,ns')):Ad ns ns' own i j l.length:=(Ic l own f).1 i up k p d ns j ns' hi W V hu h2 h
theorem aeP(l:List UInt8)(f up d:Nat)(ns:List Tn)(q:Rs Nat)(G:Rs (Nat × List Tn))(hG:lb l f up d ns q=G)(h:iU l q 93=true):∃j,q=.ok j/\lh l f j up d ns=G:=by
 match q,hG,h with
 | .error e,_,h=>cases h
 | .ok j,hG,h =>
  have hx:=of_decide_eq_true h;refine⟨j,rfl,?_⟩;rw[<-hG,aeL l f up d ns j hx];unfold lh;rw[if_pos hx]
theorem aeQ(l:List UInt8)(f up d:Nat)(ns:List Tn)(q:Rs Nat)(G:Rs (Nat × List Tn))(hG:lb l (f+1) up d ns q=G)(h:iU l q 93=false)(hq:∀j,q=.ok j->j<=l.length):(∀j4,((q.bind fun i=>must l i 44).bind (gap l (l.length+1)))=.ok j4->lh l f j4 up d ns=G/\j4<=l.length/\∃j,q=.ok j/\j+1<=j4)/\(∀c,((q.bind fun i=>must l i 44).bind (gap l (l.length+1)))=.error c->G=.error c):=by
 match q,hG,h,hq with
 | .error e,hG,_,_=>exact⟨fun j4 hh=>(by cases hh),fun c hh=>(by have hh:(Except.error e:Rs Nat)=.error c:=hh;injection hh with hh;subst hh;exact hG.symm)⟩
 | .ok j,hG,h,hq =>
  have hx:=of_decide_eq_false h
  by_cases h44:nx l j=44
  ·rw[aeN l f up d ns j h44]at hG;have hlt:=aY (l:=l) (i:=j) (by omega);have e:((Except.bind (.ok j) fun i=>must l i 44:Rs Nat).bind (gap l (l.length+1)))=gap l (l.length+1) (j+1):=by
    show(Except.bind (must l j 44) _)=_;unfold must;rw[if_pos h44];rfl
   rw[e];refine⟨fun j4 hh=>?_,fun c hh=>?_⟩
   ·rw[hh]at hG;have:=xy l _ (j+1) j4 (by omega) hh;exact⟨hG,this.2,j,rfl,this.1⟩
   ·rw[hh]at hG;exact hG.symm
  ·have e:((Except.bind (.ok j) fun i=>must l i 44:Rs Nat).bind (gap l (l.length+1)))=.error (2,j):=by
    show(Except.bind (must l j 44) _)=_;unfold must;rw[if_neg h44];rfl
   rw[e];rw[aeM l (f+1) up d ns j hx h44]at hG;exact⟨fun j4 hh=>(by cases hh),fun c hh=>(by injection hh with hh;subst hh;exact hG.symm)⟩
structure Ls(w:World)(B P R:Nat)(s:ByteArray)(now de:Nat)(q:Rs Nat)(ns:List Tn)(own:List Nat)(f up:Nat)(G:Rs (Nat × List Tn)):Prop where
 dq:Dq w B P R s now de q ns own
 ok:∀j,q=.ok j->lh s.data.toList f j up de ns=G/\WF ns own/\WT ns/\up<ns.length/\¬ak ns up=2/\ns.length+(s.size-j)<=700000/\2*(s.size-j)+1<=f/\j<=s.size
 er:∀c,q=.error c->G=.error c
theorem EC{w:World}{B P R:Nat}{s:ByteArray}{now de j:Nat}{ns:List Tn}{own:List Nat}(h:Dt w B P R s now de (.ok j) ns own):dM w R s=s.size-j+1:=by
 obtain⟨h1,h2,N,c,O,oc,xs,ks,h3,h4,h5,h6⟩:=h;exact uU h6.2
theorem OC{w:World}{B P R:Nat}{s:ByteArray}{now de:Nat}{c:Int × Nat}(h:Fq w B P R s now de c):dM w R s=0:=by
 obtain⟨L,O,⟨h1,j,h2,h3⟩,-⟩:=h;exact GM h3 h1
theorem Dq.setD{w:World}{B P R:Nat}{s:ByteArray}{now de:Nat}{q:Rs Nat}{ns:List Tn}{own:List Nat}(h:Dq w B P R s now de q ns own)(m:Nat):Dq (w.setCell ⟨R,7,none⟩ (.int .i64 (m:Nat))) B P R s now m q ns own/\DFr B P w (w.setCell ⟨R,7,none⟩ (.int .i64 (m:Nat))):=by
 match q,h with
 | .error e,⟨L,O,h1,h2,h3,h4⟩=>exact⟨⟨L,O,h1.setD m,h2,h3,by simpa [World.setCell] using h4⟩,rZ h1 h2 h3 h4 (aS (au w (some R)) 7 _)⟩
 | .ok i,h =>
  obtain⟨h1,h2,N,c,O,oc,xs,ks,h3,h4,h5,h6⟩:=h;exact⟨⟨h1,h2,N,c,O,oc,xs,ks,h3,h4,h5.keepR h6.2 (aS (au w (some R)) 7 _),h6.setD m⟩,rZ h6 h1 h2 h5.hP (aS (au w (some R)) 7 _)⟩
def okB:Rs Nat->Bool
 | .ok _=>true
 | .error _=>false
theorem Dq.cells{w:World}{B P R:Nat}{s:ByteArray}{now de:Nat}{q:Rs Nat}{ns:List Tn}{own:List Nat}(h:Dq w B P R s now de q ns own):w.cell? ⟨R,7,none⟩=some (.int .i64 (de:Nat))/\w.frozen? ⟨R,7,none⟩=false/\∃er:Int,w.cell? ⟨R,5,none⟩=some (.int .i64 er)/\(er == 0)=okB q:=by
 match q,h with
 | .error e,⟨L,O,⟨h1,j,h2,h3⟩,_⟩ =>
  obtain⟨c0,c1,c2,c3,c4,c5,c6,c7,cf⟩:=h3.cells;exact⟨c7,cf 7,e.1,c5,by show _=false;simpa using h1⟩
 | .ok i,h =>
  obtain⟨h1,h2,N,c,O,oc,xs,ks,h3,h4,h5,h6⟩:=h;obtain⟨c0,c1,c2,c3,c4,c5,c6,c7,cf⟩:=h6.2.cells;exact⟨c7,cf 7,0,c5,rfl⟩
theorem aeR(F:Nat)(CV:∀f,f<F->OA f):IY F:=fun B P R s own now i up k p d ns w h hs hx W V hu hk2 hd hsz hf=>by
 have hl:s.data.toList.length=s.size:=by simp
 obtain⟨c0,c1,c5,c7,-,hi,cf⟩:=h.cells;have cf7:=cf 7;have hlt:i<s.size:=by have:=aY (l:=s.data.toList) (i:=i) (by omega);omega
 have HD:=ae h
 by_cases h8:d=8
 ·rw[if_pos h8];have h8I:(8:Int)<=(d:Int):=by omega
  have CF:=ae (zi B P R s now d ns own i w h 4 (by decide) i);clear h h8 W V hk2 hx CV cf;go_enter func121,ntmps121;go_wp2_with (go_at_call 82;refine CF.o.mono ?_;rintro e w2 ⟨rfl,hd2,hf2⟩);refine bodyPost_ret (results_none rfl _ _ _) rfl ?_;exact⟨rfl,fun j ns' hh=>(by cases hh),fun c hh=>(by cases hh;exact hd2.fq),hf2⟩
 ·rw[if_neg h8];have h8I:(d:Int)<8:=by omega
  obtain⟨f,rfl⟩:∃f,F=f+1:=⟨F-1,by omega⟩;have A:=Az (i:=i) (j:=i+1) (n:=s.data.toList.length) (x:=⟨1,k,[],0,[],p⟩) W V hu hk2 rfl (fun e=>absurd (show(1:Int)=2 from e) (by decide)) (by omega) (by omega);have hkd:¬ak (addN ns up ⟨1,k,[],0,[],p⟩) ns.length=2:=by rw[fF ns up _ hu,if_pos rfl];exact fun e=>absurd (show(1:Int)=2 from e) (by decide)
  have hln:(addN ns up ⟨1,k,[],0,[],p⟩).length=ns.length+1:=bY _ _ _;obtain⟨M,hM⟩:=zN (addN ns up ⟨1,k,[],0,[],p⟩);obtain⟨u,hu'⟩:=zN ns.length;have CA:Hd (∀w,Dt w B P R s now (d+1) (.ok (i+1)) ns own->Calls prog 29 #[.pointer (some ⟨R,0,none⟩),.int .i64 (up:Nat),.agg #[.int .i64 1,.string ⟨k.toArray⟩,.string ⟨#[]⟩,.int .i64 0,.slice none 0 0,.int .i64 (p:Nat)]] w fun e w'=>e=.returned (.int .i64 (u:Nat))/\Dt w' B P R s now (d+1) (.ok (i+1)) M own/\DFr B P w w'):=fun w h=>by
   rw[<-hM,<-hu'];exact vO B P R s now (d+1) (.ok (i+1)) ns own up 1 0 k [] p w h W hu (by omega)
  rw[hM]at A hkd hln ⊢;have uh:Hd (WF M own/\WT M):=⟨A.wf,A.wt⟩;rw[Xh,hu'];rw[hu']at hkd hln;obtain⟨G,hG⟩:=zN (((gap s.data.toList (s.data.toList.length+1) (i+1)).bind fun j=>lh s.data.toList f j u (d+1) M));have jl:=ae hG;rw[hG];have Xi:Hd (∀i j,i<=s.size->gap s.data.toList (s.data.toList.length+1) i=.ok j->i<=j/\j<=s.size):=fun i j hi h=>by have:=xy s.data.toList _ i j (by omega) h;omega
  have pz:Hd (must s.data.toList i 91=.ok (i+1)):=by show _=_;unfold must;rw[if_pos hx]
  have CM:=ae (fun c (hc:0<=c) (q:Rs Nat) (N:List Tn) w (h:Dq w B P R s now (d+1) q N own)=>Oz B P R s now (d+1) N own q w h hs c hc);have Xj:Hd (∀w,Dq w B P R s now (d+1) (.ok i) ns own->Calls prog 56 #[.pointer (some ⟨R,0,none⟩),.int .u8 91] w fun e w'=>e=.returned (.tuple #[])/\Dq w' B P R s now (d+1) (.ok (i+1)) ns own/\DFr B P w w'):=fun w h=>by
   have:=CM.o 91 (by decide) (.ok i) ns w h;rw[show(Except.bind (.ok i) fun i=>must s.data.toList i 91:Rs Nat)=must s.data.toList i 91 from rfl,pz.o]at this;exact this
  have Bc:=ae (fun(q:Rs Nat) (N:List Tn) w (h:Dq w B P R s now (d+1) q N own)=>aet B P R s now (d+1) N own q w h hs);have CI:=ae (fun(q:Rs Nat) (N:List Tn) w (h:Dq w B P R s now (d+1) q N own)=>Xc B P R s now (d+1) N own q w h hs 93 (by decide));have Xk:Hd (∀f',f'<f+1->∀(j:Nat) (N:List Tn) w,Dt w B P R s now (d+1) (.ok j) N own->WF N own->WT N->u<N.length->¬ak N u=2->N.length+(s.size-j)<=700000->2*(s.size-j)+1<=f'->Calls prog 83 #[.pointer (some ⟨R,0,none⟩),.int .i64 (u:Nat),.string ⟨#[]⟩,.int .i64 (j:Nat)] w (uu B P R s now (d+1) own (val s.data.toList f' j u [] j (d+1) N) w)):=fun f' hf' j N w h a b c e g i=>CV f' hf' B P R s own now j u [] j (d+1) N w h hs a b c e (by omega) g i
  have HAD:Hd (∀f' j N j1 N1,j<=s.size->WF N own->WT N->u<N.length->¬ak N u=2->val s.data.toList f' j u [] j (d+1) N=.ok (j1,N1)->Ad N N1 own j j1 s.size):=fun f' j N j1 N1 a b c e g h=>by have:=aeO s.data.toList own f' j u (d+1) [] j N j1 N1 (by omega) b c e g h;rw[hl]at this;exact this
  have hS:=Dq.setD (q:=.ok i) h (d+1);have fC:Hd (Dq (w.setCell ⟨R,7,none⟩ (.int .i64 ((d:Int)+1))) B P R s now (d+1) (.ok i) ns own):=hS.1;have jF:Hd (DFr B P w (w.setCell ⟨R,7,none⟩ (.int .i64 ((d:Int)+1)))):=hS.2;have hfu:u<M.length:=by omega
  have aeS:M.length+(s.size-(i+1))<=700000:=by omega
  clear h hG hM A hS V W hk2 hx CV hu' cf;go_enter func121,ntmps121;go_wp2_with (first|(go_at_call 56;refine(Xj.o _ fC.o).mono ?_;rintro e w2 ⟨rfl,hd2,hf2⟩)|(go_at_call 29;refine(CA.o _ hd2).mono ?_;rintro e w3 ⟨rfl,hd3,hf3⟩)|(go_at_call 162;refine(Bc.o (.ok (i+1)) M _ hd3).mono ?_));rintro e w4 ⟨rfl,hd4,hf4⟩;have ED:=ae (((jF.o.two hf2).two hf3).two hf4);have AP:Hd (Ls w4 B P R s now (d+1) ((Except.ok (i+1)).bind (gap s.data.toList (s.data.toList.length+1))) M own f u G):=by
   refine⟨hd4,fun j hj=>?_,fun c hc=>?_⟩
   ·have hj':gap s.data.toList (s.data.toList.length+1) (i+1)=.ok j:=hj;have h0:=jl.o;rw[hj']at h0;have h1:=Xi.o (i+1) j (by omega) hj';exact⟨h0,uh.o.1,uh.o.2,hfu,hkd,by omega,by omega,h1.2⟩
   ·have hj':gap s.data.toList (s.data.toList.length+1) (i+1)=.error c:=hc;have h0:=jl.o;rw[hj']at h0;exact h0.symm
  obtain⟨m,hm⟩:=zN (d+1);have hmd:(m:Int)<=8:=by omega
  have hm1:(1:Int)<=(m:Int):=by omega
  have Xl:=ae hm;rw[hm]at AP CM Bc CI Xk HAD;clear hd2 hd3 hd4 hf2 hf3 hf4 hm fC jF CA Xj jl hkd hln uh pz Xi HD hfu aeS;go_wp2;go_loopw [] (fun wr=>∃(q:Rs Nat) (N:List Tn) (f':Nat),f'<f+1/\Ls wr B P R s now m q N own f' u G/\DFr B P w wr) (fun wr=>dM wr R s)
  case atStart=>exact⟨_,_,f,by omega,AP.o,ED.o⟩
  case round =>
   obtain⟨q,N,f',hf',hls,hfr⟩:=hrel;have EF:=ae hfr;have zn:=ae hls.dq;have zo:=ae hls.ok;have jw:Hd (∀c,q=.error c->G=.error c):=hls.er;obtain⟨-,-,er,c5',hz⟩:=hls.dq.cells;have HZ:=ae hz;clear hls hfr hz
   match q,zn,zo,jw,HZ with
   | .error c,zn,_,jw,HZ =>
    have aC:=ae (jw.o c rfl);have hz':(er == 0)=false:=HZ.o;go_wp2_with (go_at_call 56;refine(CM.o 93 (by decide) (.error c) N _ zn.o).mono ?_;rintro e w5 ⟨rfl,hd5,hf5⟩;obtain⟨k7,kf7,-⟩:=hd5.cells);have hS:=hd5.setD d;have ecast:(.int .i64 ((m:Int)-1):Value)=.int .i64 (d:Nat):=by have:=Xl.o;congr 1;omega
    refine bodyPost_end (results_none rfl _ _ _) rfl ?_;rw[ecast,aC.o];exact⟨rfl,fun j ns' hh=>(by cases hh),fun c' hh=>(by injection hh with hh;subst hh;exact hS.1),(EF.o.two hf5).two hS.2⟩
   | .ok j,zn,zo,_,HZ =>
    have hz':(er == 0)=true:=HZ.o;obtain⟨a1,a2,a3,a4,a5,a6,a7,a8⟩:=zo.o j rfl;have HA1:=ae a1;have xC:=ae (EC zn.o);have I4:=ae (fun j1 N1 (h:val s.data.toList f' j u [] j m N=.ok (j1,N1))=>HAD.o f' j N j1 N1 a8 a2 a3 a4 a5 h);have zV:=ae (fun w (h:Dt w B P R s now m (.ok j) N own)=>Xk.o f' hf' j N w h a2 a3 a4 a5 a6 a7);have jL:Hd (∀w,Dq w B P R s now m (.ok j) N own->Calls prog 52 #[.pointer (some ⟨R,0,none⟩),.int .u8 93] w fun e w'=>e=.returned (.bool (decide (nx s.data.toList j=93)))/\Dq w' B P R s now m (.ok j) N own/\DFr B P w w'):=fun w h=>CI.o (.ok j) N w h
    have EG:Hd (¬ak N u=2/\u<N.length):=⟨a5,a4⟩;clear a1 a2 a3 a5
    by_cases h93:nx s.data.toList j=93
    ·rw[decide_eq_true h93]at jL;have aC:Hd (G=.ok (j+1,N)):=by
      show G=_;rw[<-HA1.o];unfold lh;rw[if_pos h93]
     have pz:Hd ((Except.bind (.ok j) fun i=>must s.data.toList i 93:Rs Nat)=.ok (j+1)):=by
      show must s.data.toList j 93=_;unfold must;rw[if_pos h93]
     clear h93;go_wp2_with (first|(go_at_call 52;refine(jL.o _ zn.o).mono ?_;rintro e w5 ⟨rfl,hd5,hf5⟩)|(go_at_call 56;refine(CM.o 93 (by decide) (.ok j) N _ hd5).mono ?_;rintro e w6 ⟨rfl,hd6,su⟩;obtain⟨k7,kf7,-⟩:=hd6.cells));rw[pz.o]at hd6;have hS:=hd6.setD d;have ecast:(.int .i64 ((m:Int)-1):Value)=.int .i64 (d:Nat):=by have:=Xl.o;congr 1;omega
     refine bodyPost_end (results_none rfl _ _ _) rfl ?_;rw[ecast,aC.o];exact⟨rfl,fun j ns' hh=>(by cases hh;exact hS.1),fun c' hh=>(by cases hh),((EF.o.two hf5).two su).two hS.2⟩
    ·rw[decide_eq_false h93]at jL;have Be:=ae ((aeK s.data.toList f' j u m N h93).symm.trans HA1.o);obtain⟨V,hV⟩:=zN (val s.data.toList f' j u [] j m N);rw[hV]at zV Be I4;clear hV h93;go_wp2_with (first|(go_at_call 52;refine(jL.o _ zn.o).mono ?_;rintro e w5 ⟨rfl,hd5,hf5⟩;obtain⟨-,g1,-,-,-,-,-⟩:=Dt.cells hd5)|(go_at_call 83;refine(zV.o _ hd5).mono ?_));rintro e w6 ⟨rfl,h1,h2,su⟩;have HF6:=ae ((EF.o.two hf5).two su);clear hd5 hf5 su g1
     match V,h1,h2,Be,I4 with
     | .error c,_,h2,Be,_ =>
      have HD6:Hd (Dq w6 B P R s now m (.error c) N own):=h2 c rfl;have aC:Hd (G=.error c):=Be.o.symm;clear h1 h2;go_wp2_with (go_at_call 162;refine(Bc.o (.error c) N _ HD6.o).mono ?_);rintro e w7 ⟨rfl,hd7,jY⟩;have HD7:Hd (Dq w7 B P R s now m (.error c) N own):=hd7;have qI:=ae (HF6.o.two jY);clear hd7 jY;have zq:Hd (∀w,Dq w B P R s now m (.error c) N own->Calls prog 52 #[.pointer (some ⟨R,0,none⟩),.int .u8 93] w fun e w'=>e=.returned (.bool false)/\Dq w' B P R s now m (.error c) N own/\DFr B P w w'):=fun w h=>CI.o (.error c) N w h
      go_wp2_with (first|(go_at_call 52;refine(zq.o _ HD7.o).mono ?_;rintro e w8 ⟨rfl,hd8,vU⟩)|(go_at_call 56;refine(CM.o 44 (by decide) (.error c) N _ hd8).mono ?_;rintro e w9 ⟨rfl,hd9,OD⟩)|(go_at_call 162;refine(Bc.o (.error c) N _ hd9).mono ?_;rintro e w10 ⟨rfl,hd10,OE⟩));refine⟨⟨.error c,N,f',hf',⟨hd10,fun j hj=>(by cases hj),fun c' hc=>(by injection hc with hc;subst hc;exact aC.o)⟩,((qI.o.two vU).two OD).two OE⟩,?_⟩;rw[xC.o,OC hd10];omega
     | .ok (j1,N1),h1,_,Be,I4 =>
      have HD6:Hd (Dq w6 B P R s now m (.ok j1) N1 own):=h1 j1 N1 rfl;have AD:=I4.o j1 N1 rfl;have xX:=ae AD;obtain⟨g,rfl⟩:∃g,f'=g+1:=⟨f'-1,by omega⟩;have Xm:Hd (lb s.data.toList (g+1) u m N1 (gap s.data.toList (s.data.toList.length+1) j1)=G):=Be.o;have oG:Hd (∀j2,gap s.data.toList (s.data.toList.length+1) j1=.ok j2->j1<=j2/\j2<=s.size):=fun j2 hh=>by
       have e1:=AD.en;have:=xy s.data.toList _ j1 j2 (by omega) hh;omega
      have Ar:Hd (¬ak N1 u=2/\u<N1.length):=⟨by rw[AD.kd u EG.o.2];exact EG.o.1,by have:=AD.lo;have:=EG.o.2;omega⟩;clear h1 AD;go_wp2_with (go_at_call 162;refine(Bc.o (.ok j1) N1 _ HD6.o).mono ?_);rintro e w7 ⟨rfl,hd7,jY⟩;have HD7:Hd (Dq w7 B P R s now m (gap s.data.toList (s.data.toList.length+1) j1) N1 own):=hd7;have qI:=ae (HF6.o.two jY);clear hd7 jY;have hs1:=aeP s.data.toList (g+1) u m N1 _ G Xm.o;have hs2:=aeQ s.data.toList g u m N1 _ G Xm.o;obtain⟨q2,hq2⟩:=zN (gap s.data.toList (s.data.toList.length+1) j1);rw[hq2]at HD7 oG hs1 hs2;have zq:=ae (fun w (h:Dq w B P R s now m q2 N1 own)=>CI.o q2 N1 w h);obtain⟨b,hb⟩:=zN (iU s.data.toList q2 93);rw[hb]at zq
      cases b with
      | true =>
       obtain⟨j2,hj2,hlh⟩:=hs1 hb;subst hj2;have HJ2:=oG.o j2 rfl;have HLH:=ae hlh;have ajB:=HJ2.1;have aeT:=HJ2.2;clear hs1 hs2 hb hlh hq2 HJ2;go_wp2_with (go_at_call 52;refine(zq.o _ HD7.o).mono ?_;rintro e w8 ⟨rfl,hd8,vU⟩);have e1:=xX.o.hi;have e2:=xX.o.fw;refine⟨⟨.ok j2,N1,g+1,hf',⟨hd8,fun j hj=>(by cases hj;exact⟨HLH.o,xX.o.wf,xX.o.wt,Ar.o.2,Ar.o.1,by omega,by omega,aeT⟩),fun c' hc=>(by cases hc)⟩,qI.o.two vU⟩,?_⟩;rw[xC.o,EC hd8];omega
      | false =>
       obtain⟨hn1,hn2⟩:=hs2 hb (fun j hj=>by have:=(oG.o j hj).2;omega);have kR:=ae hn1;have tV:Hd (∀c,((q2.bind fun i=>must s.data.toList i 44).bind (gap s.data.toList (s.data.toList.length+1)))=.error c->G=.error c):=hn2;clear hs1 hs2 hb hn1 hn2 hq2;go_wp2_with (first|(go_at_call 52;refine(zq.o _ HD7.o).mono ?_;rintro e w8 ⟨rfl,hd8,vU⟩)|(go_at_call 56;refine(CM.o 44 (by decide) q2 N1 _ hd8).mono ?_;rintro e w9 ⟨rfl,hd9,OD⟩)|(go_at_call 162;refine(Bc.o _ N1 _ hd9).mono ?_;rintro e w10 ⟨rfl,hd10,OE⟩));have e1:=xX.o.hi;have e2:=xX.o.fw;refine⟨⟨_,N1,g,by omega,⟨hd10,fun j4 hj=>?_,fun c' hc=>tV.o c' hc⟩,((qI.o.two vU).two OD).two OE⟩,?_⟩
       ·obtain⟨x1,x2,j2,x3,x4⟩:=kR.o j4 hj;have x5:=oG.o j2 x3;exact⟨x1,xX.o.wf,xX.o.wt,Ar.o.2,Ar.o.1,by omega,by omega,by omega⟩
       ·rw[xC.o];obtain⟨q4,hq4⟩:=zN (((q2.bind fun i=>must s.data.toList i 44).bind (gap s.data.toList (s.data.toList.length+1))));rw[hq4]at hd10
        match q4,hq4,hd10 with
        | .error c,_,hd10=>rw[OC hd10];omega
        | .ok j4,hq4,hd10 =>
         obtain⟨x1,x2,j2,x3,x4⟩:=kR.o j4 hq4;have x5:=oG.o j2 x3;rw[EC hd10];omega
theorem aeU:∀f,OA f/\IY f:=by
 intro f
 induction f using Nat.strongRecOn with
 | ind f ih =>
  have hl:=aeR f fun g hg=>(ih g hg).1
  refine⟨?_,hl⟩
  cases f with
  | zero=>exact fun B P R s own now i up k p d ns w h hs W V hu hk2 hd hsz hf=>absurd hf (by omega)
  | succ f=>exact aeI f (ih f (by omega)).2
open Go.RowKit Go.Maps Go.WideMaps Go.Joins
def I5(B P R:Nat)(s:ByteArray)(now de:Nat)(q:Rs Nat)(ns:List Tn)(own:List Nat)(g:Rs (Nat × List Tn))(w:World)(e:Ending)(w':World):Prop:=(∀n ns',g=.ok (n,ns')->e=.returned (.int .i64 (n:Nat))/\Dt w' B P R s now de q ns' own)/\(∀c,g=.error c->e=.returned (.int .i64 (-1))/\∃ns',Dt w' B P R s now de q ns' own)/\DFr B P w w'
theorem Dt.same{w:World}{B P R:Nat}{s:ByteArray}{now de:Nat}{q:Rs Nat}{ns:List Tn}{own:List Nat}(h:Dt w B P R s now de q ns own):DFr B P w w:=DFr.refl w
theorem I7{ns:List Tn}{t:Nat}{k:List UInt8}(h:ah ns t k=none):gI ns t k=-1:=by unfold gI;rw[h]
theorem I8{ns:List Tn}{t q:Nat}{k:List UInt8}(h:ah ns t k=some q):gI ns t k=(q:Int):=by unfold gI;rw[h]
theorem aeV(B P R:Nat)(s:ByteArray)(now de j:Nat)(ns:List Tn)(own:List Nat)(t:Nat)(k:List UInt8)(p:Nat)(w:World)(h:Dt w B P R s now de (.ok j) ns own)(W:WF ns own)(V:WT ns)(ht:t<ns.length)(hsz:ns.length<=1000000) :
  Calls prog 80 #[.pointer (some ⟨R,0,none⟩),.int .i64 (t:Nat),.string ⟨k.toArray⟩,.int .i64 (p:Nat)] w (I5 B P R s now de (.ok j) ns own (gz ns t k p) w):=by
 have HD:=ae h;have CA:=ae (vO B P R s now de (.ok j) ns own t 0 0 k [] p w h W ht hsz);obtain⟨h1,h2,N,c,O,oc,xs,ks,h3,h4,h5,h6⟩:=h;obtain⟨-,-,c2,-,-,-,-,-,-⟩:=h6.2.cells;have CK:=ae (IE w B P ns _ own N c _ xs ks t k h5 W ht hsz);obtain⟨L,hL⟩:=zN (ns.length);have HL:=ae hL
 cases hk:ah ns t k with
 | none =>
  rw[I7 hk]at CK;have HST:Hd (gz ns t k p=.ok (ns.length,addN ns t ⟨0,k,[],0,[],p⟩)):=by show _=_;unfold gz;rw[hk]
  rw[HST.o];rw[hL]at c2 CK;clear h1 h2 h3 h4 h5 h6 W V hk hL;go_enter func80,ntmps80;go_wp2_with (first|(go_at_call 14;refine CK.o.mono ?_;rintro e w' ⟨rfl,rfl⟩)|(go_at_call 29;refine CA.o.mono ?_;rintro e w2 ⟨rfl,hd2,hf2⟩));refine bodyPost_ret (results_tmp (t:=8) rfl _ _ _) rfl ?_;exact⟨fun n ns' hh=>(by cases hh;exact⟨rfl,hd2⟩),fun c hh=>(by cases hh),hf2⟩
 | some q =>
  rw[I8 hk]at CK;obtain⟨hm,-⟩:=rq hk;have hq:=W.lt t q hm;obtain⟨n0,-,-,-,n4,-,-⟩:=h5.node q hq;have hkd:ak ns q=ns[q].kd:=by unfold ak;rw[List.getElem?_eq_getElem hq]
  have Xn:¬(q:Int)<0:=by omega
  have HST:Hd (gz ns t k p=if ns[q].kd=0 then .ok (q,ns) else if ns[q].kd=2 then .ok (ns[q].ks.getLastD 0,ns) else .error (5,p)):=by
   show _=_;unfold gz;rw[hk];simp only[hkd,List.getElem?_eq_getElem hq]
  have dO:q<L:=by omega
  have hL1:L<=1000000:=by omega
  by_cases hz:ns[q].kd=0
  ·rw[HST.o,if_pos hz];rw[hz]at n0;rw[hL]at c2 CK;clear h1 h2 h3 h4 h5 h6 W V hk hm hkd HST hz n4 CA hL;go_enter func80,ntmps80;go_wp2_with (go_at_call 14;refine CK.o.mono ?_;rintro e w' ⟨rfl,rfl⟩);refine bodyPost_ret (results_tmp (t:=8) rfl _ _ _) rfl ?_;exact⟨fun n ns' hh=>(by cases hh;exact⟨rfl,HD.o⟩),fun c hh=>(by cases hh),DFr.refl _⟩
  ·have hbz:(ns[q].kd == 0)=false:=by simpa using hz
   by_cases hz2:ns[q].kd=2
   ·rw[HST.o,if_neg hz,if_pos hz2];have hne:ns[q].ks≠[]:=by
     have:=(V q (by rw[hkd];exact hz2)).1;unfold af at this;rw[List.getElem?_eq_getElem hq]at this;exact this
    have hrow:=h5.kid q hq;obtain⟨o,cp,hv⟩:=mG hrow;rw[hv]at n4 hrow;have hlen:ns[q].ks.length<=1000000:=by have:=W.len q;unfold af at this;rw[List.getElem?_eq_getElem hq]at this;simp only[]at this;omega
    have hpos:=List.length_pos_iff.2 hne;obtain⟨g,cap,hvf,-,-⟩:=hrow.form hpos;injection hvf with ho _ hcc
    subst ho;have hlast:ns[q].ks[ns[q].ks.length-1]?=some (ns[q].ks.getLastD 0):=by
     rw[<-List.getLast?_eq_getElem?];rw[List.getLast?_eq_some_getLast hne,List.getLastD_eq_getLast?,List.getLast?_eq_some_getLast hne];rfl
    have cg:=hrow.cells (g:=g) rfl (ns[q].ks.length-1) (.int .i64 (ns[q].ks.getLastD 0:Nat)) (by rw[List.getElem?_map,hlast];rfl);rw[nC]at cg;obtain⟨M,hM⟩:=zN (ns[q].ks.length);obtain⟨y,hy⟩:=zN (ns[q].ks.getLastD 0);obtain⟨m,hm'⟩:∃m,M=m+1:=⟨M-1,by omega⟩;rw[hM,hm']at n4 cg;rw[hy]at cg ⊢;rw[Nat.add_sub_cancel]at cg;rw[hz2]at n0;rw[hL]at c2 CK;have hml:m<=1000000:=by omega
    clear h1 h2 h3 h4 h5 h6 W V hk hm hkd HST hz hz2 CA hne hrow hv hlen hpos hcc hlast hM hy hm' hbz hL;go_enter func80,ntmps80;go_wp2_with (go_at_call 14;refine CK.o.mono ?_;rintro e w' ⟨rfl,rfl⟩);refine bodyPost_ret (results_tmp (t:=8) rfl _ _ _) rfl ?_;exact⟨fun n ns' hh=>(by cases hh;exact⟨rfl,HD.o⟩),fun c hh=>(by cases hh),DFr.refl _⟩
   ·have hb2:(ns[q].kd == 2)=false:=by simpa using hz2
    rw[HST.o,if_neg hz,if_neg hz2];obtain⟨v,hv⟩:=zN (ns[q].kd);rw[hv]at n0 hbz hb2;rw[hL]at c2 CK;clear h1 h2 h3 h4 h5 h6 W V hk hm hkd HST hz hz2 CA n4 hv hL;go_enter func80,ntmps80;go_wp2_with (go_at_call 14;refine CK.o.mono ?_;rintro e w' ⟨rfl,rfl⟩);refine bodyPost_ret (results_tmp (t:=8) rfl _ _ _) rfl ?_;exact⟨fun n ns' hh=>(by cases hh),fun c hh=>⟨rfl,ns,HD.o⟩,DFr.refl _⟩
end Go.Proofs.YtnnbgjaphfhibaaGreatDoor
