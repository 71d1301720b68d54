import Derived.Test.YtnnbgjaphfhibaaGreatDoorN30
set_option linter.unusedVariables false
set_option linter.unusedSimpArgs false
set_option maxRecDepth 100000
set_option maxHeartbeats 6400000
open Go.Proofs.Tryz
namespace Go.Proofs.YtnnbgjaphfhibaaGreatDoor
open Go.RowKit Go.Maps Go.WideMaps Go.Joins
theorem acz(B P R:Nat)(s:ByteArray)(now de:Nat)(c:Int × Nat)(up:Nat)(k:List UInt8)(p:Nat)(w:World)(h:Fq w B P R s now de c)(hs:s.size<=100000) :
  Calls prog 83 #[.pointer (some ⟨R,0,none⟩),.int .i64 (up:Nat),.string ⟨k.toArray⟩,.int .i64 (p:Nat)] w fun e w'=>e=.returned (.tuple #[])/\Fq w' B P R s now de c/\DFr B P w w':=by
 obtain⟨L,O,⟨h1,j,h2,h3⟩,h4,h5,h6⟩:=h;have HD:Hd (Dd w R s L O now de j c.1 c.2):=h3;obtain⟨c0,c1,-,-,-,c5,-,-,-⟩:=h3.cells;have hb:(c.1 == 0)=false:=by simpa using h1
 have hb2:(c.1 != 0)=true:=by simpa using h1
 have HC:Hd (c.1≠0):=h1;have HB:Hd (B<=w.heap.size):=Nat.le_of_lt (Nat.lt_of_le_of_lt h4 (aA h3));have U6:Hd (∀n,Fq (w.drewN n) B P R s now de c/\DFr B P w (w.drewN n)):=fun n=>by
  have g:w.grownBy (w.drewN n) none:=au (ak w none) n;exact⟨⟨L,O,⟨h1,j,h2,h3.grow g⟩,h4,h5,h6⟩,DFr.gb g HB.o h6⟩
 obtain⟨x,hx⟩:=zN (c.1);obtain⟨y,hy⟩:=zN (c.2);rw[hx]at HD c5 hb hb2 HC;rw[hy]at HD;clear h1 h3 hx hy
 by_cases hj:s.size<=j
 ·have hge:decide ((s.size:Int)<=(j:Int))=true:=by simp;omega
  have kZ:(s.size:Int)<=(j:Int):=by omega
  have CF:Hd (∀w',Dd w' R s L O now de j x y->Calls prog 82 #[.pointer (some ⟨R,0,none⟩),.int .i64 2,.int .i64 (j:Nat)] w' fun e w''=>e=.returned (.tuple #[])/\w''=w'):=fun w' h=>I5 R s L O now de j x y 2 j w' h HC.o
  go_enter func83,ntmps83;go_wp2;go_quiet (fail);go_wp2_with (go_at_call 82;refine(CF.o _ ?_).mono ?_;exact HD.o;rintro e w' ⟨rfl,rfl⟩);refine bodyPost_ret (results_none rfl _ _ _) rfl ?_;exact⟨rfl,U6.o _⟩
 ·have hge:decide ((s.size:Int)<=(j:Int))=false:=by simp;omega
  have kZ:¬(s.size:Int)<=(j:Int):=by omega
  go_enter func83,ntmps83;go_wp2;go_quiet (fail);go_wp2;refine bodyPost_ret (results_none rfl _ _ _) rfl ?_;exact⟨rfl,U6.o _⟩
theorem acA(f:Nat)(CL:Cb f):MH (f+1):=fun B P R s own now i up k p d ns w h hs W V hu hk2 hd hsz hf=>by
 by_cases he:s.size<=i
 ·exact abY f B P R s own now i up k p d ns w h hs W V hu hk2 hd hsz hf he
 ·by_cases h34:nx s.data.toList i=34
  ·exact ab2 f B P R s own now i up k p d ns w h hs W V hu hk2 hd hsz hf h34
  ·by_cases hin:nx s.data.toList i=43\/nx s.data.toList i=45\/ax (nx s.data.toList i)=true
   ·exact ab3 f B P R s own now i up k p d ns w h hs W V hu hk2 hd hsz hf hin
   ·by_cases htf:nx s.data.toList i=116\/nx s.data.toList i=102
    ·exact ab4 f B P R s own now i up k p d ns w h hs W V hu hk2 hd hsz hf htf
    ·by_cases jQ:nx s.data.toList i=91
     ·exact abZ f CL B P R s own now i up k p d ns w h hs W V hu hk2 hd hsz hf jQ
     ·exact ab1 f B P R s own now i up k p d ns w h hs W V hu hk2 hd hsz hf (by omega) h34 hin htf jQ
open Go.RowKit Go.Maps Go.WideMaps Go.Joins
def lh(l:List UInt8)(f j up d:Nat)(ns:List Tn):Rs (Nat × List Tn) :=
 if nx l j=93 then .ok (j+1,ns)
 else match val l f j up [] j d ns with
  | .error e=>.error e
  | .ok (j1,ns1)=>match gap l (l.length+1) j1 with
   | .error e=>.error e
   | .ok j2=>if nx l j2=44 then lst l f (j2+1) up d ns1 else if nx l j2=93 then .ok (j2+1,ns1) else .error (2,j2)
theorem U7(l:List UInt8)(f i up d:Nat)(ns:List Tn):lst l (f+1) i up d ns=(gap l (l.length+1) i).bind fun j=>lh l f j up d ns:=by
 rw[AA]
 cases gap l (l.length+1) i with
 | error e=>rfl
 | ok j=>rfl
def lb(l:List UInt8)(f up d:Nat)(ns:List Tn)(q:Rs Nat):Rs (Nat × List Tn):=q.bind fun j2=>if nx l j2=44 then lst l f (j2+1) up d ns else if nx l j2=93 then .ok (j2+1,ns) else .error (2,j2)
theorem acB(l:List UInt8)(f j up d:Nat)(ns:List Tn)(h:¬nx l j=93):lh l f j up d ns=match val l f j up [] j d ns with | .error e=>.error e | .ok (j1,ns1)=>lb l f up d ns1 (gap l (l.length+1) j1):=by
 unfold lh lb;rw[if_neg h]
 cases val l f j up [] j d ns with
 | error e=>rfl
 | ok q =>
  obtain⟨j1,ns1⟩:=q;simp only[]
  cases gap l (l.length+1) j1<;>rfl
def lv(l:List UInt8)(f up d:Nat):Rs (Nat × List Tn)->Rs (Nat × List Tn)
 | .error e=>.error e
 | .ok (j1,ns1)=>lb l f up d ns1 (gap l (l.length+1) j1)
theorem acC(l:List UInt8)(f j up d:Nat)(ns:List Tn)(h:¬nx l j=93):lh l f j up d ns=lv l f up d (val l f j up [] j d ns):=by
 rw[acB l f j up d ns h]
 cases val l f j up [] j d ns<;>rfl
theorem acD(l:List UInt8)(f up d:Nat)(ns:List Tn)(j:Nat)(h:nx l j=93):lb l f up d ns (.ok j)=.ok (j+1,ns):=by
 show(if _ then _ else _)=_;rw[if_neg (by rw[h];decide),if_pos h]
theorem acE(l:List UInt8)(f up d:Nat)(ns:List Tn)(j:Nat)(h:¬nx l j=93)(h2:¬nx l j=44):lb l f up d ns (.ok j)=.error (2,j):=by
 show(if _ then _ else _)=_;rw[if_neg h2,if_neg h]
theorem acF(l:List UInt8)(f up d:Nat)(ns:List Tn)(j:Nat)(h2:nx l j=44):lb l (f+1) up d ns (.ok j)=(gap l (l.length+1) (j+1)).bind fun j=>lh l f j up d ns:=by
 show(if _ then _ else _)=_;rw[if_pos h2,U7]
theorem acG(l:List UInt8)(own:List Nat)(f i up d:Nat)(k:List UInt8)(p:Nat)(ns:List Tn)(j:Nat)(ns':List Tn)(hi:i<=l.length)(W:WF ns own)(V:WT ns)(hu:up<ns.length)(h2:¬aj ns up=2)(h:val l f i up k p d ns=.ok (j,ns')):Ad ns ns' own i j l.length:=(EY l own f).1 i up k p d ns j ns' hi W V hu h2 h
theorem acH(l:List UInt8)(f up d:Nat)(ns:List Tn)(q:Rs Nat)(G:Rs (Nat × List Tn))(hG:lb l f up d ns q=G)(h:ed l q 93=true):∃j,q=.ok j/\lh l f j up d ns=G:=by
 match q,hG,h with
 | .error e,_,h=>cases h
 | .ok j,hG,h =>
  have hx:=of_decide_eq_true h;refine⟨j,rfl,?_⟩;rw[<-hG,acD l f up d ns j hx];unfold lh;rw[if_pos hx]
theorem acI(l:List UInt8)(f up d:Nat)(ns:List Tn)(q:Rs Nat)(G:Rs (Nat × List Tn))(hG:lb l (f+1) up d ns q=G)(h:ed l q 93=false)(hq:∀j,q=.ok j->j<=l.length):(∀j4,((q.bind fun i=>must l i 44).bind (gap l (l.length+1)))=.ok j4->lh l f j4 up d ns=G/\j4<=l.length/\∃j,q=.ok j/\j+1<=j4)/\(∀c,((q.bind fun i=>must l i 44).bind (gap l (l.length+1)))=.error c->G=.error c):=by
 match q,hG,h,hq with
 | .error e,hG,_,_=>exact⟨fun j4 hh=>(by cases hh),fun c hh=>(by have hh:(Except.error e:Rs Nat)=.error c:=hh;injection hh with hh;subst hh;exact hG.symm)⟩
 | .ok j,hG,h,hq =>
  have hx:=of_decide_eq_false h
  by_cases h44:nx l j=44
  ·rw[acF l f up d ns j h44]at hG;have hlt:=bu (l:=l) (i:=j) (by omega);have e:((Except.bind (.ok j) fun i=>must l i 44:Rs Nat).bind (gap l (l.length+1)))=gap l (l.length+1) (j+1):=by
    show(Except.bind (must l j 44) _)=_;unfold must;rw[if_pos h44];rfl
   rw[e];refine⟨fun j4 hh=>?_,fun c hh=>?_⟩
   ·rw[hh]at hG;have:=vg l _ (j+1) j4 (by omega) hh;exact⟨hG,this.2,j,rfl,this.1⟩
   ·rw[hh]at hG;exact hG.symm
  ·have e:((Except.bind (.ok j) fun i=>must l i 44:Rs Nat).bind (gap l (l.length+1)))=.error (2,j):=by
    show(Except.bind (must l j 44) _)=_;unfold must;rw[if_neg h44];rfl
   rw[e];rw[acE l (f+1) up d ns j hx h44]at hG;exact⟨fun j4 hh=>(by cases hh),fun c hh=>(by injection hh with hh;subst hh;exact hG.symm)⟩
structure Ls(w:World)(B P R:Nat)(s:ByteArray)(now de:Nat)(q:Rs Nat)(ns:List Tn)(own:List Nat)(f up:Nat)(G:Rs (Nat × List Tn)):Prop where
 dq:Dq w B P R s now de q ns own
 ok:∀j,q=.ok j->lh s.data.toList f j up de ns=G/\WF ns own/\WT ns/\up<ns.length/\¬aj ns up=2/\ns.length+(s.size-j)<=700000/\2*(s.size-j)+1<=f/\j<=s.size
 er:∀c,q=.error c->G=.error c
theorem Dn{w:World}{B P R:Nat}{s:ByteArray}{now de j:Nat}{ns:List Tn}{own:List Nat}(h:Dt w B P R s now de (.ok j) ns own):dM w R s=s.size-j+1:=by
 obtain⟨h1,h2,N,c,O,oc,xs,ks,h3,h4,h5,h6⟩:=h;exact tX h6.2
theorem Nl{w:World}{B P R:Nat}{s:ByteArray}{now de:Nat}{c:Int × Nat}(h:Fq w B P R s now de c):dM w R s=0:=by
 obtain⟨L,O,⟨h1,j,h2,h3⟩,-⟩:=h;exact EO h3 h1
theorem Dq.setD{w:World}{B P R:Nat}{s:ByteArray}{now de:Nat}{q:Rs Nat}{ns:List Tn}{own:List Nat}(h:Dq w B P R s now de q ns own)(m:Nat):Dq (w.setCell ⟨R,7,none⟩ (.int .i64 (m:Nat))) B P R s now m q ns own/\DFr B P w (w.setCell ⟨R,7,none⟩ (.int .i64 (m:Nat))):=by
 match q,h with
 | .error e,⟨L,O,h1,h2,h3,h4⟩=>exact⟨⟨L,O,h1.setD m,h2,h3,by simpa [World.setCell] using h4⟩,qV h1 h2 h3 h4 (aV (ak w (some R)) 7 _)⟩
 | .ok i,h =>
  obtain⟨h1,h2,N,c,O,oc,xs,ks,h3,h4,h5,h6⟩:=h;exact⟨⟨h1,h2,N,c,O,oc,xs,ks,h3,h4,h5.keepR h6.2 (aV (ak w (some R)) 7 _),h6.setD m⟩,qV h6 h1 h2 h5.hP (aV (ak w (some R)) 7 _)⟩
def okB:Rs Nat->Bool
 | .ok _=>true
 | .error _=>false
theorem Dq.cells{w:World}{B P R:Nat}{s:ByteArray}{now de:Nat}{q:Rs Nat}{ns:List Tn}{own:List Nat}(h:Dq w B P R s now de q ns own):w.cell? ⟨R,7,none⟩=some (.int .i64 (de:Nat))/\w.frozen? ⟨R,7,none⟩=false/\∃er:Int,w.cell? ⟨R,5,none⟩=some (.int .i64 er)/\(er == 0)=okB q:=by
 match q,h with
 | .error e,⟨L,O,⟨h1,j,h2,h3⟩,_⟩ =>
  obtain⟨c0,c1,c2,c3,c4,c5,c6,c7,cf⟩:=h3.cells;exact⟨c7,cf 7,e.1,c5,by show _=false;simpa using h1⟩
 | .ok i,h =>
  obtain⟨h1,h2,N,c,O,oc,xs,ks,h3,h4,h5,h6⟩:=h;obtain⟨c0,c1,c2,c3,c4,c5,c6,c7,cf⟩:=h6.2.cells;exact⟨c7,cf 7,0,c5,rfl⟩
theorem acJ(F:Nat)(CV:∀f,f<F->MH f):Cb F:=fun B P R s own now i up k p d ns w h hs hx W V hu hk2 hd hsz hf=>by
 have hl:s.data.toList.length=s.size:=by simp
 obtain⟨c0,c1,c5,c7,-,hi,cf⟩:=h.cells;have cf7:=cf 7;have hlt:i<s.size:=by have:=bu (l:=s.data.toList) (i:=i) (by omega);omega
 have HD:Hd (Dt w B P R s now d (.ok i) ns own):=h
 by_cases h8:d=8
 ·rw[if_pos h8];have h8I:(8:Int)<=(d:Int):=by omega
  have CF:Hd (Calls prog 82 #[.pointer (some ⟨R,0,none⟩),.int .i64 4,.int .i64 (i:Nat)] w fun e w'=>e=.returned (.tuple #[])/\Dt w' B P R s now d (.error (4,i)) ns own/\DFr B P w w'):=xW B P R s now d ns own i w h 4 (by decide) i;clear h h8 W V hk2 hx CV cf;go_enter func121,ntmps121;go_wp2_with (go_at_call 82;refine CF.o.mono ?_;rintro e w2 ⟨rfl,hd2,hf2⟩);refine bodyPost_ret (results_none rfl _ _ _) rfl ?_;exact⟨rfl,fun j ns' hh=>(by cases hh),fun c hh=>(by cases hh;exact hd2.fq),hf2⟩
 ·rw[if_neg h8];have h8I:(d:Int)<8:=by omega
  obtain⟨f,rfl⟩:∃f,F=f+1:=⟨F-1,by omega⟩;have A:=yI (i:=i) (j:=i+1) (n:=s.data.toList.length) (x:=⟨1,k,[],0,[],p⟩) W V hu hk2 rfl (fun e=>absurd (show(1:Int)=2 from e) (by decide)) (by omega) (by omega);have hkd:¬aj (addN ns up ⟨1,k,[],0,[],p⟩) ns.length=2:=by rw[eQ ns up _ hu,if_pos rfl];exact fun e=>absurd (show(1:Int)=2 from e) (by decide)
  have hln:(addN ns up ⟨1,k,[],0,[],p⟩).length=ns.length+1:=bZ _ _ _;obtain⟨M,hM⟩:=zN (addN ns up ⟨1,k,[],0,[],p⟩);obtain⟨u,hu'⟩:∃u,ns.length=u:=⟨_,rfl⟩;have CA:Hd (∀w,Dt w B P R s now (d+1) (.ok (i+1)) ns own->Calls prog 29 #[.pointer (some ⟨R,0,none⟩),.int .i64 (up:Nat),.agg #[.int .i64 1,.string ⟨k.toArray⟩,.string ⟨#[]⟩,.int .i64 0,.slice none 0 0,.int .i64 (p:Nat)]] w fun e w'=>e=.returned (.int .i64 (u:Nat))/\Dt w' B P R s now (d+1) (.ok (i+1)) M own/\DFr B P w w'):=fun w h=>by
   rw[<-hM,<-hu'];exact um B P R s now (d+1) (.ok (i+1)) ns own up 1 0 k [] p w h W hu (by omega)
  rw[hM]at A hkd hln ⊢;have rZ:Hd (WF M own/\WT M):=⟨A.wf,A.wt⟩;rw[U7,hu'];rw[hu']at hkd hln;obtain⟨G,hG⟩:=zN (((gap s.data.toList (s.data.toList.length+1) (i+1)).bind fun j=>lh s.data.toList f j u (d+1) M));have iV:Hd (((gap s.data.toList (s.data.toList.length+1) (i+1)).bind fun j=>lh s.data.toList f j u (d+1) M)=G):=hG;rw[hG];have U8:Hd (∀i j,i<=s.size->gap s.data.toList (s.data.toList.length+1) i=.ok j->i<=j/\j<=s.size):=fun i j hi h=>by have:=vg s.data.toList _ i j (by omega) h;omega
  have oI:Hd (must s.data.toList i 91=.ok (i+1)):=by show _=_;unfold must;rw[if_pos hx]
  have CM:Hd (∀c,0<=c->∀(q:Rs Nat) (N:List Tn) w,Dq w B P R s now (d+1) q N own->Calls prog 56 #[.pointer (some ⟨R,0,none⟩),.int .u8 c] w fun e w'=>e=.returned (.tuple #[])/\Dq w' B P R s now (d+1) (q.bind fun i=>must s.data.toList i c) N own/\DFr B P w w'):=fun c hc q N w h=>MG B P R s now (d+1) N own q w h hs c hc
  have U9:Hd (∀w,Dq w B P R s now (d+1) (.ok i) ns own->Calls prog 56 #[.pointer (some ⟨R,0,none⟩),.int .u8 91] w fun e w'=>e=.returned (.tuple #[])/\Dq w' B P R s now (d+1) (.ok (i+1)) ns own/\DFr B P w w'):=fun w h=>by
   have:=CM.o 91 (by decide) (.ok i) ns w h;rw[show(Except.bind (.ok i) fun i=>must s.data.toList i 91:Rs Nat)=must s.data.toList i 91 from rfl,oI.o]at this;exact this
  have zA:Hd (∀(q:Rs Nat) (N:List Tn) w,Dq w B P R s now (d+1) q N own->Calls prog 162 #[.pointer (some ⟨R,0,none⟩)] w fun e w'=>e=.returned (.tuple #[])/\Dq w' B P R s now (d+1) (q.bind (gap s.data.toList (s.data.toList.length+1))) N own/\DFr B P w w'):=fun q N w h=>abS B P R s now (d+1) N own q w h hs
  have CI:Hd (∀(q:Rs Nat) (N:List Tn) w,Dq w B P R s now (d+1) q N own->Calls prog 52 #[.pointer (some ⟨R,0,none⟩),.int .u8 93] w fun e w'=>e=.returned (.bool (ed s.data.toList q 93))/\Dq w' B P R s now (d+1) q N own/\DFr B P w w'):=fun q N w h=>UG B P R s now (d+1) N own q w h hs 93 (by decide)
  have Va:Hd (∀f',f'<f+1->∀(j:Nat) (N:List Tn) w,Dt w B P R s now (d+1) (.ok j) N own->WF N own->WT N->u<N.length->¬aj N u=2->N.length+(s.size-j)<=700000->2*(s.size-j)+1<=f'->Calls prog 83 #[.pointer (some ⟨R,0,none⟩),.int .i64 (u:Nat),.string ⟨#[]⟩,.int .i64 (j:Nat)] w (pM B P R s now (d+1) own (val s.data.toList f' j u [] j (d+1) N) w)):=fun f' hf' j N w h a b c e g i=>CV f' hf' B P R s own now j u [] j (d+1) N w h hs a b c e (by omega) g i
  have HAD:Hd (∀f' j N j1 N1,j<=s.size->WF N own->WT N->u<N.length->¬aj N u=2->val s.data.toList f' j u [] j (d+1) N=.ok (j1,N1)->Ad N N1 own j j1 s.size):=fun f' j N j1 N1 a b c e g h=>by have:=acG s.data.toList own f' j u (d+1) [] j N j1 N1 (by omega) b c e g h;rw[hl]at this;exact this
  have hS:=Dq.setD (q:=.ok i) h (d+1);have eH:Hd (Dq (w.setCell ⟨R,7,none⟩ (.int .i64 ((d:Int)+1))) B P R s now (d+1) (.ok i) ns own):=hS.1;have je:Hd (DFr B P w (w.setCell ⟨R,7,none⟩ (.int .i64 ((d:Int)+1)))):=hS.2;have hfu:u<M.length:=by omega
  have acK:M.length+(s.size-(i+1))<=700000:=by omega
  clear h hG hM A hS V W hk2 hx CV hu' cf;go_enter func121,ntmps121;go_wp2_with (first|(go_at_call 56;refine(U9.o _ eH.o).mono ?_;rintro e w2 ⟨rfl,hd2,hf2⟩)|(go_at_call 29;refine(CA.o _ hd2).mono ?_;rintro e w3 ⟨rfl,hd3,hf3⟩)|(go_at_call 162;refine(zA.o (.ok (i+1)) M _ hd3).mono ?_));rintro e w4 ⟨rfl,hd4,hf4⟩;have Dp:Hd (DFr B P w w4):=((je.o.two hf2).two hf3).two hf4;have Gx:Hd (Ls w4 B P R s now (d+1) ((Except.ok (i+1)).bind (gap s.data.toList (s.data.toList.length+1))) M own f u G):=by
   refine⟨hd4,fun j hj=>?_,fun c hc=>?_⟩
   ·have hj':gap s.data.toList (s.data.toList.length+1) (i+1)=.ok j:=hj;have h0:=iV.o;rw[hj']at h0;have h1:=U8.o (i+1) j (by omega) hj';exact⟨h0,rZ.o.1,rZ.o.2,hfu,hkd,by omega,by omega,h1.2⟩
   ·have hj':gap s.data.toList (s.data.toList.length+1) (i+1)=.error c:=hc;have h0:=iV.o;rw[hj']at h0;exact h0.symm
  obtain⟨m,hm⟩:=zN (d+1);have hmd:(m:Int)<=8:=by omega
  have hm1:(1:Int)<=(m:Int):=by omega
  have Vb:Hd (d+1=m):=hm;rw[hm]at Gx CM zA CI Va HAD;clear hd2 hd3 hd4 hf2 hf3 hf4 hm eH je CA U9 iV hkd hln rZ oI U8 HD hfu acK;go_wp2;go_loopw [] (fun wr=>∃(q:Rs Nat) (N:List Tn) (f':Nat),f'<f+1/\Ls wr B P R s now m q N own f' u G/\DFr B P w wr) (fun wr=>dM wr R s)
  case atStart=>exact⟨_,_,f,by omega,Gx.o,Dp.o⟩
  case round =>
   obtain⟨q,N,f',hf',hls,hfr⟩:=hrel;have Du:Hd (DFr B P w wr):=hfr;have x8:Hd (Dq wr B P R s now m q N own):=hls.dq;have Dv:Hd (∀j,q=.ok j->lh s.data.toList f' j u m N=G/\WF N own/\WT N/\u<N.length/\¬aj N u=2/\N.length+(s.size-j)<=700000/\2*(s.size-j)+1<=f'/\j<=s.size):=hls.ok;have iZ:Hd (∀c,q=.error c->G=.error c):=hls.er;obtain⟨-,-,er,c5',hz⟩:=hls.dq.cells;have HZ:Hd ((er == 0)=okB q):=hz;clear hls hfr hz
   match q,x8,Dv,iZ,HZ with
   | .error c,x8,_,iZ,HZ =>
    have aB:Hd (G=.error c):=iZ.o c rfl;have hz':(er == 0)=false:=HZ.o;go_wp2_with (go_at_call 56;refine(CM.o 93 (by decide) (.error c) N _ x8.o).mono ?_;rintro e w5 ⟨rfl,hd5,hf5⟩;obtain⟨k7,kf7,-⟩:=hd5.cells);have hS:=hd5.setD d;have ecast:(.int .i64 ((m:Int)-1):Value)=.int .i64 (d:Nat):=by have:=Vb.o;congr 1;omega
    refine bodyPost_end (results_none rfl _ _ _) rfl ?_;rw[ecast,aB.o];exact⟨rfl,fun j ns' hh=>(by cases hh),fun c' hh=>(by injection hh with hh;subst hh;exact hS.1),(Du.o.two hf5).two hS.2⟩
   | .ok j,x8,Dv,_,HZ =>
    have hz':(er == 0)=true:=HZ.o;obtain⟨a1,a2,a3,a4,a5,a6,a7,a8⟩:=Dv.o j rfl;have HA1:Hd (lh s.data.toList f' j u m N=G):=a1;have ww:Hd (dM wr R s=s.size-j+1):=Dn x8.o;have Hg:Hd (∀j1 N1,val s.data.toList f' j u [] j m N=.ok (j1,N1)->Ad N N1 own j j1 s.size):=fun j1 N1 h=>HAD.o f' j N j1 N1 a8 a2 a3 a4 a5 h
    have yE:Hd (∀w,Dt w B P R s now m (.ok j) N own->Calls prog 83 #[.pointer (some ⟨R,0,none⟩),.int .i64 (u:Nat),.string ⟨#[]⟩,.int .i64 (j:Nat)] w (pM B P R s now m own (val s.data.toList f' j u [] j m N) w)):=fun w h=>Va.o f' hf' j N w h a2 a3 a4 a5 a6 a7
    have jk:Hd (∀w,Dq w B P R s now m (.ok j) N own->Calls prog 52 #[.pointer (some ⟨R,0,none⟩),.int .u8 93] w fun e w'=>e=.returned (.bool (decide (nx s.data.toList j=93)))/\Dq w' B P R s now m (.ok j) N own/\DFr B P w w'):=fun w h=>CI.o (.ok j) N w h
    have Dw:Hd (¬aj N u=2/\u<N.length):=⟨a5,a4⟩;clear a1 a2 a3 a5
    by_cases h93:nx s.data.toList j=93
    ·rw[decide_eq_true h93]at jk;have aB:Hd (G=.ok (j+1,N)):=by
      show G=_;rw[<-HA1.o];unfold lh;rw[if_pos h93]
     have oI:Hd ((Except.bind (.ok j) fun i=>must s.data.toList i 93:Rs Nat)=.ok (j+1)):=by
      show must s.data.toList j 93=_;unfold must;rw[if_pos h93]
     clear h93;go_wp2_with (first|(go_at_call 52;refine(jk.o _ x8.o).mono ?_;rintro e w5 ⟨rfl,hd5,hf5⟩)|(go_at_call 56;refine(CM.o 93 (by decide) (.ok j) N _ hd5).mono ?_;rintro e w6 ⟨rfl,hd6,qZ⟩;obtain⟨k7,kf7,-⟩:=hd6.cells));rw[oI.o]at hd6;have hS:=hd6.setD d;have ecast:(.int .i64 ((m:Int)-1):Value)=.int .i64 (d:Nat):=by have:=Vb.o;congr 1;omega
     refine bodyPost_end (results_none rfl _ _ _) rfl ?_;rw[ecast,aB.o];exact⟨rfl,fun j ns' hh=>(by cases hh;exact hS.1),fun c' hh=>(by cases hh),((Du.o.two hf5).two qZ).two hS.2⟩
    ·rw[decide_eq_false h93]at jk;have zB:Hd (lv s.data.toList f' u m (val s.data.toList f' j u [] j m N)=G):=(acC s.data.toList f' j u m N h93).symm.trans HA1.o;obtain⟨V,hV⟩:=zN (val s.data.toList f' j u [] j m N);rw[hV]at yE zB Hg;clear hV h93;go_wp2_with (first|(go_at_call 52;refine(jk.o _ x8.o).mono ?_;rintro e w5 ⟨rfl,hd5,hf5⟩;obtain⟨-,g1,-,-,-,-,-⟩:=Dt.cells hd5)|(go_at_call 83;refine(yE.o _ hd5).mono ?_));rintro e w6 ⟨rfl,h1,h2,qZ⟩;have HF6:Hd (DFr B P w w6):=(Du.o.two hf5).two qZ;clear hd5 hf5 qZ g1
     match V,h1,h2,zB,Hg with
     | .error c,_,h2,zB,_ =>
      have HD6:Hd (Dq w6 B P R s now m (.error c) N own):=h2 c rfl;have aB:Hd (G=.error c):=zB.o.symm;clear h1 h2;go_wp2_with (go_at_call 162;refine(zA.o (.error c) N _ HD6.o).mono ?_);rintro e w7 ⟨rfl,hd7,jG⟩;have HD7:Hd (Dq w7 B P R s now m (.error c) N own):=hd7;have pO:Hd (DFr B P w w7):=HF6.o.two jG;clear hd7 jG;have xU:Hd (∀w,Dq w B P R s now m (.error c) N own->Calls prog 52 #[.pointer (some ⟨R,0,none⟩),.int .u8 93] w fun e w'=>e=.returned (.bool false)/\Dq w' B P R s now m (.error c) N own/\DFr B P w w'):=fun w h=>CI.o (.error c) N w h
      go_wp2_with (first|(go_at_call 52;refine(xU.o _ HD7.o).mono ?_;rintro e w8 ⟨rfl,hd8,uB⟩)|(go_at_call 56;refine(CM.o 44 (by decide) (.error c) N _ hd8).mono ?_;rintro e w9 ⟨rfl,hd9,Np⟩)|(go_at_call 162;refine(zA.o (.error c) N _ hd9).mono ?_;rintro e w10 ⟨rfl,hd10,Nq⟩));refine⟨⟨.error c,N,f',hf',⟨hd10,fun j hj=>(by cases hj),fun c' hc=>(by injection hc with hc;subst hc;exact aB.o)⟩,((pO.o.two uB).two Np).two Nq⟩,?_⟩;rw[ww.o,Nl hd10];omega
     | .ok (j1,N1),h1,_,zB,Hg =>
      have HD6:Hd (Dq w6 B P R s now m (.ok j1) N1 own):=h1 j1 N1 rfl;have AD:=Hg.o j1 N1 rfl;have wM:Hd (Ad N N1 own j j1 s.size):=AD;obtain⟨g,rfl⟩:∃g,f'=g+1:=⟨f'-1,by omega⟩;have Vd:Hd (lb s.data.toList (g+1) u m N1 (gap s.data.toList (s.data.toList.length+1) j1)=G):=zB.o;have nN:Hd (∀j2,gap s.data.toList (s.data.toList.length+1) j1=.ok j2->j1<=j2/\j2<=s.size):=fun j2 hh=>by
       have e1:=AD.en;have:=vg s.data.toList _ j1 j2 (by omega) hh;omega
      have yO:Hd (¬aj N1 u=2/\u<N1.length):=⟨by rw[AD.kd u Dw.o.2];exact Dw.o.1,by have:=AD.lo;have:=Dw.o.2;omega⟩;clear h1 AD;go_wp2_with (go_at_call 162;refine(zA.o (.ok j1) N1 _ HD6.o).mono ?_);rintro e w7 ⟨rfl,hd7,jG⟩;have HD7:Hd (Dq w7 B P R s now m (gap s.data.toList (s.data.toList.length+1) j1) N1 own):=hd7;have pO:Hd (DFr B P w w7):=HF6.o.two jG;clear hd7 jG;have hs1:=acH s.data.toList (g+1) u m N1 _ G Vd.o;have hs2:=acI s.data.toList g u m N1 _ G Vd.o;obtain⟨q2,hq2⟩:=zN (gap s.data.toList (s.data.toList.length+1) j1);rw[hq2]at HD7 nN hs1 hs2;have xU:Hd (∀w,Dq w B P R s now m q2 N1 own->Calls prog 52 #[.pointer (some ⟨R,0,none⟩),.int .u8 93] w fun e w'=>e=.returned (.bool (ed s.data.toList q2 93))/\Dq w' B P R s now m q2 N1 own/\DFr B P w w'):=fun w h=>CI.o q2 N1 w h
      obtain⟨b,hb⟩:=zN (ed s.data.toList q2 93);rw[hb]at xU
      cases b with
      | true =>
       obtain⟨j2,hj2,hlh⟩:=hs1 hb;subst hj2;have HJ2:=nN.o j2 rfl;have HLH:Hd (lh s.data.toList (g+1) j2 u m N1=G):=hlh;have afO:j1<=j2:=HJ2.1;have acL:j2<=s.size:=HJ2.2;clear hs1 hs2 hb hlh hq2 HJ2;go_wp2_with (go_at_call 52;refine(xU.o _ HD7.o).mono ?_;rintro e w8 ⟨rfl,hd8,uB⟩);have e1:=wM.o.hi;have e2:=wM.o.fw;refine⟨⟨.ok j2,N1,g+1,hf',⟨hd8,fun j hj=>(by cases hj;exact⟨HLH.o,wM.o.wf,wM.o.wt,yO.o.2,yO.o.1,by omega,by omega,acL⟩),fun c' hc=>(by cases hc)⟩,pO.o.two uB⟩,?_⟩;rw[ww.o,Dn hd8];omega
      | false =>
       obtain⟨hn1,hn2⟩:=hs2 hb (fun j hj=>by have:=(nN.o j hj).2;omega);have ku:Hd (∀j4,((q2.bind fun i=>must s.data.toList i 44).bind (gap s.data.toList (s.data.toList.length+1)))=.ok j4->lh s.data.toList g j4 u m N1=G/\j4<=s.data.toList.length/\∃j,q2=.ok j/\j+1<=j4):=hn1;have rV:Hd (∀c,((q2.bind fun i=>must s.data.toList i 44).bind (gap s.data.toList (s.data.toList.length+1)))=.error c->G=.error c):=hn2;clear hs1 hs2 hb hn1 hn2 hq2;go_wp2_with (first|(go_at_call 52;refine(xU.o _ HD7.o).mono ?_;rintro e w8 ⟨rfl,hd8,uB⟩)|(go_at_call 56;refine(CM.o 44 (by decide) q2 N1 _ hd8).mono ?_;rintro e w9 ⟨rfl,hd9,Np⟩)|(go_at_call 162;refine(zA.o _ N1 _ hd9).mono ?_;rintro e w10 ⟨rfl,hd10,Nq⟩));have e1:=wM.o.hi;have e2:=wM.o.fw;refine⟨⟨_,N1,g,by omega,⟨hd10,fun j4 hj=>?_,fun c' hc=>rV.o c' hc⟩,((pO.o.two uB).two Np).two Nq⟩,?_⟩
       ·obtain⟨x1,x2,j2,x3,x4⟩:=ku.o j4 hj;have x5:=nN.o j2 x3;exact⟨x1,wM.o.wf,wM.o.wt,yO.o.2,yO.o.1,by omega,by omega,by omega⟩
       ·rw[ww.o];obtain⟨q4,hq4⟩:=zN (((q2.bind fun i=>must s.data.toList i 44).bind (gap s.data.toList (s.data.toList.length+1))));rw[hq4]at hd10
        match q4,hq4,hd10 with
        | .error c,_,hd10=>rw[Nl hd10];omega
        | .ok j4,hq4,hd10 =>
         obtain⟨x1,x2,j2,x3,x4⟩:=ku.o j4 hq4;have x5:=nN.o j2 x3;rw[Dn hd10];omega
theorem acM:∀f,MH f/\Cb f:=by
 intro f
 induction f using Nat.strongRecOn with
 | ind f ih =>
  have hl:Cb f:=acJ f fun g hg=>(ih g hg).1
  refine⟨?_,hl⟩
  cases f with
  | zero=>exact fun B P R s own now i up k p d ns w h hs W V hu hk2 hd hsz hf=>absurd hf (by omega)
  | succ f=>exact acA f (ih f (by omega)).2
open Go.RowKit Go.Maps Go.WideMaps Go.Joins
def Hl(B P R:Nat)(s:ByteArray)(now de:Nat)(q:Rs Nat)(ns:List Tn)(own:List Nat)(g:Rs (Nat × List Tn))(w:World)(e:Ending)(w':World):Prop:=(∀n ns',g=.ok (n,ns')->e=.returned (.int .i64 (n:Nat))/\Dt w' B P R s now de q ns' own)/\(∀c,g=.error c->e=.returned (.int .i64 (-1))/\∃ns',Dt w' B P R s now de q ns' own)/\DFr B P w w'
theorem Hm{ns:List Tn}{t:Nat}{k:List UInt8}(h:ah ns t k=none):fB ns t k=-1:=by unfold fB;rw[h]
theorem Ho{ns:List Tn}{t q:Nat}{k:List UInt8}(h:ah ns t k=some q):fB ns t k=(q:Int):=by unfold fB;rw[h]
theorem acN(B P R:Nat)(s:ByteArray)(now de j:Nat)(ns:List Tn)(own:List Nat)(t:Nat)(k:List UInt8)(p:Nat)(w:World)(h:Dt w B P R s now de (.ok j) ns own)(W:WF ns own)(V:WT ns)(ht:t<ns.length)(hsz:ns.length<=1000000) :
  Calls prog 80 #[.pointer (some ⟨R,0,none⟩),.int .i64 (t:Nat),.string ⟨k.toArray⟩,.int .i64 (p:Nat)] w (Hl B P R s now de (.ok j) ns own (fD ns t k p) w):=by
 have HD:Hd (Dt w B P R s now de (.ok j) ns own):=h;have CA:Hd (Calls prog 29 #[.pointer (some ⟨R,0,none⟩),.int .i64 (t:Nat),.agg #[.int .i64 0,.string ⟨k.toArray⟩,.string ⟨#[]⟩,.int .i64 0,.slice none 0 0,.int .i64 (p:Nat)]] w (zh B P R s now de (.ok j) ns own (addN ns t ⟨0,k,[],0,[],p⟩) w)):=um B P R s now de (.ok j) ns own t 0 0 k [] p w h W ht hsz;obtain⟨h1,h2,N,c,O,oc,xs,ks,h3,h4,h5,h6⟩:=h;obtain⟨-,-,c2,-,-,-,-,-,-⟩:=h6.2.cells;have CK:Hd (Calls prog 14 #[.slice (some ⟨N,0,none⟩) ns.length c,.int .i64 (t:Nat),.string ⟨k.toArray⟩] w fun e w'=>e=.returned (.int .i64 (fB ns t k))/\w'=w):=Gj w B P ns _ own N c _ xs ks t k h5 W ht hsz;obtain⟨L,hL⟩:=zN (ns.length);have HL:Hd (ns.length=L):=hL
 cases hk:ah ns t k with
 | none =>
  rw[Hm hk]at CK;have HST:Hd (fD ns t k p=.ok (ns.length,addN ns t ⟨0,k,[],0,[],p⟩)):=by show _=_;unfold fD;rw[hk]
  rw[HST.o];rw[hL]at c2 CK;clear h1 h2 h3 h4 h5 h6 W V hk hL;go_enter func80,ntmps80;go_wp2_with (first|(go_at_call 14;refine CK.o.mono ?_;rintro e w' ⟨rfl,rfl⟩)|(go_at_call 29;refine CA.o.mono ?_;rintro e w2 ⟨rfl,hd2,hf2⟩));refine bodyPost_ret (results_tmp (t:=8) rfl _ _ _) rfl ?_;exact⟨fun n ns' hh=>(by cases hh;exact⟨rfl,hd2⟩),fun c hh=>(by cases hh),hf2⟩
 | some q =>
  rw[Ho hk]at CK;obtain⟨hm,-⟩:=qw hk;have hq:q<ns.length:=W.lt t q hm;obtain⟨n0,-,-,-,n4,-,-⟩:=h5.node q hq;have hkd:aj ns q=ns[q].kd:=by unfold aj;rw[List.getElem?_eq_getElem hq]
  have Ve:¬(q:Int)<0:=by omega
  have HST:Hd (fD ns t k p=if ns[q].kd=0 then .ok (q,ns) else if ns[q].kd=2 then .ok (ns[q].ks.getLastD 0,ns) else .error (5,p)):=by
   show _=_;unfold fD;rw[hk];simp only[hkd,List.getElem?_eq_getElem hq]
  have kG:q<L:=by omega
  have hL1:L<=1000000:=by omega
  by_cases hz:ns[q].kd=0
  ·rw[HST.o,if_pos hz];rw[hz]at n0;rw[hL]at c2 CK;clear h1 h2 h3 h4 h5 h6 W V hk hm hkd HST hz n4 CA hL;go_enter func80,ntmps80;go_wp2_with (go_at_call 14;refine CK.o.mono ?_;rintro e w' ⟨rfl,rfl⟩);refine bodyPost_ret (results_tmp (t:=8) rfl _ _ _) rfl ?_;exact⟨fun n ns' hh=>(by cases hh;exact⟨rfl,HD.o⟩),fun c hh=>(by cases hh),DFr.refl _⟩
  ·have hbz:(ns[q].kd == 0)=false:=by simpa using hz
   by_cases hz2:ns[q].kd=2
   ·rw[HST.o,if_neg hz,if_pos hz2];have hne:ns[q].ks≠[]:=by
     have:=(V q (by rw[hkd];exact hz2)).1;unfold ae at this;rw[List.getElem?_eq_getElem hq]at this;exact this
    have hrow:=h5.kid q hq;obtain⟨o,cp,hv⟩:=kV hrow;rw[hv]at n4 hrow;have hlen:ns[q].ks.length<=1000000:=by have:=W.len q;unfold ae at this;rw[List.getElem?_eq_getElem hq]at this;simp only[]at this;omega
    have hpos:0<ns[q].ks.length:=List.length_pos_iff.2 hne;obtain⟨g,cap,hvf,-,-⟩:=hrow.form hpos;injection hvf with ho _ hcc
    subst ho;have hlast:ns[q].ks[ns[q].ks.length-1]?=some (ns[q].ks.getLastD 0):=by
     rw[<-List.getLast?_eq_getElem?];rw[List.getLast?_eq_some_getLast hne,List.getLastD_eq_getLast?,List.getLast?_eq_some_getLast hne];rfl
    have cg:=hrow.cells (g:=g) rfl (ns[q].ks.length-1) (.int .i64 (ns[q].ks.getLastD 0:Nat)) (by rw[List.getElem?_map,hlast];rfl);rw[mr]at cg;obtain⟨M,hM⟩:=zN (ns[q].ks.length);obtain⟨y,hy⟩:=zN (ns[q].ks.getLastD 0);obtain⟨m,hm'⟩:∃m,M=m+1:=⟨M-1,by omega⟩;rw[hM,hm']at n4 cg;rw[hy]at cg ⊢;rw[Nat.add_sub_cancel]at cg;rw[hz2]at n0;rw[hL]at c2 CK;have hml:m<=1000000:=by omega
    clear h1 h2 h3 h4 h5 h6 W V hk hm hkd HST hz hz2 CA hne hrow hv hlen hpos hcc hlast hM hy hm' hbz hL;go_enter func80,ntmps80;go_wp2_with (go_at_call 14;refine CK.o.mono ?_;rintro e w' ⟨rfl,rfl⟩);refine bodyPost_ret (results_tmp (t:=8) rfl _ _ _) rfl ?_;exact⟨fun n ns' hh=>(by cases hh;exact⟨rfl,HD.o⟩),fun c hh=>(by cases hh),DFr.refl _⟩
   ·have hb2:(ns[q].kd == 2)=false:=by simpa using hz2
    rw[HST.o,if_neg hz,if_neg hz2];obtain⟨v,hv⟩:=zN (ns[q].kd);rw[hv]at n0 hbz hb2;rw[hL]at c2 CK;clear h1 h2 h3 h4 h5 h6 W V hk hm hkd HST hz hz2 CA n4 hv hL;go_enter func80,ntmps80;go_wp2_with (go_at_call 14;refine CK.o.mono ?_;rintro e w' ⟨rfl,rfl⟩);refine bodyPost_ret (results_tmp (t:=8) rfl _ _ _) rfl ?_;exact⟨fun n ns' hh=>(by cases hh),fun c hh=>⟨rfl,ns,HD.o⟩,DFr.refl _⟩
open Go.RowKit Go.Maps Go.WideMaps Go.Joins
theorem Dt.parts{w:World}{B P R:Nat}{s:ByteArray}{now de j:Nat}{ns:List Tn}{own:List Nat}(h:Dt w B P R s now de (.ok j) ns own):∃N c O oc,w.cell? ⟨R,2,none⟩=some (.slice (some ⟨N,0,none⟩) ns.length c)/\w.cell? ⟨R,3,none⟩=some (.slice (some ⟨O,0,none⟩) ns.length oc)/\(∀q (hq:q<ns.length),w.cell? ⟨N,q*6,none⟩=some (.int .i64 ns[q].kd))/\(∀q,q<ns.length->w.cell? ⟨O,q,none⟩=some (.bool (decide (q∈own))))/\∀t k,WF ns own->t<ns.length->ns.length<=1000000->Calls prog 14 #[.slice (some ⟨N,0,none⟩) ns.length c,.int .i64 (t:Nat),.string ⟨k.toArray⟩] w fun e w'=>e=.returned (.int .i64 (fB ns t k))/\w'=w:=by
 obtain⟨h1,h2,N,c,O,oc,xs,ks,h3,h4,h5,h6⟩:=h;obtain⟨-,-,c2,c3,-,-,-,-,-⟩:=h6.2.cells;exact⟨N,c,O,oc,c2,c3,fun q hq=>(h5.node q hq).1,fun q hq=>(h5.flagAt q hq).1,fun t k W ht hs=>Gj w B P ns _ own N c _ xs ks t k h5 W ht hs⟩
theorem Nr(ns:List Tn)(t:Nat)(x:Tn)(ht:t<ns.length)(hq:ns.length<(addN ns t x).length):((addN ns t x)[ns.length]'hq).kd=x.kd:=by
 have:=eQ ns t x ht ns.length;rw[if_pos rfl]at this;unfold aj at this;rw[List.getElem?_eq_getElem hq]at this;exact this
theorem acO(B P R:Nat)(s:ByteArray)(now de j:Nat)(ns:List Tn)(own:List Nat)(t:Nat)(k:List UInt8)(p:Nat)(w:World)(h:Dt w B P R s now de (.ok j) ns own)(W:WF ns own)(ht:t<ns.length)(hsz:ns.length<=900000) :
  Calls prog 81 #[.pointer (some ⟨R,0,none⟩),.int .i64 (t:Nat),.string ⟨k.toArray⟩,.int .i64 (p:Nat),.bool true] w (Hl B P R s now de (.ok j) ns own (fK ns t k p) w):=by
 have HD:Hd (Dt w B P R s now de (.ok j) ns own):=h;obtain⟨N,c,O,oc,c2,c3,hkd,hfl,hck⟩:=h.parts;have CK:Hd (Calls prog 14 #[.slice (some ⟨N,0,none⟩) ns.length c,.int .i64 (t:Nat),.string ⟨k.toArray⟩] w fun e w'=>e=.returned (.int .i64 (fB ns t k))/\w'=w):=hck t k W ht (by omega)
 cases hk:ah ns t k with
 | none =>
  rw[Hm hk]at CK;have HST:Hd (fK ns t k p=.ok (ns.length+1,addN (addN ns t ⟨2,k,[],0,[],p⟩) ns.length ⟨0,[],[],0,[],p⟩)):=by show _=_;unfold fK;rw[hk]
  rw[HST.o];have W1:=qx ns own t ⟨2,k,[],0,[],p⟩ rfl ht W;have hl1:(addN ns t ⟨2,k,[],0,[],p⟩).length=ns.length+1:=bZ _ _ _;have hkl:=Nr ns t ⟨2,k,[],0,[],p⟩ ht (by omega);obtain⟨L,hL⟩:=zN (ns.length);obtain⟨M,hM⟩:=zN (addN ns t ⟨2,k,[],0,[],p⟩);have CA:Hd (Calls prog 29 #[.pointer (some ⟨R,0,none⟩),.int .i64 (t:Nat),.agg #[.int .i64 2,.string ⟨k.toArray⟩,.string ⟨#[]⟩,.int .i64 0,.slice none 0 0,.int .i64 (p:Nat)]] w fun e w'=>e=.returned (.int .i64 (L:Nat))/\Dt w' B P R s now de (.ok j) M own/\DFr B P w w'):=by
   rw[<-hM,<-hL];exact um B P R s now de (.ok j) ns own t 2 0 k [] p w h W ht (by omega)
  rw[hM]at W1 hl1;have rq:∀(hq:L<M.length),(M[L]'hq).kd=2:=fun hq=>by
   have:=Nr ns t ⟨2,k,[],0,[],p⟩ ht (by omega);subst hM hL;exact this
  have CB:Hd (∀w,Dt w B P R s now de (.ok j) M own->Calls prog 29 #[.pointer (some ⟨R,0,none⟩),.int .i64 (L:Nat),.agg #[.int .i64 0,.string ⟨#[]⟩,.string ⟨#[]⟩,.int .i64 0,.slice none 0 0,.int .i64 (p:Nat)]] w fun e w'=>e=.returned (.int .i64 ((L:Int)+1))/\Dt w' B P R s now de (.ok j) (addN M L ⟨0,[],[],0,[],p⟩) own/\DFr B P w w'):=fun w h=>by
   have:=um B P R s now de (.ok j) M own L 0 0 [] [] p w h W1 (by omega) (by omega);refine this.mono ?_;rintro e w' ⟨rfl,a,b⟩;refine⟨?_,a,b⟩;rw[hl1,hL];rfl
  rw[hM];rw[hL]at c2 CK hl1 ⊢;have xG:Hd (∀(hq:L<M.length),(M[L]'hq).kd=2):=rq;have Hq:M.length=L+1:=hl1;have Ns:L<=900000:=by omega
  have mi:Hd (∀w',Dt w' B P R s now de (.ok j) M own->∃N1 c1,w'.cell? ⟨R,2,none⟩=some (.slice (some ⟨N1,0,none⟩) (L+1) c1)/\w'.cell? ⟨N1,L*6,none⟩=some (.int .i64 2)):=fun w' hd=>by
   obtain⟨N1,c1,O1,oc1,x1,x2,x3,-,-⟩:=hd.parts;have hq:L<M.length:=by omega
   have x5:=x3 L hq;rw[xG.o hq]at x5;rw[Hq]at x1;exact⟨N1,c1,x1,x5⟩
  clear h W hk HST hkl rq hck hfl hkd hL hM W1 hl1 Hq ht hsz;go_enter func81,ntmps81;go_wp2_with (first|(go_at_call 14;refine CK.o.mono ?_;rintro e w' ⟨rfl,rfl⟩)|(go_at_call 29;refine CA.o.mono ?_));rintro e w2 ⟨rfl,hd2,hf2⟩;obtain⟨N1,c1,x1,x5⟩:=mi.o w2 hd2;have HD2:Hd (Dt w2 B P R s now de (.ok j) M own):=hd2;have HF2:Hd (DFr B P w' w2):=hf2;clear hd2 hf2 c2 c3;go_wp2_with (go_at_call 29;refine(CB.o _ HD2.o).mono ?_;rintro e w3 ⟨rfl,hd3,hf3⟩);refine bodyPost_ret (results_tmp (t:=10) rfl _ _ _) rfl ?_;exact⟨fun n ns' hh=>(by cases hh;exact⟨rfl,hd3⟩),fun c hh=>(by cases hh),HF2.o.two hf3⟩
 | some q =>
  rw[Ho hk]at CK;obtain⟨hm,-⟩:=qw hk;have hq:q<ns.length:=W.lt t q hm;have n0:=hkd q hq;have hkq:aj ns q=ns[q].kd:=by unfold aj;rw[List.getElem?_eq_getElem hq]
  have Ve:¬(q:Int)<0:=by omega
  have HST:Hd (fK ns t k p=if ns[q].kd=2 then .ok (ns.length,addN ns q ⟨0,[],[],0,[],p⟩) else .error (5,p)):=by
   show _=_;unfold fK;rw[hk];simp only[hkq]
  rw[HST.o];obtain⟨L,hL⟩:=zN (ns.length);have kG:q<L:=by omega
  have Ns:L<=900000:=by omega
  have CB:Hd (Calls prog 29 #[.pointer (some ⟨R,0,none⟩),.int .i64 (q:Nat),.agg #[.int .i64 0,.string ⟨#[]⟩,.string ⟨#[]⟩,.int .i64 0,.slice none 0 0,.int .i64 (p:Nat)]] w fun e w'=>e=.returned (.int .i64 (L:Nat))/\Dt w' B P R s now de (.ok j) (addN ns q ⟨0,[],[],0,[],p⟩) own/\DFr B P w w'):=by
   rw[<-hL];exact um B P R s now de (.ok j) ns own q 0 0 [] [] p w h W hq (by omega)
  obtain⟨v,hv⟩:=zN (ns[q].kd);rw[hv]at n0 ⊢;rw[hL]at c2 CK ⊢;clear h W hk HST hck hfl hkd hL hm hkq hv hq ht hsz
  by_cases h2:v=2
  ·have hb:(v != 2)=false:=by simpa using h2
   rw[if_pos h2];clear h2;go_enter func81,ntmps81;go_wp2_with (first|(go_at_call 14;refine CK.o.mono ?_;rintro e w' ⟨rfl,rfl⟩)|(go_at_call 29;refine CB.o.mono ?_;rintro e w3 ⟨rfl,hd3,hf3⟩));refine bodyPost_ret (results_tmp (t:=10) rfl _ _ _) rfl ?_;exact⟨fun n ns' hh=>(by cases hh;exact⟨rfl,hd3⟩),fun c hh=>(by cases hh),hf3⟩
  ·have hb:(v != 2)=true:=by simpa using h2
   rw[if_neg h2];clear h2;go_enter func81,ntmps81;go_wp2_with (go_at_call 14;refine CK.o.mono ?_;rintro e w' ⟨rfl,rfl⟩);refine bodyPost_ret (results_tmp (t:=10) rfl _ _ _) rfl ?_;exact⟨fun n ns' hh=>(by cases hh),fun c hh=>⟨rfl,ns,HD.o⟩,DFr.refl _⟩
theorem acP(B P R:Nat)(s:ByteArray)(now de j:Nat)(ns:List Tn)(own:List Nat)(t:Nat)(k:List UInt8)(p:Nat)(w:World)(h:Dt w B P R s now de (.ok j) ns own)(W:WF ns own)(ht:t<ns.length)(hsz:ns.length<=900000) :
  Calls prog 81 #[.pointer (some ⟨R,0,none⟩),.int .i64 (t:Nat),.string ⟨k.toArray⟩,.int .i64 (p:Nat),.bool false] w (Hl B P R s now de (.ok j) ns own (fJ ns own t k p) w):=by
 have HD:Hd (Dt w B P R s now de (.ok j) ns own):=h;obtain⟨N,c,O,oc,c2,c3,hkd,hfl,hck⟩:=h.parts;have CK:Hd (Calls prog 14 #[.slice (some ⟨N,0,none⟩) ns.length c,.int .i64 (t:Nat),.string ⟨k.toArray⟩] w fun e w'=>e=.returned (.int .i64 (fB ns t k))/\w'=w):=hck t k W ht (by omega)
 cases hk:ah ns t k with
 | none =>
  rw[Hm hk]at CK;have HST:Hd (fJ ns own t k p=.ok (ns.length,addN ns t ⟨0,k,[],0,[],p⟩)):=by show _=_;unfold fJ;rw[hk]
  rw[HST.o];have hl1:(addN ns t ⟨0,k,[],0,[],p⟩).length=ns.length+1:=bZ _ _ _;have hno:¬ns.length∈own:=fun hm=>by have:=W.own _ hm;omega
  obtain⟨L,hL⟩:=zN (ns.length);obtain⟨M,hM⟩:=zN (addN ns t ⟨0,k,[],0,[],p⟩);have CA:Hd (Calls prog 29 #[.pointer (some ⟨R,0,none⟩),.int .i64 (t:Nat),.agg #[.int .i64 0,.string ⟨k.toArray⟩,.string ⟨#[]⟩,.int .i64 0,.slice none 0 0,.int .i64 (p:Nat)]] w fun e w'=>e=.returned (.int .i64 (L:Nat))/\Dt w' B P R s now de (.ok j) M own/\DFr B P w w'):=by
   rw[<-hM,<-hL];exact um B P R s now de (.ok j) ns own t 0 0 k [] p w h W ht (by omega)
  have rq:∀(hq:L<M.length),(M[L]'hq).kd=0:=fun hq=>by
   have:=Nr ns t ⟨0,k,[],0,[],p⟩ ht (by omega);subst hM hL;exact this
  rw[hM];rw[hM]at hl1;rw[hL]at c2 CK hl1 hno ⊢;have xG:Hd (∀(hq:L<M.length),(M[L]'hq).kd=0):=rq;have Ns:L<=900000:=by omega
  have mi:Hd (∀w',Dt w' B P R s now de (.ok j) M own->∃N1 c1 O1 oc1,w'.cell? ⟨R,2,none⟩=some (.slice (some ⟨N1,0,none⟩) (L+1) c1)/\w'.cell? ⟨N1,L*6,none⟩=some (.int .i64 0)/\w'.cell? ⟨R,3,none⟩=some (.slice (some ⟨O1,0,none⟩) (L+1) oc1)/\w'.cell? ⟨O1,L,none⟩=some (.bool false)):=fun w' hd=>by
   obtain⟨N1,c1,O1,oc1,x1,x2,x3,x4,-⟩:=hd.parts;have hq:L<M.length:=by omega
   have x5:=x3 L hq;have x6:=x4 L hq;rw[xG.o hq]at x5;rw[decide_eq_false hno]at x6;rw[hl1]at x1 x2;exact⟨N1,c1,O1,oc1,x1,x5,x2,x6⟩
  clear h W hk HST rq hck hfl hkd hL hM hl1 ht hsz hno;go_enter func81,ntmps81;go_wp2_with (first|(go_at_call 14;refine CK.o.mono ?_;rintro e w' ⟨rfl,rfl⟩)|(go_at_call 29;refine CA.o.mono ?_));rintro e w2 ⟨rfl,hd2,hf2⟩;obtain⟨N1,c1,O1,oc1,x1,x5,x2,x6⟩:=mi.o w2 hd2;have HD2:Hd (Dt w2 B P R s now de (.ok j) M own):=hd2;have HF2:Hd (DFr B P w' w2):=hf2;clear hd2 hf2 c2 c3;go_wp2;refine bodyPost_ret (results_tmp (t:=10) rfl _ _ _) rfl ?_;exact⟨fun n ns' hh=>(by cases hh;exact⟨rfl,HD2.o⟩),fun c hh=>(by cases hh),HF2.o⟩
 | some q =>
  rw[Ho hk]at CK;obtain⟨hm,-⟩:=qw hk;have hq:q<ns.length:=W.lt t q hm;have n0:=hkd q hq;have o0:=hfl q hq;have hkq:aj ns q=ns[q].kd:=by unfold aj;rw[List.getElem?_eq_getElem hq]
  have Ve:¬(q:Int)<0:=by omega
  have HST:Hd (fJ ns own t k p=if ns[q].kd=0/\¬q∈own then .ok (q,ns) else .error (5,p)):=by
   show _=_;unfold fJ;rw[hk];simp only[hkq]
  rw[HST.o];obtain⟨L,hL⟩:=zN (ns.length);have kG:q<L:=by omega
  have Ns:L<=900000:=by omega
  obtain⟨v,hv⟩:=zN (ns[q].kd);obtain⟨b,hb⟩:=zN (decide (q∈own));rw[hv]at n0 ⊢;rw[hb]at o0;rw[hL]at c2 c3 CK;have HB:Hd (decide (q∈own)=b):=hb;clear h W hk HST hck hfl hkd hL hm hkq hv hq ht hsz hb
  by_cases h0:v=0
  ·have hb0:(v != 0)=false:=by simpa using h0
   cases b with
   | false =>
    rw[if_pos ⟨h0,of_decide_eq_false HB.o⟩];clear h0;go_enter func81,ntmps81;go_wp2_with (go_at_call 14;refine CK.o.mono ?_;rintro e w' ⟨rfl,rfl⟩);refine bodyPost_ret (results_tmp (t:=10) rfl _ _ _) rfl ?_;exact⟨fun n ns' hh=>(by cases hh;exact⟨rfl,HD.o⟩),fun c hh=>(by cases hh),DFr.refl _⟩
   | true =>
    rw[if_neg (fun h=>h.2 (of_decide_eq_true HB.o))];clear h0;go_enter func81,ntmps81;go_wp2_with (go_at_call 14;refine CK.o.mono ?_;rintro e w' ⟨rfl,rfl⟩);refine bodyPost_ret (results_tmp (t:=10) rfl _ _ _) rfl ?_;exact⟨fun n ns' hh=>(by cases hh),fun c hh=>⟨rfl,ns,HD.o⟩,DFr.refl _⟩
  ·have hb0:(v != 0)=true:=by simpa using h0
   rw[if_neg (fun h=>h0 h.1)];clear h0;go_enter func81,ntmps81;go_wp2_with (go_at_call 14;refine CK.o.mono ?_;rintro e w' ⟨rfl,rfl⟩);refine bodyPost_ret (results_tmp (t:=10) rfl _ _ _) rfl ?_;exact⟨fun n ns' hh=>(by cases hh),fun c hh=>⟨rfl,ns,HD.o⟩,DFr.refl _⟩
open Go.RowKit Go.Maps Go.WideMaps Go.Joins
def Vf(B P R:Nat)(s:ByteArray)(now de i:Nat)(ns:List Tn)(own:List Nat)(g:Rs (List UInt8 × Nat))(w:World)(e:Ending)(w':World):Prop:=(∀t j,g=.ok (t,j)->e=.returned (.tuple #[.string ⟨t.toArray⟩,.int .i64 (i:Nat)])/\Dt w' B P R s now de (.ok j) ns own)/\(∀c,g=.error c->∃t:List UInt8,e=.returned (.tuple #[.string ⟨t.toArray⟩,.int .i64 (i:Nat)])/\Dt w' B P R s now de (.error c) ns own)/\DFr B P w w'
theorem acQ(B P R:Nat)(s:ByteArray)(now de i:Nat)(ns:List Tn)(own:List Nat)(w:World)(h:Dt w B P R s now de (.ok i) ns own)(hs:s.size<=100000) :
  Calls prog 79 #[.pointer (some ⟨R,0,none⟩)] w (Vf B P R s now de i ns own (bW s.data.toList i) w):=by
 obtain⟨h1,h2,N,c,O,oc,xs,ks,h3,h4,h5,h6⟩:=h;refine(TG R s _ _ now de i w h6.2 h6.1 (by omega)).mono ?_;rintro e w' ⟨a1,a2,a3⟩;refine⟨fun t j hg=>?_,fun c hg=>?_,qV h6 h1 h2 h5.hP a3⟩
 ·obtain⟨b1,b2⟩:=a1 t j hg;exact⟨b1,h1,h2,N,_,O,oc,xs,ks,h3,h4,h5.keepR h6.2 a3,b2⟩
 ·obtain⟨⟨t,-,b1⟩,b2⟩:=a2 c.1 c.2 hg;exact⟨t,b1,h1,h2,N,_,O,oc,xs,ks,h3,h4,h5.keepR h6.2 a3,b2⟩
def sQ(B P R:Nat)(s:ByteArray)(now:Nat)(own:List Nat)(g:Rs Sd)(w:World)(e:Ending)(w':World):Prop:=e=.returned (.tuple #[])/\(∀d,g=.ok d->Dt w' B P R s d.now 0 (.ok d.i) d.ns d.own)/\(∀c,g=.error c->∃now',Fq w' B P R s now' 0 c)/\DFr B P w w'
def Hr(own:List Nat)(now:Nat):Rs (Nat × List Tn)->Rs Sd
 | .error e=>.error e
 | .ok (j,ns)=>.ok ⟨j,ns,own,now⟩
theorem acR(l:List UInt8)(d:Sd)(c:Int × Nat)(h:bW l d.i=.error c):rdPair l d=.error c:=by unfold rdPair;rw[h]
theorem acS(l:List UInt8)(d:Sd)(k:List UInt8)(j:Nat)(c:Int × Nat)(h:bW l d.i=.ok (k,j))(h2:must l (bl l j) 61=.error c):rdPair l d=.error c:=by unfold rdPair;rw[h];simp only[h2]
theorem acT(l:List UInt8)(d:Sd)(k:List UInt8)(j j1 q:Nat)(h:bW l d.i=.ok (k,j))(h2:must l (bl l j) 61=.ok j1)(h3:ah d.ns d.now k=some q):rdPair l d=.error (5,d.i):=by unfold rdPair;rw[h];simp only[h2,h3]
theorem acU(l:List UInt8)(d:Sd)(k:List UInt8)(j j1:Nat)(h:bW l d.i=.ok (k,j))(h2:must l (bl l j) 61=.ok j1)(h3:ah d.ns d.now k=none):rdPair l d=Hr d.own d.now (val l (2*l.length+2) (bl l j1) d.now k d.i 0 d.ns):=by
 unfold rdPair;rw[h];simp only[h2,h3]
 cases val l (2*l.length+2) (bl l j1) d.now k d.i 0 d.ns<;>rfl
theorem Fq.now{w:World}{B P R:Nat}{s:ByteArray}{now de:Nat}{e:Int × Nat}(h:Fq w B P R s now de e):w.cell? ⟨R,4,none⟩=some (.int .i64 (now:Nat))/\w.cell? ⟨R,5,none⟩=some (.int .i64 e.1)/\(e.1 == 0)=false:=by
 obtain⟨L,O,⟨h1,j,h2,h3⟩,-⟩:=h;exact⟨h3.cells.2.2.2.2.1,h3.cells.2.2.2.2.2.1,by simpa using h1⟩
theorem Fq.drew{w:World}{B P R:Nat}{s:ByteArray}{now de:Nat}{c:Int × Nat}(h:Fq w B P R s now de c)(n:Nat):Fq (w.drewN n) B P R s now de c/\DFr B P w (w.drewN n):=by
 obtain⟨L,O,h1,h4,h5,h6⟩:=h;obtain⟨i,er,p,hd⟩:=h1.dd;have g:w.grownBy (w.drewN n) none:=au (ak w none) n;exact⟨⟨L,O,h1.grow g,h4,h5,h6⟩,DFr.gb g (Nat.le_of_lt (Nat.lt_of_le_of_lt h4 (aA hd))) h6⟩
theorem acV(B P R:Nat)(s:ByteArray)(now i:Nat)(ns:List Tn)(own:List Nat)(w:World)(h:Dt w B P R s now 0 (.ok i) ns own)(W:WF ns own)(V:WT ns)(Vg:now<ns.length)(hk2:¬aj ns now=2)(hsz:ns.length+(s.size-i)<=700000)(hs:s.size<=100000) :
  Calls prog 54 #[.pointer (some ⟨R,0,none⟩)] w (sQ B P R s now own (rdPair s.data.toList ⟨i,ns,own,now⟩) w):=by
 have hl:s.data.toList.length=s.size:=by simp
 have CK:Hd (Calls prog 79 #[.pointer (some ⟨R,0,none⟩)] w (Vf B P R s now 0 i ns own (bW s.data.toList i) w)):=acQ B P R s now 0 i ns own w h hs;have CB:Hd (∀(q:Rs Nat) w,Dq w B P R s now 0 q ns own->Calls prog 51 #[.pointer (some ⟨R,0,none⟩)] w fun e w'=>e=.returned (.tuple #[])/\Dq w' B P R s now 0 (q.bind fun i=>.ok (bl s.data.toList i)) ns own/\DFr B P w w'):=fun q w h=>UF B P R s now 0 ns own q w h hs
 have CM:Hd (∀(q:Rs Nat) w,Dq w B P R s now 0 q ns own->Calls prog 56 #[.pointer (some ⟨R,0,none⟩),.int .u8 61] w fun e w'=>e=.returned (.tuple #[])/\Dq w' B P R s now 0 (q.bind fun i=>must s.data.toList i 61) ns own/\DFr B P w w'):=fun q w h=>MG B P R s now 0 ns own q w h hs 61 (by decide)
 have Nu:Hd (∀(c:Int × Nat) (k:List UInt8) w,Fq w B P R s now 0 c->Calls prog 83 #[.pointer (some ⟨R,0,none⟩),.int .i64 (now:Nat),.string ⟨k.toArray⟩,.int .i64 (i:Nat)] w fun e w'=>e=.returned (.tuple #[])/\Fq w' B P R s now 0 c/\DFr B P w w'):=fun c k w h=>acz B P R s now 0 c now k i w h hs
 have jD:Hd (∀k j,bW s.data.toList i=.ok (k,j)->i<=j/\j<=s.size):=fun k j hh=>by
  have hi:=h.cells.2.2.2.2.2.1;have:=uZ s.data.toList i k j (by omega) hh;omega
 obtain⟨G,hG⟩:=zN (rdPair s.data.toList ⟨i,ns,own,now⟩);have Ht:Hd (∀c,bW s.data.toList i=.error c->G=.error c):=fun c hh=>by show G=_;rw[<-hG];exact acR _ _ c hh
 have Dx:Hd (∀k j c,bW s.data.toList i=.ok (k,j)->must s.data.toList (bl s.data.toList j) 61=.error c->G=.error c):=fun k j c h1 h2=>by show G=_;rw[<-hG];exact acS _ _ k j c h1 h2
 have mi:Hd (∀k j j1 q,bW s.data.toList i=.ok (k,j)->must s.data.toList (bl s.data.toList j) 61=.ok j1->ah ns now k=some q->G=.error (5,i)):=fun k j j1 q h1 h2 h3=>by show G=_;rw[<-hG];exact acT _ _ k j j1 q h1 h2 h3
 have Dy:Hd (∀k j j1,bW s.data.toList i=.ok (k,j)->must s.data.toList (bl s.data.toList j) 61=.ok j1->ah ns now k=none->G=Hr own now (val s.data.toList (2*s.data.toList.length+2) (bl s.data.toList j1) now k i 0 ns)):=fun k j j1 h1 h2 h3=>by show G=_;rw[<-hG];exact acU _ _ k j j1 h1 h2 h3
 rw[hG];obtain⟨K,hK⟩:=zN (bW s.data.toList i);rw[hK]at CK Ht Dx mi Dy jD;have zC:Hd (WF ns own/\WT ns/\now<ns.length/\¬aj ns now=2):=⟨W,V,Vg,hk2⟩
 -- the tail behind a fault
 clear h hG hK W V Vg hk2;go_enter func54,ntmps54;go_wp2_with (go_at_call 79;refine CK.o.mono ?_);rintro e w1 ⟨h1,h2,hf1⟩;have je:Hd (DFr B P w w1):=hf1;clear hf1
 match K,h1,h2,Ht,Dx,mi,Dy,jD with
 | .error c,_,h2,Ht,_,_,_,_ =>
  obtain⟨t,rfl,hd1⟩:=h2 c rfl;have aB:Hd (G=.error c):=Ht.o c rfl;have HD1:Hd (Dq w1 B P R s now 0 (.error c) ns own):=hd1.fq;clear h1 h2 hd1;go_wp2_with (first|(go_at_call 51;refine(CB.o (.error c) _ HD1.o).mono ?_;rintro e w2 ⟨rfl,hd2,hf2⟩)|(go_at_call 56;refine(CM.o (.error c) _ hd2).mono ?_));rintro e w3 ⟨rfl,hd3,hf3⟩;have HD3:Hd (Fq w3 B P R s now 0 c):=hd3;have HF3:Hd (DFr B P w w3):=(je.o.two hf2).two hf3;clear hd2 hf2 hd3 hf3;obtain⟨a4,a5,a6⟩:=HD3.o.now;go_wp2;go_quiet (fail);have aC:=HD3.o.drew nq;have dF:Hd (Dq (w3.drewN nq) B P R s now 0 (.error c) ns own):=aC.1;have bH:Hd (DFr B P w (w3.drewN nq)):=HF3.o.two aC.2;obtain⟨wA,hwA⟩:∃W,w3.drewN nq=W:=⟨_,rfl⟩;rw[hwA]at dF bH ⊢;clear hwA aC a4 a5 a6;go_wp2_with (go_at_call 51;refine(CB.o (.error c) _ dF.o).mono ?_);rintro e w4 ⟨rfl,hd4,hf4⟩;have HD4:Hd (Fq w4 B P R s now 0 c):=hd4
  have Dp:Hd (DFr B P w w4):=bH.o.two hf4;obtain⟨b4,-,-⟩:=HD4.o.now;clear hd4 hf4;go_wp2_with (go_at_call 83;refine(Nu.o c t _ HD4.o).mono ?_;rintro e w5 ⟨rfl,hd5,hf5⟩);refine bodyPost_end (results_none rfl _ _ _) rfl ?_;rw[aB.o];exact⟨rfl,fun d hh=>(by cases hh),fun c' hh=>(by injection hh with hh;subst hh;exact⟨now,hd5⟩),Dp.o.two hf5⟩
 | .ok (k,j),h1,_,_,Dx,mi,Dy,jD =>
  obtain⟨rfl,hd1⟩:=h1 k j rfl;have HD1:Hd (Dq w1 B P R s now 0 (.ok j) ns own):=hd1;obtain⟨hij,hjs⟩:=jD.o k j rfl;have hbj:=jA s.data.toList j (by omega);clear h1 hd1;go_wp2_with (first|(go_at_call 51;refine(CB.o (.ok j) _ HD1.o).mono ?_;rintro e w2 ⟨rfl,hd2,hf2⟩)|(go_at_call 56;refine(CM.o (.ok (bl s.data.toList j)) _ hd2).mono ?_));rintro e w3 ⟨rfl,hd3,hf3⟩;have HF3:Hd (DFr B P w w3):=(je.o.two hf2).two hf3;have wO:Hd (Dq w3 B P R s now 0 (must s.data.toList (bl s.data.toList j) 61) ns own):=hd3;have Hu:Hd (∀j1,must s.data.toList (bl s.data.toList j) 61=.ok j1->j<=j1/\j1<=s.size):=fun j1 hh=>by
   unfold must at hh;split at hh
   ·rename_i hx;have:=bu (l:=s.data.toList) (i:=bl s.data.toList j) (by omega);injection hh with hh
    omega
   ·cases hh
  obtain⟨q3,hq3⟩:=zN (must s.data.toList (bl s.data.toList j) 61);have Nv:Hd (∀c,q3=.error c->G=.error c):=fun c hh=>Dx.o k j c rfl (hq3.trans hh)
  have Nw:Hd (∀j1 q,q3=.ok j1->ah ns now k=some q->G=.error (5,i)):=fun j1 q hh h3=>mi.o k j j1 q rfl (hq3.trans hh) h3
  have Ny:Hd (∀j1,q3=.ok j1->ah ns now k=none->G=Hr own now (val s.data.toList (2*s.data.toList.length+2) (bl s.data.toList j1) now k i 0 ns)):=fun j1 hh h3=>Dy.o k j j1 rfl (hq3.trans hh) h3
  rw[hq3]at wO Hu;clear hd2 hf2 hd3 hf3 hq3 hbj Dx mi Dy
  match q3,wO,Hu,Nv,Nw,Ny with
  | .error c,wO,_,Nv,_,_ =>
   have aB:Hd (G=.error c):=Nv.o c rfl;have HD3:Hd (Fq w3 B P R s now 0 c):=wO.o;obtain⟨a4,a5,a6⟩:=HD3.o.now;go_wp2;go_quiet (fail);have aC:=HD3.o.drew nq;have dF:Hd (Dq (w3.drewN nq) B P R s now 0 (.error c) ns own):=aC.1;have bH:Hd (DFr B P w (w3.drewN nq)):=HF3.o.two aC.2;obtain⟨wA,hwA⟩:∃W,w3.drewN nq=W:=⟨_,rfl⟩;rw[hwA]at dF bH ⊢;clear hwA aC a4 a5 a6;go_wp2_with (go_at_call 51;refine(CB.o (.error c) _ dF.o).mono ?_);rintro e w4 ⟨rfl,hd4,hf4⟩;have HD4:Hd (Fq w4 B P R s now 0 c):=hd4;have Dp:Hd (DFr B P w w4):=bH.o.two hf4;obtain⟨b4,-,-⟩:=HD4.o.now;clear hd4 hf4;go_wp2_with (go_at_call 83;refine(Nu.o c k _ HD4.o).mono ?_;rintro e w5 ⟨rfl,hd5,hf5⟩);refine bodyPost_end (results_none rfl _ _ _) rfl ?_;rw[aB.o];exact⟨rfl,fun d hh=>(by cases hh),fun c' hh=>(by injection hh with hh;subst hh;exact⟨now,hd5⟩),Dp.o.two hf5⟩
  | .ok j1,wO,Hu,_,Nw,Ny =>
   have HD3:Hd (Dt w3 B P R s now 0 (.ok j1) ns own):=wO.o;obtain⟨hj1,acW⟩:=Hu.o j1 rfl;obtain⟨x1,x2,N,cc,O,oc,xs,ks,x3,x4,x5,x6⟩:=HD3.o;obtain⟨-,-,c2,-,c4,c5,-,-,-⟩:=x6.2.cells;have Dz:Hd (∀n,Calls prog 14 #[.slice (some ⟨N,0,none⟩) ns.length cc,.int .i64 (now:Nat),.string ⟨k.toArray⟩] (w3.drewN n) fun e w'=>e=.returned (.int .i64 (fB ns now k))/\w'=w3.drewN n):=fun n=>Gj (w3.drewN n) B P ns _ own N cc _ xs ks now k (x5.gb (au (ak w3 none) n)) zC.o.1 zC.o.2.2.1 (by omega)
   have CF:Hd (∀w,Dt w B P R s now 0 (.ok j1) ns own->Calls prog 82 #[.pointer (some ⟨R,0,none⟩),.int .i64 5,.int .i64 (i:Nat)] w fun e w'=>e=.returned (.tuple #[])/\Dt w' B P R s now 0 (.error (5,i)) ns own/\DFr B P w w'):=fun w h=>xW B P R s now 0 ns own j1 w h 5 (by decide) i
   have hbl:=jA s.data.toList j1 (by omega);have CV:Hd (∀w,Dt w B P R s now 0 (.ok (bl s.data.toList j1)) ns own->Calls prog 83 #[.pointer (some ⟨R,0,none⟩),.int .i64 (now:Nat),.string ⟨k.toArray⟩,.int .i64 (i:Nat)] w (pM B P R s now 0 own (val s.data.toList (2*s.data.toList.length+2) (bl s.data.toList j1) now k i 0 ns) w)):=fun w h=>(acM _).1 B P R s own now _ now k i 0 ns w h hs zC.o.1 zC.o.2.1 zC.o.2.2.1 zC.o.2.2.2 (by omega) (by omega) (by omega)
   obtain⟨M,hM⟩:=zN (ns.length);rw[hM]at c2 Dz;have hMs:M<=700000:=by omega
   clear x1 x2 x3 x4 x5 x6 hM hbl hij hjs hj1 acW hsz
   cases hk:ah ns now k with
   | some q =>
    rw[Ho hk]at Dz;have aB:Hd (G=.error (5,i)):=Nw.o j1 q rfl hk;have hq0:(0:Int)<=(q:Int):=by omega
    have hq1:decide ((0:Int)<=(q:Int))=true:=by simp
    clear hk;go_wp2;go_quiet (first|(go_at_call 14;exact Calls.quiet_of_same (Dz.o _)));have aC:=HD3.o.drew nq;have dF:Hd (Dt (w3.drewN nq) B P R s now 0 (.ok j1) ns own):=aC.1;have bH:Hd (DFr B P w (w3.drewN nq)):=HF3.o.two aC.2;obtain⟨wA,hwA⟩:∃W,w3.drewN nq=W:=⟨_,rfl⟩;rw[hwA]at dF bH ⊢;clear hwA aC c2 c4 c5;go_wp2_with (first|(go_at_call 82;refine(CF.o _ dF.o).mono ?_;rintro e w4 ⟨rfl,hd4,hf4⟩)|(go_at_call 51;refine(CB.o (.error (5,i)) _ hd4.fq).mono ?_));rintro e w5 ⟨rfl,hd5,hf5⟩;have HD5:Hd (Fq w5 B P R s now 0 (5,i)):=hd5;have uC:Hd (DFr B P w w5):=(bH.o.two hf4).two hf5;obtain⟨b4,-,-⟩:=HD5.o.now;clear hd4 hf4 hd5 hf5;go_wp2_with (go_at_call 83;refine(Nu.o (5,i) k _ HD5.o).mono ?_;rintro e w6 ⟨rfl,hd6,qZ⟩);refine bodyPost_end (results_none rfl _ _ _) rfl ?_;rw[aB.o];exact⟨rfl,fun d hh=>(by cases hh),fun c' hh=>(by cases hh;exact⟨now,hd6⟩),uC.o.two qZ⟩
   | none =>
    rw[Hm hk]at Dz;have aB:Hd (G=Hr own now (val s.data.toList (2*s.data.toList.length+2) (bl s.data.toList j1) now k i 0 ns)):=Ny.o j1 rfl hk;obtain⟨V,hV⟩:=zN (val s.data.toList (2*s.data.toList.length+2) (bl s.data.toList j1) now k i 0 ns);rw[hV]at aB CV;clear hk hV;go_wp2;go_quiet (first|(go_at_call 14;exact Calls.quiet_of_same (Dz.o _)));have aC:=HD3.o.drew nq;have dF:Hd (Dq (w3.drewN nq) B P R s now 0 (.ok j1) ns own):=aC.1;have bH:Hd (DFr B P w (w3.drewN nq)):=HF3.o.two aC.2;obtain⟨wA,hwA⟩:∃W,w3.drewN nq=W:=⟨_,rfl⟩;rw[hwA]at dF bH ⊢;clear hwA aC c2 c4 c5;go_wp2_with (go_at_call 51;refine(CB.o (.ok j1) _ dF.o).mono ?_);rintro e w5 ⟨rfl,hd5,hf5⟩;have HD5:Hd (Dt w5 B P R s now 0 (.ok (bl s.data.toList j1)) ns own):=hd5;have uC:Hd (DFr B P w w5):=bH.o.two hf5;obtain⟨-,-,-,-,b4,-,-⟩:=HD5.o.cells;clear hd5 hf5
    go_wp2_with (go_at_call 83;refine(CV.o _ HD5.o).mono ?_;rintro e w6 ⟨rfl,a1,a2,qZ⟩);refine bodyPost_end (results_none rfl _ _ _) rfl ?_;rw[aB.o];refine⟨rfl,fun d hh=>?_,fun c' hh=>?_,uC.o.two qZ⟩
    ·cases V with
     | error e=>cases hh
     | ok r =>
      obtain⟨j2,ns2⟩:=r;have e1:(Except.ok ⟨j2,ns2,own,now⟩:Rs Sd)=.ok d:=hh;injection e1 with e1
      subst e1;exact a1 j2 ns2 rfl
    ·cases V with
     | error e =>
      have e1:(Except.error e:Rs Sd)=.error c':=hh;injection e1 with e1
      subst e1;exact⟨now,a2 e rfl⟩
     | ok r=>cases hh
end Go.Proofs.YtnnbgjaphfhibaaGreatDoor
