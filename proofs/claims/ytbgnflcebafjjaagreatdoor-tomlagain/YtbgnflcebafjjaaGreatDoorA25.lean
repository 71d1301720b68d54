import Derived.Test.YtbgnflcebafjjaaGreatDoorA24
namespace Go.Proofs.YtbgnflcebafjjaaGreatDoor
open Go.RowKit Go.Maps Go.WideMaps Go.Joins
set_option linter.unusedVariables false
def lh (l:List UInt8) (f j up d:Nat) (ns:List Tn):Rs (Nat × List Tn) :=
 if nx l j=93 then .ok (j+1,ns)
 else match val l f j up [] j d ns with
  | .error e=>.error e
  | .ok (j1,ns1)=>match gap l (l.length+1) j1 with
   | .error e=>.error e
   | .ok j2=>if nx l j2=44 then lst l f (j2+1) up d ns1 else if nx l j2=93 then .ok (j2+1,ns1) else .error (2,j2)
theorem lst_lh (l:List UInt8) (f i up d:Nat) (ns:List Tn):lst l (f+1) i up d ns=(gap l (l.length+1) i).bind fun j=>lh l f j up d ns:=by
 rw [lst_step]
 cases gap l (l.length+1) i with
 | error e=>rfl
 | ok j=>rfl
def lb (l:List UInt8) (f up d:Nat) (ns:List Tn) (q:Rs Nat):Rs (Nat × List Tn):=q.bind fun j2=>if nx l j2=44 then lst l f (j2+1) up d ns else if nx l j2=93 then .ok (j2+1,ns) else .error (2,j2)
theorem lh_go (l:List UInt8) (f j up d:Nat) (ns:List Tn) (h:¬ nx l j=93):lh l f j up d ns=match val l f j up [] j d ns with | .error e=>.error e | .ok (j1,ns1)=>lb l f up d ns1 (gap l (l.length+1) j1):=by
 unfold lh lb
 rw [if_neg h]
 cases val l f j up [] j d ns with
 | error e=>rfl
 | ok q =>
  obtain ⟨j1,ns1⟩:=q
  simp only []
  cases gap l (l.length+1) j1 <;> rfl
def lv (l:List UInt8) (f up d:Nat):Rs (Nat × List Tn)->Rs (Nat × List Tn)
 | .error e=>.error e
 | .ok (j1,ns1)=>lb l f up d ns1 (gap l (l.length+1) j1)
theorem lh_lv (l:List UInt8) (f j up d:Nat) (ns:List Tn) (h:¬ nx l j=93):lh l f j up d ns=lv l f up d (val l f j up [] j d ns):=by
 rw [lh_go l f j up d ns h]
 cases val l f j up [] j d ns <;> rfl
theorem lb_end (l:List UInt8) (f up d:Nat) (ns:List Tn) (j:Nat) (h:nx l j=93):lb l f up d ns (.ok j)=.ok (j+1,ns):=by
 show (if _ then _ else _)=_
 rw [if_neg (by rw [h];decide),if_pos h]
theorem lb_bad (l:List UInt8) (f up d:Nat) (ns:List Tn) (j:Nat) (h:¬ nx l j=93) (h2:¬ nx l j=44):lb l f up d ns (.ok j)=.error (2,j):=by
 show (if _ then _ else _)=_
 rw [if_neg h2,if_neg h]
theorem lb_more (l:List UInt8) (f up d:Nat) (ns:List Tn) (j:Nat) (h2:nx l j=44):lb l (f+1) up d ns (.ok j)=(gap l (l.length+1) (j+1)).bind fun j=>lh l f j up d ns:=by
 show (if _ then _ else _)=_
 rw [if_pos h2,lst_lh]
theorem lst_len (l:List UInt8) (own:List Nat) (f i up d:Nat) (k:List UInt8) (p:Nat) (ns:List Tn) (j:Nat) (ns':List Tn) (hi:i<=l.length) (W:WF ns own) (V:WT ns) (hu:up < ns.length) (h2:¬ kdAt ns up=2) (h:val l f i up k p d ns=.ok (j,ns')):Ad ns ns' own i j l.length:=(val_lst_ok l own f).1 i up k p d ns j ns' hi W V hu h2 h
theorem ls_shut (l:List UInt8) (f up d:Nat) (ns:List Tn) (q:Rs Nat) (G:Rs (Nat × List Tn)) (hG:lb l f up d ns q=G) (h:isQ l q 93=true):∃j,q=.ok j/\lh l f j up d ns=G:=by
 match q,hG,h with
 | .error e,_,h=>cases h
 | .ok j,hG,h =>
  have hx:=of_decide_eq_true h
  refine ⟨j,rfl,?_⟩
  rw [<-hG,lb_end l f up d ns j hx]
  unfold lh
  rw [if_pos hx]
theorem ls_next (l:List UInt8) (f up d:Nat) (ns:List Tn) (q:Rs Nat) (G:Rs (Nat × List Tn)) (hG:lb l (f+1) up d ns q=G) (h:isQ l q 93=false) (hq:∀j,q=.ok j->j<=l.length):(∀j4,((q.bind fun i=>must l i 44).bind (gap l (l.length+1)))=.ok j4->lh l f j4 up d ns=G/\j4<=l.length/\∃j,q=.ok j/\j+1<=j4)/\(∀c,((q.bind fun i=>must l i 44).bind (gap l (l.length+1)))=.error c->G=.error c):=by
 match q,hG,h,hq with
 | .error e,hG,_,_=>exact ⟨fun j4 hh=>(by cases hh),fun c hh=>(by have hh:(Except.error e:Rs Nat)=.error c:=hh;injection hh with hh;subst hh;exact hG.symm)⟩
 | .ok j,hG,h,hq =>
  have hx:=of_decide_eq_false h
  by_cases h44:nx l j=44
  ·rw [lb_more l f up d ns j h44] at hG
   have hlt:=nx_lt (l:=l) (i:=j) (by omega)
   have e:((Except.bind (.ok j) fun i=>must l i 44:Rs Nat).bind (gap l (l.length+1)))=gap l (l.length+1) (j+1):=by
    show (Except.bind (must l j 44) _)=_
    unfold must
    rw [if_pos h44]
    rfl
   rw [e]
   refine ⟨fun j4 hh=>?_,fun c hh=>?_⟩
   ·rw [hh] at hG
    have:=gap_ok l _ (j+1) j4 (by omega) hh
    exact ⟨hG,this.2,j,rfl,this.1⟩
   ·rw [hh] at hG
    exact hG.symm
  ·have e:((Except.bind (.ok j) fun i=>must l i 44:Rs Nat).bind (gap l (l.length+1)))=.error (2,j):=by
    show (Except.bind (must l j 44) _)=_
    unfold must
    rw [if_neg h44]
    rfl
   rw [e]
   rw [lb_bad l (f+1) up d ns j hx h44] at hG
   exact ⟨fun j4 hh=>(by cases hh),fun c hh=>(by injection hh with hh;subst hh;exact hG.symm)⟩
structure Ls (w:World) (B P R:Nat) (s:ByteArray) (now de:Nat) (q:Rs Nat) (ns:List Tn) (own:List Nat) (f up:Nat) (G:Rs (Nat × List Tn)):Prop where
 dq:Dq w B P R s now de q ns own
 ok:∀j,q=.ok j->lh s.data.toList f j up de ns=G/\WF ns own/\WT ns/\up < ns.length/\¬ kdAt ns up=2/\ns.length+(s.size - j)<=700000/\2 * (s.size - j)+1<=f/\j<=s.size
 er:∀c,q=.error c->G=.error c
theorem dq_ok {w:World} {B P R:Nat} {s:ByteArray} {now de j:Nat} {ns:List Tn} {own:List Nat} (h:Dt w B P R s now de (.ok j) ns own):dM w R s=s.size - j+1:=by
 obtain ⟨h1,h2,N,c,O,oc,xs,ks,h3,h4,h5,h6⟩:=h
 exact dM_ok h6.2
theorem fq_no {w:World} {B P R:Nat} {s:ByteArray} {now de:Nat} {c:Int × Nat} (h:Fq w B P R s now de c):dM w R s=0:=by
 obtain ⟨L,O,⟨h1,j,h2,h3⟩,-⟩:=h
 exact dM_no h3 h1
theorem Dq.setD {w:World} {B P R:Nat} {s:ByteArray} {now de:Nat} {q:Rs Nat} {ns:List Tn} {own:List Nat} (h:Dq w B P R s now de q ns own) (m:Nat):Dq (w.setCell ⟨R,7,none⟩ (.int .i64 (m:Nat))) B P R s now m q ns own/\DFr B P w (w.setCell ⟨R,7,none⟩ (.int .i64 (m:Nat))):=by
 match q,h with
 | .error e,⟨L,O,h1,h2,h3,h4⟩=>exact ⟨⟨L,O,h1.setD m,h2,h3,by simpa [World.setCell] using h4⟩,dfr_R h1 h2 h3 h4 (gb_set (gb_refl w (some R)) 7 _)⟩
 | .ok i,h =>
  obtain ⟨h1,h2,N,c,O,oc,xs,ks,h3,h4,h5,h6⟩:=h
  exact ⟨⟨h1,h2,N,c,O,oc,xs,ks,h3,h4,h5.keepR h6.2 (gb_set (gb_refl w (some R)) 7 _),h6.setD m⟩,dfr_R h6 h1 h2 h5.hP (gb_set (gb_refl w (some R)) 7 _)⟩
def okB:Rs Nat->Bool
 | .ok _=>true
 | .error _=>false
theorem Dq.cells {w:World} {B P R:Nat} {s:ByteArray} {now de:Nat} {q:Rs Nat} {ns:List Tn} {own:List Nat} (h:Dq w B P R s now de q ns own):w.cell? ⟨R,7,none⟩=some (.int .i64 (de:Nat))/\w.frozen? ⟨R,7,none⟩=false/\∃er:Int,w.cell? ⟨R,5,none⟩=some (.int .i64 er)/\(er == 0)=okB q:=by
 match q,h with
 | .error e,⟨L,O,⟨h1,j,h2,h3⟩,_⟩ =>
  obtain ⟨c0,c1,c2,c3,c4,c5,c6,c7,cf⟩:=h3.cells
  exact ⟨c7,cf 7,e.1,c5,by show _=false;simpa using h1⟩
 | .ok i,h =>
  obtain ⟨h1,h2,N,c,O,oc,xs,ks,h3,h4,h5,h6⟩:=h
  obtain ⟨c0,c1,c2,c3,c4,c5,c6,c7,cf⟩:=h6.2.cells
  exact ⟨c7,cf 7,0,c5,rfl⟩
set_option maxRecDepth 100000 in
set_option maxHeartbeats 6400000 in
theorem dLst_of (F:Nat) (CV:∀f,f < F->DvC f):DlC F:=fun B P R s own now i up k p d ns w h hs hx W V hu hk2 hd hsz hf=>by
 have hl:s.data.toList.length=s.size:=by simp
 obtain ⟨c0,c1,c5,c7,-,hi,cf⟩:=h.cells
 have cf7:=cf 7
 have hlt:i < s.size:=by have:=nx_lt (l:=s.data.toList) (i:=i) (by omega);omega
 have HD:Hid (Dt w B P R s now d (.ok i) ns own):=h
 by_cases h8:d=8
 ·rw [if_pos h8]
  have h8I:(8:Int)<=(d:Int):=by omega
  have CF:Hid (Calls Tryz.prog 55 #[.pointer (some ⟨R,0,none⟩),.int .i64 4,.int .i64 (i:Nat)] w fun e w'=>e=.returned (.tuple #[])/\Dt w' B P R s now d (.error (4,i)) ns own/\DFr B P w w'):=qFail B P R s now d ns own i w h 4 (by decide) i
  clear h h8 W V hk2 hx CV cf
  go_enter Tryz.func83,Tryz.ntmps83
  go_wp2_with (first | (go_at_call 55;refine CF.out.mono ?_;rintro e w2 ⟨rfl,hd2,hf2⟩))
  refine bodyPost_ret (results_none rfl _ _ _) rfl ?_
  exact ⟨rfl,fun j ns' hh=>(by cases hh),fun c hh=>(by cases hh;exact hd2.fq),hf2⟩
 ·rw [if_neg h8]
  have h8I:(d:Int) < 8:=by omega
  obtain ⟨f,rfl⟩:∃f,F=f+1:=⟨F - 1,by omega⟩
  have A:=ad_one (i:=i) (j:=i+1) (n:=s.data.toList.length) (x:=⟨1,k,[],0,[],p⟩) W V hu hk2 rfl (fun e=>absurd (show (1:Int)=2 from e) (by decide)) (by omega) (by omega)
  have hkd:¬ kdAt (addN ns up ⟨1,k,[],0,[],p⟩) ns.length=2:=by rw [kdAt_addN ns up _ hu,if_pos rfl];exact fun e=>absurd (show (1:Int)=2 from e) (by decide)
  have hln:(addN ns up ⟨1,k,[],0,[],p⟩).length=ns.length+1:=addN_len _ _ _
  obtain ⟨M,hM⟩:∃M,addN ns up ⟨1,k,[],0,[],p⟩=M:=⟨_,rfl⟩
  obtain ⟨u,hu'⟩:∃u,ns.length=u:=⟨_,rfl⟩
  have CA:Hid (∀w,Dt w B P R s now (d+1) (.ok (i+1)) ns own->Calls Tryz.prog 17 #[.pointer (some ⟨R,0,none⟩),.int .i64 (up:Nat),.agg #[.int .i64 1,.string ⟨k.toArray⟩,.string ⟨#[]⟩,.int .i64 0,.slice none 0 0,.int .i64 (p:Nat)]] w fun e w'=>e=.returned (.int .i64 (u:Nat))/\Dt w' B P R s now (d+1) (.ok (i+1)) M own/\DFr B P w w'):=fun w h=>by
   rw [<-hM,<-hu']
   exact dAdd_any B P R s now (d+1) (.ok (i+1)) ns own up 1 0 k [] p w h W hu (by omega)
  rw [hM] at A hkd hln ⊢
  have HWF:Hid (WF M own/\WT M):=⟨A.wf,A.wt⟩
  rw [lst_lh,hu']
  rw [hu'] at hkd hln
  obtain ⟨G,hG⟩:∃G,((gap s.data.toList (s.data.toList.length+1) (i+1)).bind fun j=>lh s.data.toList f j u (d+1) M)=G:=⟨_,rfl⟩
  have HG0:Hid (((gap s.data.toList (s.data.toList.length+1) (i+1)).bind fun j=>lh s.data.toList f j u (d+1) M)=G):=hG
  rw [hG]
  have HGL:Hid (∀i j,i<=s.size->gap s.data.toList (s.data.toList.length+1) i=.ok j->i<=j/\j<=s.size):=fun i j hi h=>by have:=gap_ok s.data.toList _ i j (by omega) h;omega
  have HMU:Hid (must s.data.toList i 91=.ok (i+1)):=by show _=_;unfold must;rw [if_pos hx]
  have CM:Hid (∀c,0<=c->∀(q:Rs Nat) (N:List Tn) w,Dq w B P R s now (d+1) q N own->Calls Tryz.prog 31 #[.pointer (some ⟨R,0,none⟩),.int .u8 c] w fun e w'=>e=.returned (.tuple #[])/\Dq w' B P R s now (d+1) (q.bind fun i=>must s.data.toList i c) N own/\DFr B P w w'):=fun c hc q N w h=>qMust B P R s now (d+1) N own q w h hs c hc
  have CM91:Hid (∀w,Dq w B P R s now (d+1) (.ok i) ns own->Calls Tryz.prog 31 #[.pointer (some ⟨R,0,none⟩),.int .u8 91] w fun e w'=>e=.returned (.tuple #[])/\Dq w' B P R s now (d+1) (.ok (i+1)) ns own/\DFr B P w w'):=fun w h=>by
   have:=CM.out 91 (by decide) (.ok i) ns w h
   rw [show (Except.bind (.ok i) fun i=>must s.data.toList i 91:Rs Nat)=must s.data.toList i 91 from rfl,HMU.out] at this
   exact this
  have CSp:Hid (∀(q:Rs Nat) (N:List Tn) w,Dq w B P R s now (d+1) q N own->Calls Tryz.prog 109 #[.pointer (some ⟨R,0,none⟩)] w fun e w'=>e=.returned (.tuple #[])/\Dq w' B P R s now (d+1) (q.bind (gap s.data.toList (s.data.toList.length+1))) N own/\DFr B P w w'):=fun q N w h=>qSpace B P R s now (d+1) N own q w h hs
  have CI:Hid (∀(q:Rs Nat) (N:List Tn) w,Dq w B P R s now (d+1) q N own->Calls Tryz.prog 27 #[.pointer (some ⟨R,0,none⟩),.int .u8 93] w fun e w'=>e=.returned (.bool (isQ s.data.toList q 93))/\Dq w' B P R s now (d+1) q N own/\DFr B P w w'):=fun q N w h=>qIs B P R s now (d+1) N own q w h hs 93 (by decide)
  have CVf:Hid (∀f',f' < f+1->∀(j:Nat) (N:List Tn) w,Dt w B P R s now (d+1) (.ok j) N own->WF N own->WT N->u < N.length->¬ kdAt N u=2->N.length+(s.size - j)<=700000->2 * (s.size - j)+1<=f'->Calls Tryz.prog 57 #[.pointer (some ⟨R,0,none⟩),.int .i64 (u:Nat),.string ⟨#[]⟩,.int .i64 (j:Nat)] w (DvPost B P R s now (d+1) own (val s.data.toList f' j u [] j (d+1) N) w)):=fun f' hf' j N w h a b c e g i=>CV f' hf' B P R s own now j u [] j (d+1) N w h hs a b c e (by omega) g i
  have HAD:Hid (∀f' j N j1 N1,j<=s.size->WF N own->WT N->u < N.length->¬ kdAt N u=2->val s.data.toList f' j u [] j (d+1) N=.ok (j1,N1)->Ad N N1 own j j1 s.size):=fun f' j N j1 N1 a b c e g h=>by have:=lst_len s.data.toList own f' j u (d+1) [] j N j1 N1 (by omega) b c e g h;rw [hl] at this;exact this
  have hS:=Dq.setD (q:=.ok i) h (d+1)
  have HS1:Hid (Dq (w.setCell ⟨R,7,none⟩ (.int .i64 ((d:Int)+1))) B P R s now (d+1) (.ok i) ns own):=hS.1
  have HF1:Hid (DFr B P w (w.setCell ⟨R,7,none⟩ (.int .i64 ((d:Int)+1)))):=hS.2
  have hfu:u < M.length:=by omega
  have hln2:M.length+(s.size - (i+1))<=700000:=by omega
  clear h hG hM A hS V W hk2 hx CV hu' cf
  go_enter Tryz.func83,Tryz.ntmps83
  go_wp2_with (first | (go_at_call 31;refine (CM91.out _ HS1.out).mono ?_;rintro e w2 ⟨rfl,hd2,hf2⟩) | (go_at_call 17;refine (CA.out _ hd2).mono ?_;rintro e w3 ⟨rfl,hd3,hf3⟩) | (go_at_call 109;refine (CSp.out (.ok (i+1)) M _ hd3).mono ?_))
  rintro e w4 ⟨rfl,hd4,hf4⟩
  have HF4:Hid (DFr B P w w4):=((HF1.out.two hf2).two hf3).two hf4
  have HL0:Hid (Ls w4 B P R s now (d+1) ((Except.ok (i+1)).bind (gap s.data.toList (s.data.toList.length+1))) M own f u G):=by
   refine ⟨hd4,fun j hj=>?_,fun c hc=>?_⟩
   ·have hj':gap s.data.toList (s.data.toList.length+1) (i+1)=.ok j:=hj
    have h0:=HG0.out
    rw [hj'] at h0
    have h1:=HGL.out (i+1) j (by omega) hj'
    exact ⟨h0,HWF.out.1,HWF.out.2,hfu,hkd,by omega,by omega,h1.2⟩
   ·have hj':gap s.data.toList (s.data.toList.length+1) (i+1)=.error c:=hc
    have h0:=HG0.out
    rw [hj'] at h0
    exact h0.symm
  obtain ⟨m,hm⟩:∃m,d+1=m:=⟨_,rfl⟩
  have hmd:(m:Int)<=8:=by omega
  have hm1:(1:Int)<=(m:Int):=by omega
  have HMD:Hid (d+1=m):=hm
  rw [hm] at HL0 CM CSp CI CVf HAD
  clear hd2 hd3 hd4 hf2 hf3 hf4 hm HS1 HF1 CA CM91 HG0 hkd hln HWF HMU HGL HD hfu hln2
  go_wp2
  go_loopw [] (fun wr=>∃(q:Rs Nat) (N:List Tn) (f':Nat),f' < f+1/\Ls wr B P R s now m q N own f' u G/\DFr B P w wr) (fun wr=>dM wr R s)
  case atStart=>exact ⟨_,_,f,by omega,HL0.out,HF4.out⟩
  case round =>
   obtain ⟨q,N,f',hf',hls,hfr⟩:=hrel
   have HFR:Hid (DFr B P w wr):=hfr
   have HDQ:Hid (Dq wr B P R s now m q N own):=hls.dq
   have HOK:Hid (∀j,q=.ok j->lh s.data.toList f' j u m N=G/\WF N own/\WT N/\u < N.length/\¬ kdAt N u=2/\N.length+(s.size - j)<=700000/\2 * (s.size - j)+1<=f'/\j<=s.size):=hls.ok
   have HER:Hid (∀c,q=.error c->G=.error c):=hls.er
   obtain ⟨-,-,er,c5',hz⟩:=hls.dq.cells
   have HZ:Hid ((er == 0)=okB q):=hz
   clear hls hfr hz
   match q,HDQ,HOK,HER,HZ with
   | .error c,HDQ,_,HER,HZ =>
    have HGG:Hid (G=.error c):=HER.out c rfl
    have hz':(er == 0)=false:=HZ.out
    go_wp2_with (first | (go_at_call 31;refine (CM.out 93 (by decide) (.error c) N _ HDQ.out).mono ?_;rintro e w5 ⟨rfl,hd5,hf5⟩;obtain ⟨k7,kf7,-⟩:=hd5.cells))
    have hS:=hd5.setD d
    have ecast:(.int .i64 ((m:Int) - 1):Value)=.int .i64 (d:Nat):=by have:=HMD.out;congr 1;omega
    refine bodyPost_end (results_none rfl _ _ _) rfl ?_
    rw [ecast,HGG.out]
    exact ⟨rfl,fun j ns' hh=>(by cases hh),fun c' hh=>(by injection hh with hh;subst hh;exact hS.1),(HFR.out.two hf5).two hS.2⟩
   | .ok j,HDQ,HOK,_,HZ =>
    have hz':(er == 0)=true:=HZ.out
    obtain ⟨a1,a2,a3,a4,a5,a6,a7,a8⟩:=HOK.out j rfl
    have HA1:Hid (lh s.data.toList f' j u m N=G):=a1
    have HM0:Hid (dM wr R s=s.size - j+1):=dq_ok HDQ.out
    have HAD1:Hid (∀j1 N1,val s.data.toList f' j u [] j m N=.ok (j1,N1)->Ad N N1 own j j1 s.size):=fun j1 N1 h=>HAD.out f' j N j1 N1 a8 a2 a3 a4 a5 h
    have CV1:Hid (∀w,Dt w B P R s now m (.ok j) N own->Calls Tryz.prog 57 #[.pointer (some ⟨R,0,none⟩),.int .i64 (u:Nat),.string ⟨#[]⟩,.int .i64 (j:Nat)] w (DvPost B P R s now m own (val s.data.toList f' j u [] j m N) w)):=fun w h=>CVf.out f' hf' j N w h a2 a3 a4 a5 a6 a7
    have CI1:Hid (∀w,Dq w B P R s now m (.ok j) N own->Calls Tryz.prog 27 #[.pointer (some ⟨R,0,none⟩),.int .u8 93] w fun e w'=>e=.returned (.bool (decide (nx s.data.toList j=93)))/\Dq w' B P R s now m (.ok j) N own/\DFr B P w w'):=fun w h=>CI.out (.ok j) N w h
    have HKD:Hid (¬ kdAt N u=2/\u < N.length):=⟨a5,a4⟩
    clear a1 a2 a3 a5
    by_cases h93:nx s.data.toList j=93
    ·rw [decide_eq_true h93] at CI1
     have HGG:Hid (G=.ok (j+1,N)):=by
      show G=_
      rw [<-HA1.out]
      unfold lh
      rw [if_pos h93]
     have HMU:Hid ((Except.bind (.ok j) fun i=>must s.data.toList i 93:Rs Nat)=.ok (j+1)):=by
      show must s.data.toList j 93=_
      unfold must;rw [if_pos h93]
     clear h93
     go_wp2_with (first | (go_at_call 27;refine (CI1.out _ HDQ.out).mono ?_;rintro e w5 ⟨rfl,hd5,hf5⟩) | (go_at_call 31;refine (CM.out 93 (by decide) (.ok j) N _ hd5).mono ?_;rintro e w6 ⟨rfl,hd6,hf6⟩;obtain ⟨k7,kf7,-⟩:=hd6.cells))
     rw [HMU.out] at hd6
     have hS:=hd6.setD d
     have ecast:(.int .i64 ((m:Int) - 1):Value)=.int .i64 (d:Nat):=by have:=HMD.out;congr 1;omega
     refine bodyPost_end (results_none rfl _ _ _) rfl ?_
     rw [ecast,HGG.out]
     exact ⟨rfl,fun j ns' hh=>(by cases hh;exact hS.1),fun c' hh=>(by cases hh),((HFR.out.two hf5).two hf6).two hS.2⟩
    ·rw [decide_eq_false h93] at CI1
     have HLV:Hid (lv s.data.toList f' u m (val s.data.toList f' j u [] j m N)=G):=(lh_lv s.data.toList f' j u m N h93).symm.trans HA1.out
     obtain ⟨V,hV⟩:∃V,val s.data.toList f' j u [] j m N=V:=⟨_,rfl⟩
     rw [hV] at CV1 HLV HAD1
     clear hV h93
     go_wp2_with (first | (go_at_call 27;refine (CI1.out _ HDQ.out).mono ?_;rintro e w5 ⟨rfl,hd5,hf5⟩;obtain ⟨-,g1,-,-,-,-,-⟩:=Dt.cells hd5) | (go_at_call 57;refine (CV1.out _ hd5).mono ?_))
     rintro e w6 ⟨rfl,h1,h2,hf6⟩
     have HF6:Hid (DFr B P w w6):=(HFR.out.two hf5).two hf6
     clear hd5 hf5 hf6 g1
     match V,h1,h2,HLV,HAD1 with
     | .error c,_,h2,HLV,_ =>
      have HD6:Hid (Dq w6 B P R s now m (.error c) N own):=h2 c rfl
      have HGG:Hid (G=.error c):=HLV.out.symm
      clear h1 h2
      go_wp2_with (first | (go_at_call 109;refine (CSp.out (.error c) N _ HD6.out).mono ?_))
      rintro e w7 ⟨rfl,hd7,hf7⟩
      have HD7:Hid (Dq w7 B P R s now m (.error c) N own):=hd7
      have HF7:Hid (DFr B P w w7):=HF6.out.two hf7
      clear hd7 hf7
      have CI2:Hid (∀w,Dq w B P R s now m (.error c) N own->Calls Tryz.prog 27 #[.pointer (some ⟨R,0,none⟩),.int .u8 93] w fun e w'=>e=.returned (.bool false)/\Dq w' B P R s now m (.error c) N own/\DFr B P w w'):=fun w h=>CI.out (.error c) N w h
      go_wp2_with (first | (go_at_call 27;refine (CI2.out _ HD7.out).mono ?_;rintro e w8 ⟨rfl,hd8,hf8⟩) | (go_at_call 31;refine (CM.out 44 (by decide) (.error c) N _ hd8).mono ?_;rintro e w9 ⟨rfl,hd9,hf9⟩) | (go_at_call 109;refine (CSp.out (.error c) N _ hd9).mono ?_;rintro e w10 ⟨rfl,hd10,hf10⟩))
      refine ⟨⟨.error c,N,f',hf',⟨hd10,fun j hj=>(by cases hj),fun c' hc=>(by injection hc with hc;subst hc;exact HGG.out)⟩,((HF7.out.two hf8).two hf9).two hf10⟩,?_⟩
      rw [HM0.out,fq_no hd10]
      omega
     | .ok (j1,N1),h1,_,HLV,HAD1 =>
      have HD6:Hid (Dq w6 B P R s now m (.ok j1) N1 own):=h1 j1 N1 rfl
      have AD:=HAD1.out j1 N1 rfl
      have HADD:Hid (Ad N N1 own j j1 s.size):=AD
      obtain ⟨g,rfl⟩:∃g,f'=g+1:=⟨f' - 1,by omega⟩
      have HLB:Hid (lb s.data.toList (g+1) u m N1 (gap s.data.toList (s.data.toList.length+1) j1)=G):=HLV.out
      have HGO:Hid (∀j2,gap s.data.toList (s.data.toList.length+1) j1=.ok j2->j1<=j2/\j2<=s.size):=fun j2 hh=>by
       have e1:=AD.en
       have:=gap_ok s.data.toList _ j1 j2 (by omega) hh
       omega
      have HKN:Hid (¬ kdAt N1 u=2/\u < N1.length):=⟨by rw [AD.kd u HKD.out.2];exact HKD.out.1,by have:=AD.lo;have:=HKD.out.2;omega⟩
      clear h1 AD
      go_wp2_with (first | (go_at_call 109;refine (CSp.out (.ok j1) N1 _ HD6.out).mono ?_))
      rintro e w7 ⟨rfl,hd7,hf7⟩
      have HD7:Hid (Dq w7 B P R s now m (gap s.data.toList (s.data.toList.length+1) j1) N1 own):=hd7
      have HF7:Hid (DFr B P w w7):=HF6.out.two hf7
      clear hd7 hf7
      have hs1:=ls_shut s.data.toList (g+1) u m N1 _ G HLB.out
      have hs2:=ls_next s.data.toList g u m N1 _ G HLB.out
      obtain ⟨q2,hq2⟩:∃q2,gap s.data.toList (s.data.toList.length+1) j1=q2:=⟨_,rfl⟩
      rw [hq2] at HD7 HGO hs1 hs2
      have CI2:Hid (∀w,Dq w B P R s now m q2 N1 own->Calls Tryz.prog 27 #[.pointer (some ⟨R,0,none⟩),.int .u8 93] w fun e w'=>e=.returned (.bool (isQ s.data.toList q2 93))/\Dq w' B P R s now m q2 N1 own/\DFr B P w w'):=fun w h=>CI.out q2 N1 w h
      obtain ⟨b,hb⟩:∃b,isQ s.data.toList q2 93=b:=⟨_,rfl⟩
      rw [hb] at CI2
      cases b with
      | true =>
       obtain ⟨j2,hj2,hlh⟩:=hs1 hb
       subst hj2
       have HJ2:=HGO.out j2 rfl
       have HLH:Hid (lh s.data.toList (g+1) j2 u m N1=G):=hlh
       have hj12:j1<=j2:=HJ2.1
       have hj2s:j2<=s.size:=HJ2.2
       clear hs1 hs2 hb hlh hq2 HJ2
       go_wp2_with (first | (go_at_call 27;refine (CI2.out _ HD7.out).mono ?_;rintro e w8 ⟨rfl,hd8,hf8⟩))
       have e1:=HADD.out.hi
       have e2:=HADD.out.fw
       refine ⟨⟨.ok j2,N1,g+1,hf',⟨hd8,fun j hj=>(by cases hj;exact ⟨HLH.out,HADD.out.wf,HADD.out.wt,HKN.out.2,HKN.out.1,by omega,by omega,hj2s⟩),fun c' hc=>(by cases hc)⟩,HF7.out.two hf8⟩,?_⟩
       rw [HM0.out,dq_ok hd8]
       omega
      | false =>
       obtain ⟨hn1,hn2⟩:=hs2 hb (fun j hj=>by have:=(HGO.out j hj).2;omega)
       have HN1:Hid (∀j4,((q2.bind fun i=>must s.data.toList i 44).bind (gap s.data.toList (s.data.toList.length+1)))=.ok j4->lh s.data.toList g j4 u m N1=G/\j4<=s.data.toList.length/\∃j,q2=.ok j/\j+1<=j4):=hn1
       have HN2:Hid (∀c,((q2.bind fun i=>must s.data.toList i 44).bind (gap s.data.toList (s.data.toList.length+1)))=.error c->G=.error c):=hn2
       clear hs1 hs2 hb hn1 hn2 hq2
       go_wp2_with (first | (go_at_call 27;refine (CI2.out _ HD7.out).mono ?_;rintro e w8 ⟨rfl,hd8,hf8⟩) | (go_at_call 31;refine (CM.out 44 (by decide) q2 N1 _ hd8).mono ?_;rintro e w9 ⟨rfl,hd9,hf9⟩) | (go_at_call 109;refine (CSp.out _ N1 _ hd9).mono ?_;rintro e w10 ⟨rfl,hd10,hf10⟩))
       have e1:=HADD.out.hi
       have e2:=HADD.out.fw
       refine ⟨⟨_,N1,g,by omega,⟨hd10,fun j4 hj=>?_,fun c' hc=>HN2.out c' hc⟩,((HF7.out.two hf8).two hf9).two hf10⟩,?_⟩
       ·obtain ⟨x1,x2,j2,x3,x4⟩:=HN1.out j4 hj
        have x5:=HGO.out j2 x3
        exact ⟨x1,HADD.out.wf,HADD.out.wt,HKN.out.2,HKN.out.1,by omega,by omega,by omega⟩
       ·rw [HM0.out]
        obtain ⟨q4,hq4⟩:∃q4,((q2.bind fun i=>must s.data.toList i 44).bind (gap s.data.toList (s.data.toList.length+1)))=q4:=⟨_,rfl⟩
        rw [hq4] at hd10
        match q4,hq4,hd10 with
        | .error c,_,hd10=>rw [fq_no hd10];omega
        | .ok j4,hq4,hd10 =>
         obtain ⟨x1,x2,j2,x3,x4⟩:=HN1.out j4 hq4
         have x5:=HGO.out j2 x3
         rw [dq_ok hd10]
         omega
theorem dVL_any:∀f,DvC f/\DlC f:=by
 intro f
 induction f using Nat.strongRecOn with
 | ind f ih =>
  have hl:DlC f:=dLst_of f fun g hg=>(ih g hg).1
  refine ⟨?_,hl⟩
  cases f with
  | zero=>exact fun B P R s own now i up k p d ns w h hs W V hu hk2 hd hsz hf=>absurd hf (by omega)
  | succ f=>exact dVal_of f (ih f (by omega)).2
def SpPost (B P R:Nat) (s:ByteArray) (now de:Nat) (q:Rs Nat) (ns:List Tn) (own:List Nat) (g:Rs (Nat × List Tn)) (w:World) (e:Ending) (w':World):Prop:=(∀n ns',g=.ok (n,ns')->e=.returned (.int .i64 (n:Nat))/\Dt w' B P R s now de q ns' own)/\(∀c,g=.error c->e=.returned (.int .i64 (-1))/\∃ns',Dt w' B P R s now de q ns' own)/\DFr B P w w'
theorem Dt.same {w:World} {B P R:Nat} {s:ByteArray} {now de:Nat} {q:Rs Nat} {ns:List Tn} {own:List Nat} (h:Dt w B P R s now de q ns own):DFr B P w w:=DFr.refl w
theorem kidI_none {ns:List Tn} {t:Nat} {k:List UInt8} (h:kidO ns t k=none):kidI ns t k=-1:=by unfold kidI;rw [h]
theorem kidI_some {ns:List Tn} {t q:Nat} {k:List UInt8} (h:kidO ns t k=some q):kidI ns t k=(q:Int):=by unfold kidI;rw [h]
set_option maxRecDepth 100000 in
set_option maxHeartbeats 3200000 in
theorem dStep_any (B P R:Nat) (s:ByteArray) (now de j:Nat) (ns:List Tn) (own:List Nat) (t:Nat) (k:List UInt8) (p:Nat) (w:World) (h:Dt w B P R s now de (.ok j) ns own) (W:WF ns own) (V:WT ns) (ht:t < ns.length) (hsz:ns.length<=1000000) :
  Calls Tryz.prog 53 #[.pointer (some ⟨R,0,none⟩),.int .i64 (t:Nat),.string ⟨k.toArray⟩,.int .i64 (p:Nat)] w (SpPost B P R s now de (.ok j) ns own (stp ns t k p) w):=by
 have HD:Hid (Dt w B P R s now de (.ok j) ns own):=h
 have CA:Hid (Calls Tryz.prog 17 #[.pointer (some ⟨R,0,none⟩),.int .i64 (t:Nat),.agg #[.int .i64 0,.string ⟨k.toArray⟩,.string ⟨#[]⟩,.int .i64 0,.slice none 0 0,.int .i64 (p:Nat)]] w (DaPost B P R s now de (.ok j) ns own (addN ns t ⟨0,k,[],0,[],p⟩) w)):=dAdd_any B P R s now de (.ok j) ns own t 0 0 k [] p w h W ht hsz
 obtain ⟨h1,h2,N,c,O,oc,xs,ks,h3,h4,h5,h6⟩:=h
 obtain ⟨-,-,c2,-,-,-,-,-,-⟩:=h6.2.cells
 have CK:Hid (Calls Tryz.prog 56 #[.slice (some ⟨N,0,none⟩) ns.length c,.int .i64 (t:Nat),.string ⟨k.toArray⟩] w fun e w'=>e=.returned (.int .i64 (kidI ns t k))/\w'=w):=dKid_any w B P ns _ own N c _ xs ks t k h5 W ht hsz
 obtain ⟨L,hL⟩:∃L,ns.length=L:=⟨_,rfl⟩
 have HL:Hid (ns.length=L):=hL
 cases hk:kidO ns t k with
 | none =>
  rw [kidI_none hk] at CK
  have HST:Hid (stp ns t k p=.ok (ns.length,addN ns t ⟨0,k,[],0,[],p⟩)):=by show _=_;unfold stp;rw [hk]
  rw [HST.out]
  rw [hL] at c2 CK
  clear h1 h2 h3 h4 h5 h6 W V hk hL
  go_enter Tryz.func53,Tryz.ntmps53
  go_wp2_with (first | (go_at_call 56;refine CK.out.mono ?_;rintro e w' ⟨rfl,rfl⟩) | (go_at_call 17;refine CA.out.mono ?_;rintro e w2 ⟨rfl,hd2,hf2⟩))
  refine bodyPost_ret (results_tmp (t:=8) rfl _ _ _) rfl ?_
  exact ⟨fun n ns' hh=>(by cases hh;exact ⟨rfl,hd2⟩),fun c hh=>(by cases hh),hf2⟩
 | some q =>
  rw [kidI_some hk] at CK
  obtain ⟨hm,-⟩:=kidO_mem hk
  have hq:q < ns.length:=W.lt t q hm
  obtain ⟨n0,-,-,-,n4,-,-⟩:=h5.node q hq
  have hkd:kdAt ns q=ns[q].kd:=by unfold kdAt;rw [List.getElem?_eq_getElem hq]
  have hqI:¬ (q:Int) < 0:=by omega
  have HST:Hid (stp ns t k p=if ns[q].kd=0 then .ok (q,ns) else if ns[q].kd=2 then .ok (ns[q].ks.getLastD 0,ns) else .error (5,p)):=by
   show _=_
   unfold stp
   rw [hk]
   simp only [hkd,List.getElem?_eq_getElem hq]
  have hqL:q < L:=by omega
  have hL1:L<=1000000:=by omega
  by_cases hz:ns[q].kd=0
  ·rw [HST.out,if_pos hz]
   rw [hz] at n0
   rw [hL] at c2 CK
   clear h1 h2 h3 h4 h5 h6 W V hk hm hkd HST hz n4 CA hL
   go_enter Tryz.func53,Tryz.ntmps53
   go_wp2_with (first | (go_at_call 56;refine CK.out.mono ?_;rintro e w' ⟨rfl,rfl⟩))
   refine bodyPost_ret (results_tmp (t:=8) rfl _ _ _) rfl ?_
   exact ⟨fun n ns' hh=>(by cases hh;exact ⟨rfl,HD.out⟩),fun c hh=>(by cases hh),DFr.refl _⟩
  ·have hbz:(ns[q].kd == 0)=false:=by simpa using hz
   by_cases hz2:ns[q].kd=2
   ·rw [HST.out,if_neg hz,if_pos hz2]
    have hne:ns[q].ks ≠ []:=by
     have:=(V q (by rw [hkd];exact hz2)).1
     unfold ksAt at this
     rw [List.getElem?_eq_getElem hq] at this
     exact this
    have hrow:=h5.kid q hq
    obtain ⟨o,cp,hv⟩:=own_slice hrow
    rw [hv] at n4 hrow
    have hlen:ns[q].ks.length<=1000000:=by have:=W.len q;unfold ksAt at this;rw [List.getElem?_eq_getElem hq] at this;simp only [] at this;omega
    have hpos:0 < ns[q].ks.length:=List.length_pos_iff.2 hne
    obtain ⟨g,cap,hvf,-,-⟩:=hrow.form hpos
    injection hvf with ho _ hcc
    subst ho
    have hlast:ns[q].ks[ns[q].ks.length - 1]?=some (ns[q].ks.getLastD 0):=by
     rw [<-List.getLast?_eq_getElem?]
     rw [List.getLast?_eq_some_getLast hne,List.getLastD_eq_getLast?,List.getLast?_eq_some_getLast hne]
     rfl
    have cg:=hrow.cells (g:=g) rfl (ns[q].ks.length - 1) (.int .i64 (ns[q].ks.getLastD 0:Nat)) (by rw [List.getElem?_map,hlast];rfl)
    rw [zero_off] at cg
    obtain ⟨M,hM⟩:∃M,ns[q].ks.length=M:=⟨_,rfl⟩
    obtain ⟨y,hy⟩:∃y,ns[q].ks.getLastD 0=y:=⟨_,rfl⟩
    obtain ⟨m,hm'⟩:∃m,M=m+1:=⟨M - 1,by omega⟩
    rw [hM,hm'] at n4 cg
    rw [hy] at cg ⊢
    rw [Nat.add_sub_cancel] at cg
    rw [hz2] at n0
    rw [hL] at c2 CK
    have hml:m<=1000000:=by omega
    clear h1 h2 h3 h4 h5 h6 W V hk hm hkd HST hz hz2 CA hne hrow hv hlen hpos hcc hlast hM hy hm' hbz hL
    go_enter Tryz.func53,Tryz.ntmps53
    go_wp2_with (first | (go_at_call 56;refine CK.out.mono ?_;rintro e w' ⟨rfl,rfl⟩))
    refine bodyPost_ret (results_tmp (t:=8) rfl _ _ _) rfl ?_
    exact ⟨fun n ns' hh=>(by cases hh;exact ⟨rfl,HD.out⟩),fun c hh=>(by cases hh),DFr.refl _⟩
   ·have hb2:(ns[q].kd == 2)=false:=by simpa using hz2
    rw [HST.out,if_neg hz,if_neg hz2]
    obtain ⟨v,hv⟩:∃v,ns[q].kd=v:=⟨_,rfl⟩
    rw [hv] at n0 hbz hb2
    rw [hL] at c2 CK
    clear h1 h2 h3 h4 h5 h6 W V hk hm hkd HST hz hz2 CA n4 hv hL
    go_enter Tryz.func53,Tryz.ntmps53
    go_wp2_with (first | (go_at_call 56;refine CK.out.mono ?_;rintro e w' ⟨rfl,rfl⟩))
    refine bodyPost_ret (results_tmp (t:=8) rfl _ _ _) rfl ?_
    exact ⟨fun n ns' hh=>(by cases hh),fun c hh=>⟨rfl,ns,HD.out⟩,DFr.refl _⟩
theorem Dt.parts {w:World} {B P R:Nat} {s:ByteArray} {now de j:Nat} {ns:List Tn} {own:List Nat} (h:Dt w B P R s now de (.ok j) ns own):∃N c O oc,w.cell? ⟨R,2,none⟩=some (.slice (some ⟨N,0,none⟩) ns.length c)/\w.cell? ⟨R,3,none⟩=some (.slice (some ⟨O,0,none⟩) ns.length oc)/\(∀q (hq:q < ns.length),w.cell? ⟨N,q * 6,none⟩=some (.int .i64 ns[q].kd))/\(∀q,q < ns.length->w.cell? ⟨O,q,none⟩=some (.bool (decide (q ∈ own))))/\∀t k,WF ns own->t < ns.length->ns.length<=1000000->Calls Tryz.prog 56 #[.slice (some ⟨N,0,none⟩) ns.length c,.int .i64 (t:Nat),.string ⟨k.toArray⟩] w fun e w'=>e=.returned (.int .i64 (kidI ns t k))/\w'=w:=by
 obtain ⟨h1,h2,N,c,O,oc,xs,ks,h3,h4,h5,h6⟩:=h
 obtain ⟨-,-,c2,c3,-,-,-,-,-⟩:=h6.2.cells
 exact ⟨N,c,O,oc,c2,c3,fun q hq=>(h5.node q hq).1,fun q hq=>(h5.flagAt q hq).1,fun t k W ht hs=>dKid_any w B P ns _ own N c _ xs ks t k h5 W ht hs⟩
theorem kd_last (ns:List Tn) (t:Nat) (x:Tn) (ht:t < ns.length) (hq:ns.length < (addN ns t x).length):((addN ns t x)[ns.length]'hq).kd=x.kd:=by
 have:=kdAt_addN ns t x ht ns.length
 rw [if_pos rfl] at this
 unfold kdAt at this
 rw [List.getElem?_eq_getElem hq] at this
 exact this
set_option maxRecDepth 100000 in
set_option maxHeartbeats 3200000 in
theorem dLast_many (B P R:Nat) (s:ByteArray) (now de j:Nat) (ns:List Tn) (own:List Nat) (t:Nat) (k:List UInt8) (p:Nat) (w:World) (h:Dt w B P R s now de (.ok j) ns own) (W:WF ns own) (ht:t < ns.length) (hsz:ns.length<=900000) :
  Calls Tryz.prog 54 #[.pointer (some ⟨R,0,none⟩),.int .i64 (t:Nat),.string ⟨k.toArray⟩,.int .i64 (p:Nat),.bool true] w (SpPost B P R s now de (.ok j) ns own (endL ns t k p) w):=by
 have HD:Hid (Dt w B P R s now de (.ok j) ns own):=h
 obtain ⟨N,c,O,oc,c2,c3,hkd,hfl,hck⟩:=h.parts
 have CK:Hid (Calls Tryz.prog 56 #[.slice (some ⟨N,0,none⟩) ns.length c,.int .i64 (t:Nat),.string ⟨k.toArray⟩] w fun e w'=>e=.returned (.int .i64 (kidI ns t k))/\w'=w):=hck t k W ht (by omega)
 cases hk:kidO ns t k with
 | none =>
  rw [kidI_none hk] at CK
  have HST:Hid (endL ns t k p=.ok (ns.length+1,addN (addN ns t ⟨2,k,[],0,[],p⟩) ns.length ⟨0,[],[],0,[],p⟩)):=by show _=_;unfold endL;rw [hk]
  rw [HST.out]
  have W1:=wf_add ns own t ⟨2,k,[],0,[],p⟩ rfl ht W
  have hl1:(addN ns t ⟨2,k,[],0,[],p⟩).length=ns.length+1:=addN_len _ _ _
  have hkl:=kd_last ns t ⟨2,k,[],0,[],p⟩ ht (by omega)
  obtain ⟨L,hL⟩:∃L,ns.length=L:=⟨_,rfl⟩
  obtain ⟨M,hM⟩:∃M,addN ns t ⟨2,k,[],0,[],p⟩=M:=⟨_,rfl⟩
  have CA:Hid (Calls Tryz.prog 17 #[.pointer (some ⟨R,0,none⟩),.int .i64 (t:Nat),.agg #[.int .i64 2,.string ⟨k.toArray⟩,.string ⟨#[]⟩,.int .i64 0,.slice none 0 0,.int .i64 (p:Nat)]] w fun e w'=>e=.returned (.int .i64 (L:Nat))/\Dt w' B P R s now de (.ok j) M own/\DFr B P w w'):=by
   rw [<-hM,<-hL]
   exact dAdd_any B P R s now de (.ok j) ns own t 2 0 k [] p w h W ht (by omega)
  rw [hM] at W1 hl1
  have hkM:∀(hq:L < M.length),(M[L]'hq).kd=2:=fun hq=>by
   have:=kd_last ns t ⟨2,k,[],0,[],p⟩ ht (by omega)
   subst hM hL
   exact this
  have CB:Hid (∀w,Dt w B P R s now de (.ok j) M own->Calls Tryz.prog 17 #[.pointer (some ⟨R,0,none⟩),.int .i64 (L:Nat),.agg #[.int .i64 0,.string ⟨#[]⟩,.string ⟨#[]⟩,.int .i64 0,.slice none 0 0,.int .i64 (p:Nat)]] w fun e w'=>e=.returned (.int .i64 ((L:Int)+1))/\Dt w' B P R s now de (.ok j) (addN M L ⟨0,[],[],0,[],p⟩) own/\DFr B P w w'):=fun w h=>by
   have:=dAdd_any B P R s now de (.ok j) M own L 0 0 [] [] p w h W1 (by omega) (by omega)
   refine this.mono ?_
   rintro e w' ⟨rfl,a,b⟩
   refine ⟨?_,a,b⟩
   rw [hl1,hL]
   rfl
  rw [hM]
  rw [hL] at c2 CK hl1 ⊢
  have HKM:Hid (∀(hq:L < M.length),(M[L]'hq).kd=2):=hkM
  have hMl:M.length=L+1:=hl1
  have hL9:L<=900000:=by omega
  have HPT:Hid (∀w',Dt w' B P R s now de (.ok j) M own->∃N1 c1,w'.cell? ⟨R,2,none⟩=some (.slice (some ⟨N1,0,none⟩) (L+1) c1)/\w'.cell? ⟨N1,L * 6,none⟩=some (.int .i64 2)):=fun w' hd=>by
   obtain ⟨N1,c1,O1,oc1,x1,x2,x3,-,-⟩:=hd.parts
   have hq:L < M.length:=by omega
   have x5:=x3 L hq
   rw [HKM.out hq] at x5
   rw [hMl] at x1
   exact ⟨N1,c1,x1,x5⟩
  clear h W hk HST hkl hkM hck hfl hkd hL hM W1 hl1 hMl ht hsz
  go_enter Tryz.func54,Tryz.ntmps54
  go_wp2_with (first | (go_at_call 56;refine CK.out.mono ?_;rintro e w' ⟨rfl,rfl⟩) | (go_at_call 17;refine CA.out.mono ?_))
  rintro e w2 ⟨rfl,hd2,hf2⟩
  obtain ⟨N1,c1,x1,x5⟩:=HPT.out w2 hd2
  have HD2:Hid (Dt w2 B P R s now de (.ok j) M own):=hd2
  have HF2:Hid (DFr B P w' w2):=hf2
  clear hd2 hf2 c2 c3
  go_wp2_with (first | (go_at_call 17;refine (CB.out _ HD2.out).mono ?_;rintro e w3 ⟨rfl,hd3,hf3⟩))
  refine bodyPost_ret (results_tmp (t:=10) rfl _ _ _) rfl ?_
  exact ⟨fun n ns' hh=>(by cases hh;exact ⟨rfl,hd3⟩),fun c hh=>(by cases hh),HF2.out.two hf3⟩
 | some q =>
  rw [kidI_some hk] at CK
  obtain ⟨hm,-⟩:=kidO_mem hk
  have hq:q < ns.length:=W.lt t q hm
  have n0:=hkd q hq
  have hkq:kdAt ns q=ns[q].kd:=by unfold kdAt;rw [List.getElem?_eq_getElem hq]
  have hqI:¬ (q:Int) < 0:=by omega
  have HST:Hid (endL ns t k p=if ns[q].kd=2 then .ok (ns.length,addN ns q ⟨0,[],[],0,[],p⟩) else .error (5,p)):=by
   show _=_
   unfold endL
   rw [hk]
   simp only [hkq]
  rw [HST.out]
  obtain ⟨L,hL⟩:∃L,ns.length=L:=⟨_,rfl⟩
  have hqL:q < L:=by omega
  have hL9:L<=900000:=by omega
  have CB:Hid (Calls Tryz.prog 17 #[.pointer (some ⟨R,0,none⟩),.int .i64 (q:Nat),.agg #[.int .i64 0,.string ⟨#[]⟩,.string ⟨#[]⟩,.int .i64 0,.slice none 0 0,.int .i64 (p:Nat)]] w fun e w'=>e=.returned (.int .i64 (L:Nat))/\Dt w' B P R s now de (.ok j) (addN ns q ⟨0,[],[],0,[],p⟩) own/\DFr B P w w'):=by
   rw [<-hL]
   exact dAdd_any B P R s now de (.ok j) ns own q 0 0 [] [] p w h W hq (by omega)
  obtain ⟨v,hv⟩:∃v,ns[q].kd=v:=⟨_,rfl⟩
  rw [hv] at n0 ⊢
  rw [hL] at c2 CK ⊢
  clear h W hk HST hck hfl hkd hL hm hkq hv hq ht hsz
  by_cases h2:v=2
  ·have hb:(v != 2)=false:=by simpa using h2
   rw [if_pos h2]
   clear h2
   go_enter Tryz.func54,Tryz.ntmps54
   go_wp2_with (first | (go_at_call 56;refine CK.out.mono ?_;rintro e w' ⟨rfl,rfl⟩) | (go_at_call 17;refine CB.out.mono ?_;rintro e w3 ⟨rfl,hd3,hf3⟩))
   refine bodyPost_ret (results_tmp (t:=10) rfl _ _ _) rfl ?_
   exact ⟨fun n ns' hh=>(by cases hh;exact ⟨rfl,hd3⟩),fun c hh=>(by cases hh),hf3⟩
  ·have hb:(v != 2)=true:=by simpa using h2
   rw [if_neg h2]
   clear h2
   go_enter Tryz.func54,Tryz.ntmps54
   go_wp2_with (first | (go_at_call 56;refine CK.out.mono ?_;rintro e w' ⟨rfl,rfl⟩))
   refine bodyPost_ret (results_tmp (t:=10) rfl _ _ _) rfl ?_
   exact ⟨fun n ns' hh=>(by cases hh),fun c hh=>⟨rfl,ns,HD.out⟩,DFr.refl _⟩
set_option maxRecDepth 100000 in
set_option maxHeartbeats 3200000 in
theorem dLast_one (B P R:Nat) (s:ByteArray) (now de j:Nat) (ns:List Tn) (own:List Nat) (t:Nat) (k:List UInt8) (p:Nat) (w:World) (h:Dt w B P R s now de (.ok j) ns own) (W:WF ns own) (ht:t < ns.length) (hsz:ns.length<=900000) :
  Calls Tryz.prog 54 #[.pointer (some ⟨R,0,none⟩),.int .i64 (t:Nat),.string ⟨k.toArray⟩,.int .i64 (p:Nat),.bool false] w (SpPost B P R s now de (.ok j) ns own (endT ns own t k p) w):=by
 have HD:Hid (Dt w B P R s now de (.ok j) ns own):=h
 obtain ⟨N,c,O,oc,c2,c3,hkd,hfl,hck⟩:=h.parts
 have CK:Hid (Calls Tryz.prog 56 #[.slice (some ⟨N,0,none⟩) ns.length c,.int .i64 (t:Nat),.string ⟨k.toArray⟩] w fun e w'=>e=.returned (.int .i64 (kidI ns t k))/\w'=w):=hck t k W ht (by omega)
 cases hk:kidO ns t k with
 | none =>
  rw [kidI_none hk] at CK
  have HST:Hid (endT ns own t k p=.ok (ns.length,addN ns t ⟨0,k,[],0,[],p⟩)):=by show _=_;unfold endT;rw [hk]
  rw [HST.out]
  have hl1:(addN ns t ⟨0,k,[],0,[],p⟩).length=ns.length+1:=addN_len _ _ _
  have hno:¬ ns.length ∈ own:=fun hm=>by have:=W.own _ hm;omega
  obtain ⟨L,hL⟩:∃L,ns.length=L:=⟨_,rfl⟩
  obtain ⟨M,hM⟩:∃M,addN ns t ⟨0,k,[],0,[],p⟩=M:=⟨_,rfl⟩
  have CA:Hid (Calls Tryz.prog 17 #[.pointer (some ⟨R,0,none⟩),.int .i64 (t:Nat),.agg #[.int .i64 0,.string ⟨k.toArray⟩,.string ⟨#[]⟩,.int .i64 0,.slice none 0 0,.int .i64 (p:Nat)]] w fun e w'=>e=.returned (.int .i64 (L:Nat))/\Dt w' B P R s now de (.ok j) M own/\DFr B P w w'):=by
   rw [<-hM,<-hL]
   exact dAdd_any B P R s now de (.ok j) ns own t 0 0 k [] p w h W ht (by omega)
  have hkM:∀(hq:L < M.length),(M[L]'hq).kd=0:=fun hq=>by
   have:=kd_last ns t ⟨0,k,[],0,[],p⟩ ht (by omega)
   subst hM hL
   exact this
  rw [hM]
  rw [hM] at hl1
  rw [hL] at c2 CK hl1 hno ⊢
  have HKM:Hid (∀(hq:L < M.length),(M[L]'hq).kd=0):=hkM
  have hL9:L<=900000:=by omega
  have HPT:Hid (∀w',Dt w' B P R s now de (.ok j) M own->∃N1 c1 O1 oc1,w'.cell? ⟨R,2,none⟩=some (.slice (some ⟨N1,0,none⟩) (L+1) c1)/\w'.cell? ⟨N1,L * 6,none⟩=some (.int .i64 0)/\w'.cell? ⟨R,3,none⟩=some (.slice (some ⟨O1,0,none⟩) (L+1) oc1)/\w'.cell? ⟨O1,L,none⟩=some (.bool false)):=fun w' hd=>by
   obtain ⟨N1,c1,O1,oc1,x1,x2,x3,x4,-⟩:=hd.parts
   have hq:L < M.length:=by omega
   have x5:=x3 L hq
   have x6:=x4 L hq
   rw [HKM.out hq] at x5
   rw [decide_eq_false hno] at x6
   rw [hl1] at x1 x2
   exact ⟨N1,c1,O1,oc1,x1,x5,x2,x6⟩
  clear h W hk HST hkM hck hfl hkd hL hM hl1 ht hsz hno
  go_enter Tryz.func54,Tryz.ntmps54
  go_wp2_with (first | (go_at_call 56;refine CK.out.mono ?_;rintro e w' ⟨rfl,rfl⟩) | (go_at_call 17;refine CA.out.mono ?_))
  rintro e w2 ⟨rfl,hd2,hf2⟩
  obtain ⟨N1,c1,O1,oc1,x1,x5,x2,x6⟩:=HPT.out w2 hd2
  have HD2:Hid (Dt w2 B P R s now de (.ok j) M own):=hd2
  have HF2:Hid (DFr B P w' w2):=hf2
  clear hd2 hf2 c2 c3
  go_wp2
  refine bodyPost_ret (results_tmp (t:=10) rfl _ _ _) rfl ?_
  exact ⟨fun n ns' hh=>(by cases hh;exact ⟨rfl,HD2.out⟩),fun c hh=>(by cases hh),HF2.out⟩
 | some q =>
  rw [kidI_some hk] at CK
  obtain ⟨hm,-⟩:=kidO_mem hk
  have hq:q < ns.length:=W.lt t q hm
  have n0:=hkd q hq
  have o0:=hfl q hq
  have hkq:kdAt ns q=ns[q].kd:=by unfold kdAt;rw [List.getElem?_eq_getElem hq]
  have hqI:¬ (q:Int) < 0:=by omega
  have HST:Hid (endT ns own t k p=if ns[q].kd=0/\¬ q ∈ own then .ok (q,ns) else .error (5,p)):=by
   show _=_
   unfold endT
   rw [hk]
   simp only [hkq]
  rw [HST.out]
  obtain ⟨L,hL⟩:∃L,ns.length=L:=⟨_,rfl⟩
  have hqL:q < L:=by omega
  have hL9:L<=900000:=by omega
  obtain ⟨v,hv⟩:∃v,ns[q].kd=v:=⟨_,rfl⟩
  obtain ⟨b,hb⟩:∃b,decide (q ∈ own)=b:=⟨_,rfl⟩
  rw [hv] at n0 ⊢
  rw [hb] at o0
  rw [hL] at c2 c3 CK
  have HB:Hid (decide (q ∈ own)=b):=hb
  clear h W hk HST hck hfl hkd hL hm hkq hv hq ht hsz hb
  by_cases h0:v=0
  ·have hb0:(v != 0)=false:=by simpa using h0
   cases b with
   | false =>
    rw [if_pos ⟨h0,of_decide_eq_false HB.out⟩]
    clear h0
    go_enter Tryz.func54,Tryz.ntmps54
    go_wp2_with (first | (go_at_call 56;refine CK.out.mono ?_;rintro e w' ⟨rfl,rfl⟩))
    refine bodyPost_ret (results_tmp (t:=10) rfl _ _ _) rfl ?_
    exact ⟨fun n ns' hh=>(by cases hh;exact ⟨rfl,HD.out⟩),fun c hh=>(by cases hh),DFr.refl _⟩
   | true =>
    rw [if_neg (fun h=>h.2 (of_decide_eq_true HB.out))]
    clear h0
    go_enter Tryz.func54,Tryz.ntmps54
    go_wp2_with (first | (go_at_call 56;refine CK.out.mono ?_;rintro e w' ⟨rfl,rfl⟩))
    refine bodyPost_ret (results_tmp (t:=10) rfl _ _ _) rfl ?_
    exact ⟨fun n ns' hh=>(by cases hh),fun c hh=>⟨rfl,ns,HD.out⟩,DFr.refl _⟩
  ·have hb0:(v != 0)=true:=by simpa using h0
   rw [if_neg (fun h=>h0 h.1)]
   clear h0
   go_enter Tryz.func54,Tryz.ntmps54
   go_wp2_with (first | (go_at_call 56;refine CK.out.mono ?_;rintro e w' ⟨rfl,rfl⟩))
   refine bodyPost_ret (results_tmp (t:=10) rfl _ _ _) rfl ?_
   exact ⟨fun n ns' hh=>(by cases hh),fun c hh=>⟨rfl,ns,HD.out⟩,DFr.refl _⟩
end Go.Proofs.YtbgnflcebafjjaaGreatDoor
