import Derived.Test.YtnnbgjaphfhibaaGreatDoorM20
set_option linter.unusedVariables false
set_option linter.unusedSimpArgs false
set_option maxRecDepth 100000
set_option maxHeartbeats 6400000
open Go.Proofs.Tryz
namespace Go.Proofs.YtnnbgjaphfhibaaGreatDoor
open Go.RowKit Go.Maps Go.WideMaps Go.Joins
theorem Dt.setI{w:World}{B P R:Nat}{s:ByteArray}{now de i:Nat}{ns:List Tn}{own:List Nat}(h:Dt w B P R s now de (.ok i) ns own)(j:Nat)(hj:j<=s.size):Dt (w.setCell ⟨R,1,none⟩ (.int .i64 (j:Nat))) B P R s now de (.ok j) ns own/\DFr B P w (w.setCell ⟨R,1,none⟩ (.int .i64 (j:Nat))) :=
 h.keep (fun L O hd=>⟨hj,hd.2.setI j⟩) (aQ (ax w (some R)) 1 _)
theorem aco(f:Nat)(B P R:Nat)(s:ByteArray)(own:List Nat)(now i up:Nat)(k:List UInt8)(p d:Nat)(ns:List Tn)(w:World)(h:Dt w B P R s now d (.ok i) ns own)(hs:s.size<=100000)(W:WF ns own)(V:WT ns)(hu:up<ns.length)(hk2:¬ak ns up=2)(hd:d<=8)(hsz:ns.length+(s.size-i)<=700000)(hf:2*(s.size-i)+1<=f+1)(hx:nx s.data.toList i=116\/nx s.data.toList i=102) :
  Calls prog 83 #[.pointer (some ⟨R,0,none⟩),.int .i64 (up:Nat),.string ⟨k.toArray⟩,.int .i64 (p:Nat)] w (qc B P R s now d own (val s.data.toList (f+1) i up k p d ns) w):=by
 have hl:s.data.toList.length=s.size:=by simp
 obtain⟨c0,c1,c5,-,-,hi,-⟩:=h.cells;have HD:Hd (Dt w B P R s now d (.ok i) ns own):=h;rw[aci _ _ _ _ _ _ _ _ hx];have hlt0:i<s.size:=by
  have:=bH (l:=s.data.toList) (i:=i) (by rcases hx with h|h<;>rw[h]<;>decide);omega
 have hlt:i<s.size:=hlt0;have hge:decide ((s.size:Int)<=(i:Int))=false:=by simp;omega
 have lJ:¬(s.size:Int)<=(i:Int):=by omega
 have gq:Hd (nx s.data.toList i=(s[i].toNat:Int)):=byte_at s i hlt;have q34:((s[i].toNat:Int) == 34)=false:=by rw[beq_eq_false_iff_ne,<-gq.o];rcases hx with h|h<;>rw[h]<;>decide
 have q91:((s[i].toNat:Int) == 91)=false:=by rw[beq_eq_false_iff_ne,<-gq.o];rcases hx with h|h<;>rw[h]<;>decide
 have q43:((s[i].toNat:Int) == 43)=false:=by rw[beq_eq_false_iff_ne,<-gq.o];rcases hx with h|h<;>rw[h]<;>decide
 have q45:((s[i].toNat:Int) == 45)=false:=by rw[beq_eq_false_iff_ne,<-gq.o];rcases hx with h|h<;>rw[h]<;>decide
 have ndg:au (nx s.data.toList i)=false:=by rcases hx with h|h<;>rw[h]<;>decide
 have CD:Hd (∀w,Calls prog 122 #[.int .u8 (s[i].toNat:Int)] w fun e w'=>e=.returned (.bool false)/\w'=w):=fun w=>by
  have:=yX s[i] w;rw[<-gq.o,ndg]at this;rw[<-gq.o];exact this
 have uK:Hd (((s[i].toNat:Int) == 116)=true\/(((s[i].toNat:Int) == 116)=false/\((s[i].toNat:Int) == 102)=true)):=by
  show _\/_;rw[<-gq.o]
  rcases hx with h|h
  ·left;rw[h];rfl
  ·right;rw[h];exact⟨rfl,rfl⟩
 have CA:Hd (∀(q:Rs Nat) (t:Int) w,Dt w B P R s now d q ns own->Calls prog 29 #[.pointer (some ⟨R,0,none⟩),.int .i64 (up:Nat),.agg #[.int .i64 5,.string ⟨k.toArray⟩,.string ⟨#[]⟩,.int .i64 t,.slice none 0 0,.int .i64 (p:Nat)]] w (zT B P R s now d q ns own (addN ns up ⟨5,k,[],t,[],p⟩) w)):=fun q t w h=>uJ B P R s now d q ns own up 5 t k [] p w h W hu (by omega)
 have CF:Hd (∀j w,Dt w B P R s now d (.ok j) ns own->Calls prog 82 #[.pointer (some ⟨R,0,none⟩),.int .i64 2,.int .i64 (i:Nat)] w fun e w'=>e=.returned (.tuple #[])/\Dt w' B P R s now d (.error (2,i)) ns own/\DFr B P w w'):=fun j w h=>yA B P R s now d ns own j w h 2 (by decide) i
 have HST:Hd (∀k (hk:k<s.size),bi (s[k].toNat:Int)=true->toR bi s.data.toList k=toR bi s.data.toList (k+1)):=fun k hk hb=>qH bi _ k (by omega) (by rw[byte_at s k hk];exact hb)
 have jO:Hd (∀k (hk:k<s.size),bi (s[k].toNat:Int)=false->toR bi s.data.toList k=k):=fun k hk hb=>lX bi _ k (by rw[byte_at s k hk];exact hb)
 have qM:Hd (∀k,s.size<=k->toR bi s.data.toList k=k):=fun k hk=>Ba bi _ k (by omega)
 obtain⟨Q,hQ⟩:∃Q:Rs (Nat × List Tn),(sV (fun n=>addN ns up ⟨5,k,[],n,[],p⟩) (kU s.data.toList i))=Q:=⟨_,rfl⟩;have HQ:Hd (sV (fun n=>addN ns up ⟨5,k,[],n,[],p⟩) (if ag s.data.toList i (toR bi s.data.toList i-i)=[116,114,117,101] then .ok (1,toR bi s.data.toList i) else if ag s.data.toList i (toR bi s.data.toList i-i)=[102,97,108,115,101] then .ok (0,toR bi s.data.toList i) else .error (2,i))=Q):=by
  show _=_;rw[<-FK];exact hQ
 rw[hQ];clear h hx hQ V W hk2 gq ndg;go_enter func83,ntmps83;go_wp2;go_quiet (fail);have aF:=HD.o.drew nq;have dG:Hd (Dt (w.drewN nq) B P R s now d (.ok i) ns own):=aF.1;have bK:Hd (DFr B P w (w.drewN nq)):=aF.2;obtain⟨wA,hwA⟩:∃W,w.drewN nq=W:=⟨_,rfl⟩;rw[hwA]at dG bK ⊢;obtain⟨d0,d1,d5,-,-,-,-⟩:=dG.o.cells;clear hwA aF c0 c1 c5;go_wp2;go_quiet (fail);have aN:=dG.o.drew nq;have jS:Hd (Dt (wA.drewN nq) B P R s now d (.ok i) ns own):=aN.1;have kR:Hd (DFr B P w (wA.drewN nq)):=bK.o.two aN.2;obtain⟨wB,hwB⟩:∃W,wA.drewN nq=W:=⟨_,rfl⟩;rw[hwB]at jS kR ⊢;obtain⟨g0,g1,g5,-,-,-,-⟩:=jS.o.cells;clear hwB aN d0 d1 d5
 rcases uK.o with q116|⟨q116,q102⟩
 all_goals (
  go_wp2_with (go_at_call 122;refine(CD.o _).mono ?_;rintro e w' ⟨rfl,rfl⟩);go_loopw [] (fun wr=>∃j:Nat,Dt wr B P R s now d (.ok j) ns own/\i<=j/\toR bi s.data.toList j=toR bi s.data.toList i/\DFr B P w wr) (fun wr=>s.size-dI wr R)
  case atStart=>exact⟨i,jS.o,Nat.le_refl _,rfl,kR.o⟩
  case round =>
   obtain⟨j,hdj,hij,hto,hfj⟩:=hrel;obtain⟨e0,e1,e5,-,-,hj,ef⟩:=hdj.cells;have ef1:=ef 1;have UU:Hd (Dt wr B P R s now d (.ok j) ns own):=hdj;have UV:Hd (DFr B P w wr):=hfj;have mW:Hd (toR bi s.data.toList j=toR bi s.data.toList i):=hto;have gK:Hd (dI wr R=j):=by show dI wr R=j;unfold dI;rw[e1];simp
   clear hdj hto hfj ef;have hcs:(∃hjl:j<s.size,97<=(s[j].toNat:Int)/\(s[j].toNat:Int)<=122)\/(toR bi s.data.toList i=j/\((∃hjl:j<s.size,decide ((j:Int)<(s.size:Int))=true/\decide (97<=(s[j].toNat:Int))=true/\decide ((s[j].toNat:Int)<=122)=false)\/(∃hjl:j<s.size,decide ((j:Int)<(s.size:Int))=true/\decide (97<=(s[j].toNat:Int))=false)\/(¬j<s.size/\decide ((j:Int)<(s.size:Int))=false))):=by
    by_cases hjl:j<s.size
    ·have hlt2:decide ((j:Int)<(s.size:Int))=true:=by simp;omega
     have zU:bi (s[j].toNat:Int)=decide (97<=(s[j].toNat:Int)/\(s[j].toNat:Int)<=122):=rfl
     by_cases h97:97<=(s[j].toNat:Int)
     ·by_cases h122:(s[j].toNat:Int)<=122
      ·exact Or.inl ⟨hjl,h97,h122⟩
      ·exact Or.inr ⟨mW.o.symm.trans (jO.o j hjl (by rw[zU,decide_eq_false (fun h=>h122 h.2)])),Or.inl ⟨hjl,hlt2,by simpa using h97,by simpa using h122⟩⟩
     ·exact Or.inr ⟨mW.o.symm.trans (jO.o j hjl (by rw[zU,decide_eq_false (fun h=>h97 h.1)])),Or.inr (Or.inl ⟨hjl,hlt2,by simpa using h97⟩)⟩
    ·exact Or.inr ⟨mW.o.symm.trans (qM.o j (by omega)),Or.inr (Or.inr ⟨hjl,by simp;omega⟩)⟩
   rcases hcs with⟨hjl,h97,h122⟩|⟨hJ,⟨hjl,hlt',g97,g122⟩|⟨hjl,hlt',g97⟩|⟨hjl,hge'⟩⟩
   ·have hlt':decide ((j:Int)<(s.size:Int))=true:=by simp;omega
    have g97:decide (97<=(s[j].toNat:Int))=true:=by simpa using h97
    have g122:decide ((s[j].toNat:Int)<=122)=true:=by simpa using h122
    have HN:Hd (toR bi s.data.toList (j+1)=toR bi s.data.toList i):=(HST.o j hjl (show bi _=true from decide_eq_true ⟨h97,h122⟩)).symm.trans mW.o;go_wp2;go_quiet (fail);have dJ:=UU.o.drew nq;have uM:Hd (Dt (wr.drewN nq) B P R s now d (.ok j) ns own):=dJ.1;have yB:Hd (DFr B P w (wr.drewN nq)):=UV.o.two dJ.2;obtain⟨wC,fV⟩:∃W,wr.drewN nq=W:=⟨_,rfl⟩;rw[fV]at uM yB ⊢;obtain⟨k0,k1,k5,-,-,-,kf⟩:=uM.o.cells;have kf1:=kf 1;have ku:=uM.o.setI (j+1) (by omega);have dZ:Hd (Dt (wC.setCell ⟨R,1,none⟩ (.int .i64 ((j:Int)+1))) B P R s now d (.ok (j+1)) ns own):=ku.1;have HS2:Hd (DFr B P w (wC.setCell ⟨R,1,none⟩ (.int .i64 ((j:Int)+1)))):=yB.o.two ku.2;clear fV dJ kf ku;go_wp2;refine⟨⟨j+1,dZ.o,by omega,HN.o,HS2.o⟩,?_⟩;have e9:dI (wC.setCell ⟨R,1,none⟩ (.int .i64 ((j:Int)+1))) R=j+1:=by
     unfold dI;rw[dZ.o.cells.2.1];simp
    rw[gK.o,e9];omega
   all_goals (
    have HJ:Hd (toR bi s.data.toList i=j):=hJ;clear hJ;go_wp2;go_quiet (fail);have dJ:=UU.o.drew nq;have uM:Hd (Dt (wr.drewN nq) B P R s now d (.ok j) ns own):=dJ.1;have yB:Hd (DFr B P w (wr.drewN nq)):=UV.o.two dJ.2;obtain⟨wC,fV⟩:∃W,wr.drewN nq=W:=⟨_,rfl⟩;rw[fV]at uM yB ⊢;obtain⟨k0,k1,k5,-,-,-,-⟩:=uM.o.cells;clear fV dJ;have Ie:=HQ.o;rw[HJ.o]at Ie;obtain⟨X,hX⟩:=zN (ag s.data.toList i (j-i));have sl:∀wx,(Instr.slice 9 (.string s) (some (.int .i64 (i:Int))) (some (.int .i64 (j:Int))) none).run prog wx=.ok (.string ⟨X.toArray⟩) wx:=fun wx=>by
     rw[<-hX];exact lC s i j hij hj wx
    rw[hX]at Ie;have NF:Hd (sV (fun n=>addN ns up ⟨5,k,[],n,[],p⟩) (if X=[116,114,117,101] then .ok (1,j) else if X=[102,97,108,115,101] then .ok (0,j) else .error (2,i))=Q):=Ie;clear hX Ie
    by_cases hT:X=[116,114,117,101]
    ·have bT:(X == [116,114,117,101])=true:=by simpa using hT
     have jB:Hd (Q=.ok (j,addN ns up ⟨5,k,[],1,[],p⟩)):=by
      have:=NF.o;rw[if_pos hT]at this;exact this.symm
     clear hT;go_wp2;go_quiet (fail);have fH:=uM.o.drew nq;have xg:Hd (Dt (wC.drewN nq) B P R s now d (.ok j) ns own):=fH.1;have dP:Hd (DFr B P w (wC.drewN nq)):=yB.o.two fH.2;obtain⟨wE,hwE⟩:∃W,wC.drewN nq=W:=⟨_,rfl⟩;rw[hwE]at xg dP ⊢;clear hwE fH k0 k1 k5;go_wp2_with (go_at_call 29;refine(CA.o _ 1 _ xg.o).mono ?_;rintro e w3 ⟨rfl,hd3,hf3⟩);refine bodyPost_end (results_none rfl _ _ _) rfl ?_;rw[jB.o];exact⟨rfl,fun j ns' hh=>(by cases hh;exact hd3),fun c' hh=>(by cases hh),dP.o.two hf3⟩
    ·have bT:(X == [116,114,117,101])=false:=by simpa using hT
     by_cases hF:X=[102,97,108,115,101]
     ·have bF:(X == [102,97,108,115,101])=true:=by simpa using hF
      have bG:(X != [102,97,108,115,101])=false:=by simpa using hF
      have jB:Hd (Q=.ok (j,addN ns up ⟨5,k,[],0,[],p⟩)):=by
       have:=NF.o;rw[if_neg hT,if_pos hF]at this;exact this.symm
      clear hT hF;go_wp2;go_quiet (fail);have fH:=uM.o.drew nq;have xg:Hd (Dt (wC.drewN nq) B P R s now d (.ok j) ns own):=fH.1;have dP:Hd (DFr B P w (wC.drewN nq)):=yB.o.two fH.2;obtain⟨wE,hwE⟩:∃W,wC.drewN nq=W:=⟨_,rfl⟩;rw[hwE]at xg dP ⊢;clear hwE fH k0 k1 k5;go_wp2_with (go_at_call 29;refine(CA.o _ 0 _ xg.o).mono ?_;rintro e w3 ⟨rfl,hd3,hf3⟩);refine bodyPost_end (results_none rfl _ _ _) rfl ?_;rw[jB.o];exact⟨rfl,fun j ns' hh=>(by cases hh;exact hd3),fun c' hh=>(by cases hh),dP.o.two hf3⟩
     ·have bF:(X == [102,97,108,115,101])=false:=by simpa using hF
      have bG:(X != [102,97,108,115,101])=true:=by simpa using hF
      have jB:Hd (Q=.error (2,i)):=by
       have:=NF.o;rw[if_neg hT,if_neg hF]at this;exact this.symm
      clear hT hF;go_wp2;go_quiet (fail);have fH:=uM.o.drew nq;have xg:Hd (Dt (wC.drewN nq) B P R s now d (.ok j) ns own):=fH.1;have dP:Hd (DFr B P w (wC.drewN nq)):=yB.o.two fH.2;obtain⟨wE,hwE⟩:∃W,wC.drewN nq=W:=⟨_,rfl⟩;rw[hwE]at xg dP ⊢;clear hwE fH k0 k1 k5;go_wp2_with (first|(go_at_call 82;refine(CF.o j _ xg.o).mono ?_;rintro e w3 ⟨rfl,hd3,hf3⟩)|(go_at_call 29;refine(CA.o _ 0 _ hd3).mono ?_;rintro e w4 ⟨rfl,hd4,hf4⟩));refine bodyPost_end (results_none rfl _ _ _) rfl ?_;rw[jB.o];exact⟨rfl,fun j ns' hh=>(by cases hh),fun c' hh=>(by cases hh;exact hd4.fq),(dP.o.two hf3).two hf4⟩))
open Go.RowKit Go.Maps Go.WideMaps Go.Joins
theorem acp(B P R:Nat)(s:ByteArray)(now de:Nat)(c:Int × Nat)(up:Nat)(k:List UInt8)(p:Nat)(w:World)(h:Fq w B P R s now de c)(hs:s.size<=100000) :
  Calls prog 83 #[.pointer (some ⟨R,0,none⟩),.int .i64 (up:Nat),.string ⟨k.toArray⟩,.int .i64 (p:Nat)] w fun e w'=>e=.returned (.tuple #[])/\Fq w' B P R s now de c/\DFr B P w w':=by
 obtain⟨L,O,⟨h1,j,h2,h3⟩,h4,h5,h6⟩:=h;have HD:Hd (Dd w R s L O now de j c.1 c.2):=h3;obtain⟨c0,c1,-,-,-,c5,-,-,-⟩:=h3.cells;have hb:(c.1 == 0)=false:=by simpa using h1
 have hb2:(c.1 != 0)=true:=by simpa using h1
 have HC:Hd (c.1≠0):=h1;have HB:Hd (B<=w.heap.size):=Nat.le_of_lt (Nat.lt_of_le_of_lt h4 (aB h3));have UW:Hd (∀n,Fq (w.drewN n) B P R s now de c/\DFr B P w (w.drewN n)):=fun n=>by
  have g:w.grownBy (w.drewN n) none:=aj (ax w none) n;exact⟨⟨L,O,⟨h1,j,h2,h3.grow g⟩,h4,h5,h6⟩,DFr.gb g HB.o h6⟩
 obtain⟨x,hx⟩:=zN (c.1);obtain⟨y,hy⟩:=zN (c.2);rw[hx]at HD c5 hb hb2 HC;rw[hy]at HD;clear h1 h3 hx hy
 by_cases hj:s.size<=j
 ·have hge:decide ((s.size:Int)<=(j:Int))=true:=by simp;omega
  have lJ:(s.size:Int)<=(j:Int):=by omega
  have CF:Hd (∀w',Dd w' R s L O now de j x y->Calls prog 82 #[.pointer (some ⟨R,0,none⟩),.int .i64 2,.int .i64 (j:Nat)] w' fun e w''=>e=.returned (.tuple #[])/\w''=w'):=fun w' h=>J6 R s L O now de j x y 2 j w' h HC.o
  go_enter func83,ntmps83;go_wp2;go_quiet (fail);go_wp2_with (go_at_call 82;refine(CF.o _ ?_).mono ?_;exact HD.o;rintro e w' ⟨rfl,rfl⟩);refine bodyPost_ret (results_none rfl _ _ _) rfl ?_;exact⟨rfl,UW.o _⟩
 ·have hge:decide ((s.size:Int)<=(j:Int))=false:=by simp;omega
  have lJ:¬(s.size:Int)<=(j:Int):=by omega
  go_enter func83,ntmps83;go_wp2;go_quiet (fail);go_wp2;refine bodyPost_ret (results_none rfl _ _ _) rfl ?_;exact⟨rfl,UW.o _⟩
theorem acr(f:Nat)(CL:DR f):NE (f+1):=fun B P R s own now i up k p d ns w h hs W V hu hk2 hd hsz hf=>by
 by_cases he:s.size<=i
 ·exact acj f B P R s own now i up k p d ns w h hs W V hu hk2 hd hsz hf he
 ·by_cases h34:nx s.data.toList i=34
  ·exact ack f B P R s own now i up k p d ns w h hs W V hu hk2 hd hsz hf h34
  ·by_cases hin:nx s.data.toList i=43\/nx s.data.toList i=45\/au (nx s.data.toList i)=true
   ·exact acl f B P R s own now i up k p d ns w h hs W V hu hk2 hd hsz hf hin
   ·by_cases htf:nx s.data.toList i=116\/nx s.data.toList i=102
    ·exact aco f B P R s own now i up k p d ns w h hs W V hu hk2 hd hsz hf htf
    ·by_cases kD:nx s.data.toList i=91
     ·exact acm f CL B P R s own now i up k p d ns w h hs W V hu hk2 hd hsz hf kD
     ·exact acn f B P R s own now i up k p d ns w h hs W V hu hk2 hd hsz hf (by omega) h34 hin htf kD
open Go.RowKit Go.Maps Go.WideMaps Go.Joins
def lh(l:List UInt8)(f j up d:Nat)(ns:List Tn):Rs (Nat × List Tn) :=
 if nx l j=93 then .ok (j+1,ns)
 else match val l f j up [] j d ns with
  | .error e=>.error e
  | .ok (j1,ns1)=>match gap l (l.length+1) j1 with
   | .error e=>.error e
   | .ok j2=>if nx l j2=44 then lst l f (j2+1) up d ns1 else if nx l j2=93 then .ok (j2+1,ns1) else .error (2,j2)
theorem UX(l:List UInt8)(f i up d:Nat)(ns:List Tn):lst l (f+1) i up d ns=(gap l (l.length+1) i).bind fun j=>lh l f j up d ns:=by
 rw[Cc]
 cases gap l (l.length+1) i with
 | error e=>rfl
 | ok j=>rfl
def lb(l:List UInt8)(f up d:Nat)(ns:List Tn)(q:Rs Nat):Rs (Nat × List Tn):=q.bind fun j2=>if nx l j2=44 then lst l f (j2+1) up d ns else if nx l j2=93 then .ok (j2+1,ns) else .error (2,j2)
theorem acs(l:List UInt8)(f j up d:Nat)(ns:List Tn)(h:¬nx l j=93):lh l f j up d ns=match val l f j up [] j d ns with | .error e=>.error e | .ok (j1,ns1)=>lb l f up d ns1 (gap l (l.length+1) j1):=by
 unfold lh lb;rw[if_neg h]
 cases val l f j up [] j d ns with
 | error e=>rfl
 | ok q =>
  obtain⟨j1,ns1⟩:=q;simp only[]
  cases gap l (l.length+1) j1<;>rfl
def lv(l:List UInt8)(f up d:Nat):Rs (Nat × List Tn)->Rs (Nat × List Tn)
 | .error e=>.error e
 | .ok (j1,ns1)=>lb l f up d ns1 (gap l (l.length+1) j1)
theorem acu(l:List UInt8)(f j up d:Nat)(ns:List Tn)(h:¬nx l j=93):lh l f j up d ns=lv l f up d (val l f j up [] j d ns):=by
 rw[acs l f j up d ns h]
 cases val l f j up [] j d ns<;>rfl
theorem acv(l:List UInt8)(f up d:Nat)(ns:List Tn)(j:Nat)(h:nx l j=93):lb l f up d ns (.ok j)=.ok (j+1,ns):=by
 show(if _ then _ else _)=_;rw[if_neg (by rw[h];decide),if_pos h]
theorem acw(l:List UInt8)(f up d:Nat)(ns:List Tn)(j:Nat)(h:¬nx l j=93)(h2:¬nx l j=44):lb l f up d ns (.ok j)=.error (2,j):=by
 show(if _ then _ else _)=_;rw[if_neg h2,if_neg h]
theorem acx(l:List UInt8)(f up d:Nat)(ns:List Tn)(j:Nat)(h2:nx l j=44):lb l (f+1) up d ns (.ok j)=(gap l (l.length+1) (j+1)).bind fun j=>lh l f j up d ns:=by
 show(if _ then _ else _)=_;rw[if_pos h2,UX]
theorem acy(l:List UInt8)(own:List Nat)(f i up d:Nat)(k:List UInt8)(p:Nat)(ns:List Tn)(j:Nat)(ns':List Tn)(hi:i<=l.length)(W:WF ns own)(V:WT ns)(hu:up<ns.length)(h2:¬ak ns up=2)(h:val l f i up k p d ns=.ok (j,ns')):Ad ns ns' own i j l.length:=(GG l own f).1 i up k p d ns j ns' hi W V hu h2 h
theorem acz(l:List UInt8)(f up d:Nat)(ns:List Tn)(q:Rs Nat)(G:Rs (Nat × List Tn))(hG:lb l f up d ns q=G)(h:eU l q 93=true):∃j,q=.ok j/\lh l f j up d ns=G:=by
 match q,hG,h with
 | .error e,_,h=>cases h
 | .ok j,hG,h =>
  have hx:=of_decide_eq_true h;refine⟨j,rfl,?_⟩;rw[<-hG,acv l f up d ns j hx];unfold lh;rw[if_pos hx]
theorem acA(l:List UInt8)(f up d:Nat)(ns:List Tn)(q:Rs Nat)(G:Rs (Nat × List Tn))(hG:lb l (f+1) up d ns q=G)(h:eU l q 93=false)(hq:∀j,q=.ok j->j<=l.length):(∀j4,((q.bind fun i=>must l i 44).bind (gap l (l.length+1)))=.ok j4->lh l f j4 up d ns=G/\j4<=l.length/\∃j,q=.ok j/\j+1<=j4)/\(∀c,((q.bind fun i=>must l i 44).bind (gap l (l.length+1)))=.error c->G=.error c):=by
 match q,hG,h,hq with
 | .error e,hG,_,_=>exact⟨fun j4 hh=>(by cases hh),fun c hh=>(by have hh:(Except.error e:Rs Nat)=.error c:=hh;injection hh with hh;subst hh;exact hG.symm)⟩
 | .ok j,hG,h,hq =>
  have hx:=of_decide_eq_false h
  by_cases h44:nx l j=44
  ·rw[acx l f up d ns j h44]at hG;have hlt:=bH (l:=l) (i:=j) (by omega);have e:((Except.bind (.ok j) fun i=>must l i 44:Rs Nat).bind (gap l (l.length+1)))=gap l (l.length+1) (j+1):=by
    show(Except.bind (must l j 44) _)=_;unfold must;rw[if_pos h44];rfl
   rw[e];refine⟨fun j4 hh=>?_,fun c hh=>?_⟩
   ·rw[hh]at hG;have:=wH l _ (j+1) j4 (by omega) hh;exact⟨hG,this.2,j,rfl,this.1⟩
   ·rw[hh]at hG;exact hG.symm
  ·have e:((Except.bind (.ok j) fun i=>must l i 44:Rs Nat).bind (gap l (l.length+1)))=.error (2,j):=by
    show(Except.bind (must l j 44) _)=_;unfold must;rw[if_neg h44];rfl
   rw[e];rw[acw l (f+1) up d ns j hx h44]at hG;exact⟨fun j4 hh=>(by cases hh),fun c hh=>(by injection hh with hh;subst hh;exact hG.symm)⟩
structure Ls(w:World)(B P R:Nat)(s:ByteArray)(now de:Nat)(q:Rs Nat)(ns:List Tn)(own:List Nat)(f up:Nat)(G:Rs (Nat × List Tn)):Prop where
 dq:Dq w B P R s now de q ns own
 ok:∀j,q=.ok j->lh s.data.toList f j up de ns=G/\WF ns own/\WT ns/\up<ns.length/\¬ak ns up=2/\ns.length+(s.size-j)<=700000/\2*(s.size-j)+1<=f/\j<=s.size
 er:∀c,q=.error c->G=.error c
theorem DT{w:World}{B P R:Nat}{s:ByteArray}{now de j:Nat}{ns:List Tn}{own:List Nat}(h:Dt w B P R s now de (.ok j) ns own):dM w R s=s.size-j+1:=by
 obtain⟨h1,h2,N,c,O,oc,xs,ks,h3,h4,h5,h6⟩:=h;exact uj h6.2
theorem NG{w:World}{B P R:Nat}{s:ByteArray}{now de:Nat}{c:Int × Nat}(h:Fq w B P R s now de c):dM w R s=0:=by
 obtain⟨L,O,⟨h1,j,h2,h3⟩,-⟩:=h;exact Fz h3 h1
theorem Dq.setD{w:World}{B P R:Nat}{s:ByteArray}{now de:Nat}{q:Rs Nat}{ns:List Tn}{own:List Nat}(h:Dq w B P R s now de q ns own)(m:Nat):Dq (w.setCell ⟨R,7,none⟩ (.int .i64 (m:Nat))) B P R s now m q ns own/\DFr B P w (w.setCell ⟨R,7,none⟩ (.int .i64 (m:Nat))):=by
 match q,h with
 | .error e,⟨L,O,h1,h2,h3,h4⟩=>exact⟨⟨L,O,h1.setD m,h2,h3,by simpa [World.setCell] using h4⟩,ry h1 h2 h3 h4 (aQ (ax w (some R)) 7 _)⟩
 | .ok i,h =>
  obtain⟨h1,h2,N,c,O,oc,xs,ks,h3,h4,h5,h6⟩:=h;exact⟨⟨h1,h2,N,c,O,oc,xs,ks,h3,h4,h5.keepR h6.2 (aQ (ax w (some R)) 7 _),h6.setD m⟩,ry h6 h1 h2 h5.hP (aQ (ax w (some R)) 7 _)⟩
def okB:Rs Nat->Bool
 | .ok _=>true
 | .error _=>false
theorem Dq.cells{w:World}{B P R:Nat}{s:ByteArray}{now de:Nat}{q:Rs Nat}{ns:List Tn}{own:List Nat}(h:Dq w B P R s now de q ns own):w.cell? ⟨R,7,none⟩=some (.int .i64 (de:Nat))/\w.frozen? ⟨R,7,none⟩=false/\∃er:Int,w.cell? ⟨R,5,none⟩=some (.int .i64 er)/\(er == 0)=okB q:=by
 match q,h with
 | .error e,⟨L,O,⟨h1,j,h2,h3⟩,_⟩ =>
  obtain⟨c0,c1,c2,c3,c4,c5,c6,c7,cf⟩:=h3.cells;exact⟨c7,cf 7,e.1,c5,by show _=false;simpa using h1⟩
 | .ok i,h =>
  obtain⟨h1,h2,N,c,O,oc,xs,ks,h3,h4,h5,h6⟩:=h;obtain⟨c0,c1,c2,c3,c4,c5,c6,c7,cf⟩:=h6.2.cells;exact⟨c7,cf 7,0,c5,rfl⟩
theorem acB(F:Nat)(CV:∀f,f<F->NE f):DR F:=fun B P R s own now i up k p d ns w h hs hx W V hu hk2 hd hsz hf=>by
 have hl:s.data.toList.length=s.size:=by simp
 obtain⟨c0,c1,c5,c7,-,hi,cf⟩:=h.cells;have cf7:=cf 7;have hlt:i<s.size:=by have:=bH (l:=s.data.toList) (i:=i) (by omega);omega
 have HD:Hd (Dt w B P R s now d (.ok i) ns own):=h
 by_cases h8:d=8
 ·rw[if_pos h8];have h8I:(8:Int)<=(d:Int):=by omega
  have CF:Hd (Calls prog 82 #[.pointer (some ⟨R,0,none⟩),.int .i64 4,.int .i64 (i:Nat)] w fun e w'=>e=.returned (.tuple #[])/\Dt w' B P R s now d (.error (4,i)) ns own/\DFr B P w w'):=yA B P R s now d ns own i w h 4 (by decide) i;clear h h8 W V hk2 hx CV cf;go_enter func121,ntmps121;go_wp2_with (go_at_call 82;refine CF.o.mono ?_;rintro e w2 ⟨rfl,hd2,hf2⟩);refine bodyPost_ret (results_none rfl _ _ _) rfl ?_;exact⟨rfl,fun j ns' hh=>(by cases hh),fun c hh=>(by cases hh;exact hd2.fq),hf2⟩
 ·rw[if_neg h8];have h8I:(d:Int)<8:=by omega
  obtain⟨f,rfl⟩:∃f,F=f+1:=⟨F-1,by omega⟩;have A:=zB (i:=i) (j:=i+1) (n:=s.data.toList.length) (x:=⟨1,k,[],0,[],p⟩) W V hu hk2 rfl (fun e=>absurd (show(1:Int)=2 from e) (by decide)) (by omega) (by omega);have hkd:¬ak (addN ns up ⟨1,k,[],0,[],p⟩) ns.length=2:=by rw[fA ns up _ hu,if_pos rfl];exact fun e=>absurd (show(1:Int)=2 from e) (by decide)
  have hln:(addN ns up ⟨1,k,[],0,[],p⟩).length=ns.length+1:=dh _ _ _;obtain⟨M,hM⟩:=zN (addN ns up ⟨1,k,[],0,[],p⟩);obtain⟨u,hu'⟩:∃u,ns.length=u:=⟨_,rfl⟩;have CA:Hd (∀w,Dt w B P R s now (d+1) (.ok (i+1)) ns own->Calls prog 29 #[.pointer (some ⟨R,0,none⟩),.int .i64 (up:Nat),.agg #[.int .i64 1,.string ⟨k.toArray⟩,.string ⟨#[]⟩,.int .i64 0,.slice none 0 0,.int .i64 (p:Nat)]] w fun e w'=>e=.returned (.int .i64 (u:Nat))/\Dt w' B P R s now (d+1) (.ok (i+1)) M own/\DFr B P w w'):=fun w h=>by
   rw[<-hM,<-hu'];exact uJ B P R s now (d+1) (.ok (i+1)) ns own up 1 0 k [] p w h W hu (by omega)
  rw[hM]at A hkd hln ⊢;have sH:Hd (WF M own/\WT M):=⟨A.wf,A.wt⟩;rw[UX,hu'];rw[hu']at hkd hln;obtain⟨G,hG⟩:=zN (((gap s.data.toList (s.data.toList.length+1) (i+1)).bind fun j=>lh s.data.toList f j u (d+1) M));have jl:Hd (((gap s.data.toList (s.data.toList.length+1) (i+1)).bind fun j=>lh s.data.toList f j u (d+1) M)=G):=hG;rw[hG];have UY:Hd (∀i j,i<=s.size->gap s.data.toList (s.data.toList.length+1) i=.ok j->i<=j/\j<=s.size):=fun i j hi h=>by have:=wH s.data.toList _ i j (by omega) h;omega
  have oG:Hd (must s.data.toList i 91=.ok (i+1)):=by show _=_;unfold must;rw[if_pos hx]
  have CM:Hd (∀c,0<=c->∀(q:Rs Nat) (N:List Tn) w,Dq w B P R s now (d+1) q N own->Calls prog 56 #[.pointer (some ⟨R,0,none⟩),.int .u8 c] w fun e w'=>e=.returned (.tuple #[])/\Dq w' B P R s now (d+1) (q.bind fun i=>must s.data.toList i c) N own/\DFr B P w w'):=fun c hc q N w h=>ND B P R s now (d+1) N own q w h hs c hc
  have UZ:Hd (∀w,Dq w B P R s now (d+1) (.ok i) ns own->Calls prog 56 #[.pointer (some ⟨R,0,none⟩),.int .u8 91] w fun e w'=>e=.returned (.tuple #[])/\Dq w' B P R s now (d+1) (.ok (i+1)) ns own/\DFr B P w w'):=fun w h=>by
   have:=CM.o 91 (by decide) (.ok i) ns w h;rw[show(Except.bind (.ok i) fun i=>must s.data.toList i 91:Rs Nat)=must s.data.toList i 91 from rfl,oG.o]at this;exact this
  have zV:Hd (∀(q:Rs Nat) (N:List Tn) w,Dq w B P R s now (d+1) q N own->Calls prog 162 #[.pointer (some ⟨R,0,none⟩)] w fun e w'=>e=.returned (.tuple #[])/\Dq w' B P R s now (d+1) (q.bind (gap s.data.toList (s.data.toList.length+1))) N own/\DFr B P w w'):=fun q N w h=>acd B P R s now (d+1) N own q w h hs
  have CI:Hd (∀(q:Rs Nat) (N:List Tn) w,Dq w B P R s now (d+1) q N own->Calls prog 52 #[.pointer (some ⟨R,0,none⟩),.int .u8 93] w fun e w'=>e=.returned (.bool (eU s.data.toList q 93))/\Dq w' B P R s now (d+1) q N own/\DFr B P w w'):=fun q N w h=>UQ B P R s now (d+1) N own q w h hs 93 (by decide)
  have U0:Hd (∀f',f'<f+1->∀(j:Nat) (N:List Tn) w,Dt w B P R s now (d+1) (.ok j) N own->WF N own->WT N->u<N.length->¬ak N u=2->N.length+(s.size-j)<=700000->2*(s.size-j)+1<=f'->Calls prog 83 #[.pointer (some ⟨R,0,none⟩),.int .i64 (u:Nat),.string ⟨#[]⟩,.int .i64 (j:Nat)] w (qc B P R s now (d+1) own (val s.data.toList f' j u [] j (d+1) N) w)):=fun f' hf' j N w h a b c e g i=>CV f' hf' B P R s own now j u [] j (d+1) N w h hs a b c e (by omega) g i
  have HAD:Hd (∀f' j N j1 N1,j<=s.size->WF N own->WT N->u<N.length->¬ak N u=2->val s.data.toList f' j u [] j (d+1) N=.ok (j1,N1)->Ad N N1 own j j1 s.size):=fun f' j N j1 N1 a b c e g h=>by have:=acy s.data.toList own f' j u (d+1) [] j N j1 N1 (by omega) b c e g h;rw[hl]at this;exact this
  have hS:=Dq.setD (q:=.ok i) h (d+1);have dZ:Hd (Dq (w.setCell ⟨R,7,none⟩ (.int .i64 ((d:Int)+1))) B P R s now (d+1) (.ok i) ns own):=hS.1;have jF:Hd (DFr B P w (w.setCell ⟨R,7,none⟩ (.int .i64 ((d:Int)+1)))):=hS.2;have hfu:u<M.length:=by omega
  have acC:M.length+(s.size-(i+1))<=700000:=by omega
  clear h hG hM A hS V W hk2 hx CV hu' cf;go_enter func121,ntmps121;go_wp2_with (first|(go_at_call 56;refine(UZ.o _ dZ.o).mono ?_;rintro e w2 ⟨rfl,hd2,hf2⟩)|(go_at_call 29;refine(CA.o _ hd2).mono ?_;rintro e w3 ⟨rfl,hd3,hf3⟩)|(go_at_call 162;refine(zV.o (.ok (i+1)) M _ hd3).mono ?_));rintro e w4 ⟨rfl,hd4,hf4⟩;have DU:Hd (DFr B P w w4):=((jF.o.two hf2).two hf3).two hf4;have GK:Hd (Ls w4 B P R s now (d+1) ((Except.ok (i+1)).bind (gap s.data.toList (s.data.toList.length+1))) M own f u G):=by
   refine⟨hd4,fun j hj=>?_,fun c hc=>?_⟩
   ·have hj':gap s.data.toList (s.data.toList.length+1) (i+1)=.ok j:=hj;have h0:=jl.o;rw[hj']at h0;have h1:=UY.o (i+1) j (by omega) hj';exact⟨h0,sH.o.1,sH.o.2,hfu,hkd,by omega,by omega,h1.2⟩
   ·have hj':gap s.data.toList (s.data.toList.length+1) (i+1)=.error c:=hc;have h0:=jl.o;rw[hj']at h0;exact h0.symm
  obtain⟨m,hm⟩:=zN (d+1);have hmd:(m:Int)<=8:=by omega
  have hm1:(1:Int)<=(m:Int):=by omega
  have U4:Hd (d+1=m):=hm;rw[hm]at GK CM zV CI U0 HAD;clear hd2 hd3 hd4 hf2 hf3 hf4 hm dZ jF CA UZ jl hkd hln sH oG UY HD hfu acC;go_wp2;go_loopw [] (fun wr=>∃(q:Rs Nat) (N:List Tn) (f':Nat),f'<f+1/\Ls wr B P R s now m q N own f' u G/\DFr B P w wr) (fun wr=>dM wr R s)
  case atStart=>exact⟨_,_,f,by omega,GK.o,DU.o⟩
  case round =>
   obtain⟨q,N,f',hf',hls,hfr⟩:=hrel;have DV:Hd (DFr B P w wr):=hfr;have yC:Hd (Dq wr B P R s now m q N own):=hls.dq;have DW:Hd (∀j,q=.ok j->lh s.data.toList f' j u m N=G/\WF N own/\WT N/\u<N.length/\¬ak N u=2/\N.length+(s.size-j)<=700000/\2*(s.size-j)+1<=f'/\j<=s.size):=hls.ok;have jo:Hd (∀c,q=.error c->G=.error c):=hls.er;obtain⟨-,-,er,c5',hz⟩:=hls.dq.cells;have HZ:Hd ((er == 0)=okB q):=hz;clear hls hfr hz
   match q,yC,DW,jo,HZ with
   | .error c,yC,_,jo,HZ =>
    have aA:Hd (G=.error c):=jo.o c rfl;have hz':(er == 0)=false:=HZ.o;go_wp2_with (go_at_call 56;refine(CM.o 93 (by decide) (.error c) N _ yC.o).mono ?_;rintro e w5 ⟨rfl,hd5,hf5⟩;obtain⟨k7,kf7,-⟩:=hd5.cells);have hS:=hd5.setD d;have ecast:(.int .i64 ((m:Int)-1):Value)=.int .i64 (d:Nat):=by have:=U4.o;congr 1;omega
    refine bodyPost_end (results_none rfl _ _ _) rfl ?_;rw[ecast,aA.o];exact⟨rfl,fun j ns' hh=>(by cases hh),fun c' hh=>(by injection hh with hh;subst hh;exact hS.1),(DV.o.two hf5).two hS.2⟩
   | .ok j,yC,DW,_,HZ =>
    have hz':(er == 0)=true:=HZ.o;obtain⟨a1,a2,a3,a4,a5,a6,a7,a8⟩:=DW.o j rfl;have HA1:Hd (lh s.data.toList f' j u m N=G):=a1;have vV:Hd (dM wr R s=s.size-j+1):=DT yC.o;have Ig:Hd (∀j1 N1,val s.data.toList f' j u [] j m N=.ok (j1,N1)->Ad N N1 own j j1 s.size):=fun j1 N1 h=>HAD.o f' j N j1 N1 a8 a2 a3 a4 a5 h
    have y7:Hd (∀w,Dt w B P R s now m (.ok j) N own->Calls prog 83 #[.pointer (some ⟨R,0,none⟩),.int .i64 (u:Nat),.string ⟨#[]⟩,.int .i64 (j:Nat)] w (qc B P R s now m own (val s.data.toList f' j u [] j m N) w)):=fun w h=>U0.o f' hf' j N w h a2 a3 a4 a5 a6 a7
    have jI:Hd (∀w,Dq w B P R s now m (.ok j) N own->Calls prog 52 #[.pointer (some ⟨R,0,none⟩),.int .u8 93] w fun e w'=>e=.returned (.bool (decide (nx s.data.toList j=93)))/\Dq w' B P R s now m (.ok j) N own/\DFr B P w w'):=fun w h=>CI.o (.ok j) N w h
    have DX:Hd (¬ak N u=2/\u<N.length):=⟨a5,a4⟩;clear a1 a2 a3 a5
    by_cases h93:nx s.data.toList j=93
    ·rw[decide_eq_true h93]at jI;have aA:Hd (G=.ok (j+1,N)):=by
      show G=_;rw[<-HA1.o];unfold lh;rw[if_pos h93]
     have oG:Hd ((Except.bind (.ok j) fun i=>must s.data.toList i 93:Rs Nat)=.ok (j+1)):=by
      show must s.data.toList j 93=_;unfold must;rw[if_pos h93]
     clear h93;go_wp2_with (first|(go_at_call 52;refine(jI.o _ yC.o).mono ?_;rintro e w5 ⟨rfl,hd5,hf5⟩)|(go_at_call 56;refine(CM.o 93 (by decide) (.ok j) N _ hd5).mono ?_;rintro e w6 ⟨rfl,hd6,rC⟩;obtain⟨k7,kf7,-⟩:=hd6.cells));rw[oG.o]at hd6;have hS:=hd6.setD d;have ecast:(.int .i64 ((m:Int)-1):Value)=.int .i64 (d:Nat):=by have:=U4.o;congr 1;omega
     refine bodyPost_end (results_none rfl _ _ _) rfl ?_;rw[ecast,aA.o];exact⟨rfl,fun j ns' hh=>(by cases hh;exact hS.1),fun c' hh=>(by cases hh),((DV.o.two hf5).two rC).two hS.2⟩
    ·rw[decide_eq_false h93]at jI;have zW:Hd (lv s.data.toList f' u m (val s.data.toList f' j u [] j m N)=G):=(acu s.data.toList f' j u m N h93).symm.trans HA1.o;obtain⟨V,hV⟩:=zN (val s.data.toList f' j u [] j m N);rw[hV]at y7 zW Ig;clear hV h93;go_wp2_with (first|(go_at_call 52;refine(jI.o _ yC.o).mono ?_;rintro e w5 ⟨rfl,hd5,hf5⟩;obtain⟨-,g1,-,-,-,-,-⟩:=Dt.cells hd5)|(go_at_call 83;refine(y7.o _ hd5).mono ?_));rintro e w6 ⟨rfl,h1,h2,rC⟩;have HF6:Hd (DFr B P w w6):=(DV.o.two hf5).two rC;clear hd5 hf5 rC g1
     match V,h1,h2,zW,Ig with
     | .error c,_,h2,zW,_ =>
      have HD6:Hd (Dq w6 B P R s now m (.error c) N own):=h2 c rfl;have aA:Hd (G=.error c):=zW.o.symm;clear h1 h2;go_wp2_with (go_at_call 162;refine(zV.o (.error c) N _ HD6.o).mono ?_);rintro e w7 ⟨rfl,hd7,jT⟩;have HD7:Hd (Dq w7 B P R s now m (.error c) N own):=hd7;have qg:Hd (DFr B P w w7):=HF6.o.two jT;clear hd7 jT;have yt:Hd (∀w,Dq w B P R s now m (.error c) N own->Calls prog 52 #[.pointer (some ⟨R,0,none⟩),.int .u8 93] w fun e w'=>e=.returned (.bool false)/\Dq w' B P R s now m (.error c) N own/\DFr B P w w'):=fun w h=>CI.o (.error c) N w h
      go_wp2_with (first|(go_at_call 52;refine(yt.o _ HD7.o).mono ?_;rintro e w8 ⟨rfl,hd8,uN⟩)|(go_at_call 56;refine(CM.o 44 (by decide) (.error c) N _ hd8).mono ?_;rintro e w9 ⟨rfl,hd9,NH⟩)|(go_at_call 162;refine(zV.o (.error c) N _ hd9).mono ?_;rintro e w10 ⟨rfl,hd10,NI⟩));refine⟨⟨.error c,N,f',hf',⟨hd10,fun j hj=>(by cases hj),fun c' hc=>(by injection hc with hc;subst hc;exact aA.o)⟩,((qg.o.two uN).two NH).two NI⟩,?_⟩;rw[vV.o,NG hd10];omega
     | .ok (j1,N1),h1,_,zW,Ig =>
      have HD6:Hd (Dq w6 B P R s now m (.ok j1) N1 own):=h1 j1 N1 rfl;have AD:=Ig.o j1 N1 rfl;have xh:Hd (Ad N N1 own j j1 s.size):=AD;obtain⟨g,rfl⟩:∃g,f'=g+1:=⟨f'-1,by omega⟩;have U5:Hd (lb s.data.toList (g+1) u m N1 (gap s.data.toList (s.data.toList.length+1) j1)=G):=zW.o;have nS:Hd (∀j2,gap s.data.toList (s.data.toList.length+1) j1=.ok j2->j1<=j2/\j2<=s.size):=fun j2 hh=>by
       have e1:=AD.en;have:=wH s.data.toList _ j1 j2 (by omega) hh;omega
      have zo:Hd (¬ak N1 u=2/\u<N1.length):=⟨by rw[AD.kd u DX.o.2];exact DX.o.1,by have:=AD.lo;have:=DX.o.2;omega⟩;clear h1 AD;go_wp2_with (go_at_call 162;refine(zV.o (.ok j1) N1 _ HD6.o).mono ?_);rintro e w7 ⟨rfl,hd7,jT⟩;have HD7:Hd (Dq w7 B P R s now m (gap s.data.toList (s.data.toList.length+1) j1) N1 own):=hd7;have qg:Hd (DFr B P w w7):=HF6.o.two jT;clear hd7 jT;have hs1:=acz s.data.toList (g+1) u m N1 _ G U5.o;have hs2:=acA s.data.toList g u m N1 _ G U5.o;obtain⟨q2,hq2⟩:=zN (gap s.data.toList (s.data.toList.length+1) j1);rw[hq2]at HD7 nS hs1 hs2;have yt:Hd (∀w,Dq w B P R s now m q2 N1 own->Calls prog 52 #[.pointer (some ⟨R,0,none⟩),.int .u8 93] w fun e w'=>e=.returned (.bool (eU s.data.toList q2 93))/\Dq w' B P R s now m q2 N1 own/\DFr B P w w'):=fun w h=>CI.o q2 N1 w h
      obtain⟨b,hb⟩:=zN (eU s.data.toList q2 93);rw[hb]at yt
      cases b with
      | true =>
       obtain⟨j2,hj2,hlh⟩:=hs1 hb;subst hj2;have HJ2:=nS.o j2 rfl;have HLH:Hd (lh s.data.toList (g+1) j2 u m N1=G):=hlh;have afL:j1<=j2:=HJ2.1;have acD:j2<=s.size:=HJ2.2;clear hs1 hs2 hb hlh hq2 HJ2;go_wp2_with (go_at_call 52;refine(yt.o _ HD7.o).mono ?_;rintro e w8 ⟨rfl,hd8,uN⟩);have e1:=xh.o.hi;have e2:=xh.o.fw;refine⟨⟨.ok j2,N1,g+1,hf',⟨hd8,fun j hj=>(by cases hj;exact⟨HLH.o,xh.o.wf,xh.o.wt,zo.o.2,zo.o.1,by omega,by omega,acD⟩),fun c' hc=>(by cases hc)⟩,qg.o.two uN⟩,?_⟩;rw[vV.o,DT hd8];omega
      | false =>
       obtain⟨hn1,hn2⟩:=hs2 hb (fun j hj=>by have:=(nS.o j hj).2;omega);have kL:Hd (∀j4,((q2.bind fun i=>must s.data.toList i 44).bind (gap s.data.toList (s.data.toList.length+1)))=.ok j4->lh s.data.toList g j4 u m N1=G/\j4<=s.data.toList.length/\∃j,q2=.ok j/\j+1<=j4):=hn1;have rY:Hd (∀c,((q2.bind fun i=>must s.data.toList i 44).bind (gap s.data.toList (s.data.toList.length+1)))=.error c->G=.error c):=hn2;clear hs1 hs2 hb hn1 hn2 hq2;go_wp2_with (first|(go_at_call 52;refine(yt.o _ HD7.o).mono ?_;rintro e w8 ⟨rfl,hd8,uN⟩)|(go_at_call 56;refine(CM.o 44 (by decide) q2 N1 _ hd8).mono ?_;rintro e w9 ⟨rfl,hd9,NH⟩)|(go_at_call 162;refine(zV.o _ N1 _ hd9).mono ?_;rintro e w10 ⟨rfl,hd10,NI⟩));have e1:=xh.o.hi;have e2:=xh.o.fw;refine⟨⟨_,N1,g,by omega,⟨hd10,fun j4 hj=>?_,fun c' hc=>rY.o c' hc⟩,((qg.o.two uN).two NH).two NI⟩,?_⟩
       ·obtain⟨x1,x2,j2,x3,x4⟩:=kL.o j4 hj;have x5:=nS.o j2 x3;exact⟨x1,xh.o.wf,xh.o.wt,zo.o.2,zo.o.1,by omega,by omega,by omega⟩
       ·rw[vV.o];obtain⟨q4,hq4⟩:=zN (((q2.bind fun i=>must s.data.toList i 44).bind (gap s.data.toList (s.data.toList.length+1))));rw[hq4]at hd10
        match q4,hq4,hd10 with
        | .error c,_,hd10=>rw[NG hd10];omega
        | .ok j4,hq4,hd10 =>
         obtain⟨x1,x2,j2,x3,x4⟩:=kL.o j4 hq4;have x5:=nS.o j2 x3;rw[DT hd10];omega
theorem acE:∀f,NE f/\DR f:=by
 intro f
 induction f using Nat.strongRecOn with
 | ind f ih =>
  have hl:DR f:=acB f fun g hg=>(ih g hg).1
  refine⟨?_,hl⟩
  cases f with
  | zero=>exact fun B P R s own now i up k p d ns w h hs W V hu hk2 hd hsz hf=>absurd hf (by omega)
  | succ f=>exact acr f (ih f (by omega)).2
open Go.RowKit Go.Maps Go.WideMaps Go.Joins
def Ih(B P R:Nat)(s:ByteArray)(now de:Nat)(q:Rs Nat)(ns:List Tn)(own:List Nat)(g:Rs (Nat × List Tn))(w:World)(e:Ending)(w':World):Prop:=(∀n ns',g=.ok (n,ns')->e=.returned (.int .i64 (n:Nat))/\Dt w' B P R s now de q ns' own)/\(∀c,g=.error c->e=.returned (.int .i64 (-1))/\∃ns',Dt w' B P R s now de q ns' own)/\DFr B P w w'
theorem Ii{ns:List Tn}{t:Nat}{k:List UInt8}(h:ai ns t k=none):fK ns t k=-1:=by unfold fK;rw[h]
theorem Ij{ns:List Tn}{t q:Nat}{k:List UInt8}(h:ai ns t k=some q):fK ns t k=(q:Int):=by unfold fK;rw[h]
theorem acF(B P R:Nat)(s:ByteArray)(now de j:Nat)(ns:List Tn)(own:List Nat)(t:Nat)(k:List UInt8)(p:Nat)(w:World)(h:Dt w B P R s now de (.ok j) ns own)(W:WF ns own)(V:WT ns)(ht:t<ns.length)(hsz:ns.length<=1000000) :
  Calls prog 80 #[.pointer (some ⟨R,0,none⟩),.int .i64 (t:Nat),.string ⟨k.toArray⟩,.int .i64 (p:Nat)] w (Ih B P R s now de (.ok j) ns own (fO ns t k p) w):=by
 have HD:Hd (Dt w B P R s now de (.ok j) ns own):=h;have CA:Hd (Calls prog 29 #[.pointer (some ⟨R,0,none⟩),.int .i64 (t:Nat),.agg #[.int .i64 0,.string ⟨k.toArray⟩,.string ⟨#[]⟩,.int .i64 0,.slice none 0 0,.int .i64 (p:Nat)]] w (zT B P R s now de (.ok j) ns own (addN ns t ⟨0,k,[],0,[],p⟩) w)):=uJ B P R s now de (.ok j) ns own t 0 0 k [] p w h W ht hsz;obtain⟨h1,h2,N,c,O,oc,xs,ks,h3,h4,h5,h6⟩:=h;obtain⟨-,-,c2,-,-,-,-,-,-⟩:=h6.2.cells;have CK:Hd (Calls prog 14 #[.slice (some ⟨N,0,none⟩) ns.length c,.int .i64 (t:Nat),.string ⟨k.toArray⟩] w fun e w'=>e=.returned (.int .i64 (fK ns t k))/\w'=w):=Hz w B P ns _ own N c _ xs ks t k h5 W ht hsz;obtain⟨L,hL⟩:=zN (ns.length);have HL:Hd (ns.length=L):=hL
 cases hk:ai ns t k with
 | none =>
  rw[Ii hk]at CK;have HST:Hd (fO ns t k p=.ok (ns.length,addN ns t ⟨0,k,[],0,[],p⟩)):=by show _=_;unfold fO;rw[hk]
  rw[HST.o];rw[hL]at c2 CK;clear h1 h2 h3 h4 h5 h6 W V hk hL;go_enter func80,ntmps80;go_wp2_with (first|(go_at_call 14;refine CK.o.mono ?_;rintro e w' ⟨rfl,rfl⟩)|(go_at_call 29;refine CA.o.mono ?_;rintro e w2 ⟨rfl,hd2,hf2⟩));refine bodyPost_ret (results_tmp (t:=8) rfl _ _ _) rfl ?_;exact⟨fun n ns' hh=>(by cases hh;exact⟨rfl,hd2⟩),fun c hh=>(by cases hh),hf2⟩
 | some q =>
  rw[Ij hk]at CK;obtain⟨hm,-⟩:=qJ hk;have hq:q<ns.length:=W.lt t q hm;obtain⟨n0,-,-,-,n4,-,-⟩:=h5.node q hq;have hkd:ak ns q=ns[q].kd:=by unfold ak;rw[List.getElem?_eq_getElem hq]
  have U6:¬(q:Int)<0:=by omega
  have HST:Hd (fO ns t k p=if ns[q].kd=0 then .ok (q,ns) else if ns[q].kd=2 then .ok (ns[q].ks.getLastD 0,ns) else .error (5,p)):=by
   show _=_;unfold fO;rw[hk];simp only[hkd,List.getElem?_eq_getElem hq]
  have jU:q<L:=by omega
  have hL1:L<=1000000:=by omega
  by_cases hz:ns[q].kd=0
  ·rw[HST.o,if_pos hz];rw[hz]at n0;rw[hL]at c2 CK;clear h1 h2 h3 h4 h5 h6 W V hk hm hkd HST hz n4 CA hL;go_enter func80,ntmps80;go_wp2_with (go_at_call 14;refine CK.o.mono ?_;rintro e w' ⟨rfl,rfl⟩);refine bodyPost_ret (results_tmp (t:=8) rfl _ _ _) rfl ?_;exact⟨fun n ns' hh=>(by cases hh;exact⟨rfl,HD.o⟩),fun c hh=>(by cases hh),DFr.refl _⟩
  ·have hbz:(ns[q].kd == 0)=false:=by simpa using hz
   by_cases hz2:ns[q].kd=2
   ·rw[HST.o,if_neg hz,if_pos hz2];have hne:ns[q].ks≠[]:=by
     have:=(V q (by rw[hkd];exact hz2)).1;unfold ae at this;rw[List.getElem?_eq_getElem hq]at this;exact this
    have hrow:=h5.kid q hq;obtain⟨o,cp,hv⟩:=lL hrow;rw[hv]at n4 hrow;have hlen:ns[q].ks.length<=1000000:=by have:=W.len q;unfold ae at this;rw[List.getElem?_eq_getElem hq]at this;simp only[]at this;omega
    have hpos:0<ns[q].ks.length:=List.length_pos_iff.2 hne;obtain⟨g,cap,hvf,-,-⟩:=hrow.form hpos;injection hvf with ho _ hcc
    subst ho;have hlast:ns[q].ks[ns[q].ks.length-1]?=some (ns[q].ks.getLastD 0):=by
     rw[<-List.getLast?_eq_getElem?];rw[List.getLast?_eq_some_getLast hne,List.getLastD_eq_getLast?,List.getLast?_eq_some_getLast hne];rfl
    have cg:=hrow.cells (g:=g) rfl (ns[q].ks.length-1) (.int .i64 (ns[q].ks.getLastD 0:Nat)) (by rw[List.getElem?_map,hlast];rfl);rw[ni]at cg;obtain⟨M,hM⟩:=zN (ns[q].ks.length);obtain⟨y,hy⟩:=zN (ns[q].ks.getLastD 0);obtain⟨m,hm'⟩:∃m,M=m+1:=⟨M-1,by omega⟩;rw[hM,hm']at n4 cg;rw[hy]at cg ⊢;rw[Nat.add_sub_cancel]at cg;rw[hz2]at n0;rw[hL]at c2 CK;have hml:m<=1000000:=by omega
    clear h1 h2 h3 h4 h5 h6 W V hk hm hkd HST hz hz2 CA hne hrow hv hlen hpos hcc hlast hM hy hm' hbz hL;go_enter func80,ntmps80;go_wp2_with (go_at_call 14;refine CK.o.mono ?_;rintro e w' ⟨rfl,rfl⟩);refine bodyPost_ret (results_tmp (t:=8) rfl _ _ _) rfl ?_;exact⟨fun n ns' hh=>(by cases hh;exact⟨rfl,HD.o⟩),fun c hh=>(by cases hh),DFr.refl _⟩
   ·have hb2:(ns[q].kd == 2)=false:=by simpa using hz2
    rw[HST.o,if_neg hz,if_neg hz2];obtain⟨v,hv⟩:=zN (ns[q].kd);rw[hv]at n0 hbz hb2;rw[hL]at c2 CK;clear h1 h2 h3 h4 h5 h6 W V hk hm hkd HST hz hz2 CA n4 hv hL;go_enter func80,ntmps80;go_wp2_with (go_at_call 14;refine CK.o.mono ?_;rintro e w' ⟨rfl,rfl⟩);refine bodyPost_ret (results_tmp (t:=8) rfl _ _ _) rfl ?_;exact⟨fun n ns' hh=>(by cases hh),fun c hh=>⟨rfl,ns,HD.o⟩,DFr.refl _⟩
open Go.RowKit Go.Maps Go.WideMaps Go.Joins
theorem Dt.parts{w:World}{B P R:Nat}{s:ByteArray}{now de j:Nat}{ns:List Tn}{own:List Nat}(h:Dt w B P R s now de (.ok j) ns own):∃N c O oc,w.cell? ⟨R,2,none⟩=some (.slice (some ⟨N,0,none⟩) ns.length c)/\w.cell? ⟨R,3,none⟩=some (.slice (some ⟨O,0,none⟩) ns.length oc)/\(∀q (hq:q<ns.length),w.cell? ⟨N,q*6,none⟩=some (.int .i64 ns[q].kd))/\(∀q,q<ns.length->w.cell? ⟨O,q,none⟩=some (.bool (decide (q∈own))))/\∀t k,WF ns own->t<ns.length->ns.length<=1000000->Calls prog 14 #[.slice (some ⟨N,0,none⟩) ns.length c,.int .i64 (t:Nat),.string ⟨k.toArray⟩] w fun e w'=>e=.returned (.int .i64 (fK ns t k))/\w'=w:=by
 obtain⟨h1,h2,N,c,O,oc,xs,ks,h3,h4,h5,h6⟩:=h;obtain⟨-,-,c2,c3,-,-,-,-,-⟩:=h6.2.cells;exact⟨N,c,O,oc,c2,c3,fun q hq=>(h5.node q hq).1,fun q hq=>(h5.flagAt q hq).1,fun t k W ht hs=>Hz w B P ns _ own N c _ xs ks t k h5 W ht hs⟩
theorem NJ(ns:List Tn)(t:Nat)(x:Tn)(ht:t<ns.length)(hq:ns.length<(addN ns t x).length):((addN ns t x)[ns.length]'hq).kd=x.kd:=by
 have:=fA ns t x ht ns.length;rw[if_pos rfl]at this;unfold ak at this;rw[List.getElem?_eq_getElem hq]at this;exact this
theorem acG(B P R:Nat)(s:ByteArray)(now de j:Nat)(ns:List Tn)(own:List Nat)(t:Nat)(k:List UInt8)(p:Nat)(w:World)(h:Dt w B P R s now de (.ok j) ns own)(W:WF ns own)(ht:t<ns.length)(hsz:ns.length<=900000) :
  Calls prog 81 #[.pointer (some ⟨R,0,none⟩),.int .i64 (t:Nat),.string ⟨k.toArray⟩,.int .i64 (p:Nat),.bool true] w (Ih B P R s now de (.ok j) ns own (gp ns t k p) w):=by
 have HD:Hd (Dt w B P R s now de (.ok j) ns own):=h;obtain⟨N,c,O,oc,c2,c3,hkd,hfl,hck⟩:=h.parts;have CK:Hd (Calls prog 14 #[.slice (some ⟨N,0,none⟩) ns.length c,.int .i64 (t:Nat),.string ⟨k.toArray⟩] w fun e w'=>e=.returned (.int .i64 (fK ns t k))/\w'=w):=hck t k W ht (by omega)
 cases hk:ai ns t k with
 | none =>
  rw[Ii hk]at CK;have HST:Hd (gp ns t k p=.ok (ns.length+1,addN (addN ns t ⟨2,k,[],0,[],p⟩) ns.length ⟨0,[],[],0,[],p⟩)):=by show _=_;unfold gp;rw[hk]
  rw[HST.o];have W1:=qK ns own t ⟨2,k,[],0,[],p⟩ rfl ht W;have hl1:(addN ns t ⟨2,k,[],0,[],p⟩).length=ns.length+1:=dh _ _ _;have hkl:=NJ ns t ⟨2,k,[],0,[],p⟩ ht (by omega);obtain⟨L,hL⟩:=zN (ns.length);obtain⟨M,hM⟩:=zN (addN ns t ⟨2,k,[],0,[],p⟩);have CA:Hd (Calls prog 29 #[.pointer (some ⟨R,0,none⟩),.int .i64 (t:Nat),.agg #[.int .i64 2,.string ⟨k.toArray⟩,.string ⟨#[]⟩,.int .i64 0,.slice none 0 0,.int .i64 (p:Nat)]] w fun e w'=>e=.returned (.int .i64 (L:Nat))/\Dt w' B P R s now de (.ok j) M own/\DFr B P w w'):=by
   rw[<-hM,<-hL];exact uJ B P R s now de (.ok j) ns own t 2 0 k [] p w h W ht (by omega)
  rw[hM]at W1 hl1;have rD:∀(hq:L<M.length),(M[L]'hq).kd=2:=fun hq=>by
   have:=NJ ns t ⟨2,k,[],0,[],p⟩ ht (by omega);subst hM hL;exact this
  have CB:Hd (∀w,Dt w B P R s now de (.ok j) M own->Calls prog 29 #[.pointer (some ⟨R,0,none⟩),.int .i64 (L:Nat),.agg #[.int .i64 0,.string ⟨#[]⟩,.string ⟨#[]⟩,.int .i64 0,.slice none 0 0,.int .i64 (p:Nat)]] w fun e w'=>e=.returned (.int .i64 ((L:Int)+1))/\Dt w' B P R s now de (.ok j) (addN M L ⟨0,[],[],0,[],p⟩) own/\DFr B P w w'):=fun w h=>by
   have:=uJ B P R s now de (.ok j) M own L 0 0 [] [] p w h W1 (by omega) (by omega);refine this.mono ?_;rintro e w' ⟨rfl,a,b⟩;refine⟨?_,a,b⟩;rw[hl1,hL];rfl
  rw[hM];rw[hL]at c2 CK hl1 ⊢;have xZ:Hd (∀(hq:L<M.length),(M[L]'hq).kd=2):=rD;have Ik:M.length=L+1:=hl1;have NK:L<=900000:=by omega
  have mM:Hd (∀w',Dt w' B P R s now de (.ok j) M own->∃N1 c1,w'.cell? ⟨R,2,none⟩=some (.slice (some ⟨N1,0,none⟩) (L+1) c1)/\w'.cell? ⟨N1,L*6,none⟩=some (.int .i64 2)):=fun w' hd=>by
   obtain⟨N1,c1,O1,oc1,x1,x2,x3,-,-⟩:=hd.parts;have hq:L<M.length:=by omega
   have x5:=x3 L hq;rw[xZ.o hq]at x5;rw[Ik]at x1;exact⟨N1,c1,x1,x5⟩
  clear h W hk HST hkl rD hck hfl hkd hL hM W1 hl1 Ik ht hsz;go_enter func81,ntmps81;go_wp2_with (first|(go_at_call 14;refine CK.o.mono ?_;rintro e w' ⟨rfl,rfl⟩)|(go_at_call 29;refine CA.o.mono ?_));rintro e w2 ⟨rfl,hd2,hf2⟩;obtain⟨N1,c1,x1,x5⟩:=mM.o w2 hd2;have HD2:Hd (Dt w2 B P R s now de (.ok j) M own):=hd2;have HF2:Hd (DFr B P w' w2):=hf2;clear hd2 hf2 c2 c3;go_wp2_with (go_at_call 29;refine(CB.o _ HD2.o).mono ?_;rintro e w3 ⟨rfl,hd3,hf3⟩);refine bodyPost_ret (results_tmp (t:=10) rfl _ _ _) rfl ?_;exact⟨fun n ns' hh=>(by cases hh;exact⟨rfl,hd3⟩),fun c hh=>(by cases hh),HF2.o.two hf3⟩
 | some q =>
  rw[Ij hk]at CK;obtain⟨hm,-⟩:=qJ hk;have hq:q<ns.length:=W.lt t q hm;have n0:=hkd q hq;have hkq:ak ns q=ns[q].kd:=by unfold ak;rw[List.getElem?_eq_getElem hq]
  have U6:¬(q:Int)<0:=by omega
  have HST:Hd (gp ns t k p=if ns[q].kd=2 then .ok (ns.length,addN ns q ⟨0,[],[],0,[],p⟩) else .error (5,p)):=by
   show _=_;unfold gp;rw[hk];simp only[hkq]
  rw[HST.o];obtain⟨L,hL⟩:=zN (ns.length);have jU:q<L:=by omega
  have NK:L<=900000:=by omega
  have CB:Hd (Calls prog 29 #[.pointer (some ⟨R,0,none⟩),.int .i64 (q:Nat),.agg #[.int .i64 0,.string ⟨#[]⟩,.string ⟨#[]⟩,.int .i64 0,.slice none 0 0,.int .i64 (p:Nat)]] w fun e w'=>e=.returned (.int .i64 (L:Nat))/\Dt w' B P R s now de (.ok j) (addN ns q ⟨0,[],[],0,[],p⟩) own/\DFr B P w w'):=by
   rw[<-hL];exact uJ B P R s now de (.ok j) ns own q 0 0 [] [] p w h W hq (by omega)
  obtain⟨v,hv⟩:=zN (ns[q].kd);rw[hv]at n0 ⊢;rw[hL]at c2 CK ⊢;clear h W hk HST hck hfl hkd hL hm hkq hv hq ht hsz
  by_cases h2:v=2
  ·have hb:(v != 2)=false:=by simpa using h2
   rw[if_pos h2];clear h2;go_enter func81,ntmps81;go_wp2_with (first|(go_at_call 14;refine CK.o.mono ?_;rintro e w' ⟨rfl,rfl⟩)|(go_at_call 29;refine CB.o.mono ?_;rintro e w3 ⟨rfl,hd3,hf3⟩));refine bodyPost_ret (results_tmp (t:=10) rfl _ _ _) rfl ?_;exact⟨fun n ns' hh=>(by cases hh;exact⟨rfl,hd3⟩),fun c hh=>(by cases hh),hf3⟩
  ·have hb:(v != 2)=true:=by simpa using h2
   rw[if_neg h2];clear h2;go_enter func81,ntmps81;go_wp2_with (go_at_call 14;refine CK.o.mono ?_;rintro e w' ⟨rfl,rfl⟩);refine bodyPost_ret (results_tmp (t:=10) rfl _ _ _) rfl ?_;exact⟨fun n ns' hh=>(by cases hh),fun c hh=>⟨rfl,ns,HD.o⟩,DFr.refl _⟩
theorem acH(B P R:Nat)(s:ByteArray)(now de j:Nat)(ns:List Tn)(own:List Nat)(t:Nat)(k:List UInt8)(p:Nat)(w:World)(h:Dt w B P R s now de (.ok j) ns own)(W:WF ns own)(ht:t<ns.length)(hsz:ns.length<=900000) :
  Calls prog 81 #[.pointer (some ⟨R,0,none⟩),.int .i64 (t:Nat),.string ⟨k.toArray⟩,.int .i64 (p:Nat),.bool false] w (Ih B P R s now de (.ok j) ns own (gm ns own t k p) w):=by
 have HD:Hd (Dt w B P R s now de (.ok j) ns own):=h;obtain⟨N,c,O,oc,c2,c3,hkd,hfl,hck⟩:=h.parts;have CK:Hd (Calls prog 14 #[.slice (some ⟨N,0,none⟩) ns.length c,.int .i64 (t:Nat),.string ⟨k.toArray⟩] w fun e w'=>e=.returned (.int .i64 (fK ns t k))/\w'=w):=hck t k W ht (by omega)
 cases hk:ai ns t k with
 | none =>
  rw[Ii hk]at CK;have HST:Hd (gm ns own t k p=.ok (ns.length,addN ns t ⟨0,k,[],0,[],p⟩)):=by show _=_;unfold gm;rw[hk]
  rw[HST.o];have hl1:(addN ns t ⟨0,k,[],0,[],p⟩).length=ns.length+1:=dh _ _ _;have hno:¬ns.length∈own:=fun hm=>by have:=W.own _ hm;omega
  obtain⟨L,hL⟩:=zN (ns.length);obtain⟨M,hM⟩:=zN (addN ns t ⟨0,k,[],0,[],p⟩);have CA:Hd (Calls prog 29 #[.pointer (some ⟨R,0,none⟩),.int .i64 (t:Nat),.agg #[.int .i64 0,.string ⟨k.toArray⟩,.string ⟨#[]⟩,.int .i64 0,.slice none 0 0,.int .i64 (p:Nat)]] w fun e w'=>e=.returned (.int .i64 (L:Nat))/\Dt w' B P R s now de (.ok j) M own/\DFr B P w w'):=by
   rw[<-hM,<-hL];exact uJ B P R s now de (.ok j) ns own t 0 0 k [] p w h W ht (by omega)
  have rD:∀(hq:L<M.length),(M[L]'hq).kd=0:=fun hq=>by
   have:=NJ ns t ⟨0,k,[],0,[],p⟩ ht (by omega);subst hM hL;exact this
  rw[hM];rw[hM]at hl1;rw[hL]at c2 CK hl1 hno ⊢;have xZ:Hd (∀(hq:L<M.length),(M[L]'hq).kd=0):=rD;have NK:L<=900000:=by omega
  have mM:Hd (∀w',Dt w' B P R s now de (.ok j) M own->∃N1 c1 O1 oc1,w'.cell? ⟨R,2,none⟩=some (.slice (some ⟨N1,0,none⟩) (L+1) c1)/\w'.cell? ⟨N1,L*6,none⟩=some (.int .i64 0)/\w'.cell? ⟨R,3,none⟩=some (.slice (some ⟨O1,0,none⟩) (L+1) oc1)/\w'.cell? ⟨O1,L,none⟩=some (.bool false)):=fun w' hd=>by
   obtain⟨N1,c1,O1,oc1,x1,x2,x3,x4,-⟩:=hd.parts;have hq:L<M.length:=by omega
   have x5:=x3 L hq;have x6:=x4 L hq;rw[xZ.o hq]at x5;rw[decide_eq_false hno]at x6;rw[hl1]at x1 x2;exact⟨N1,c1,O1,oc1,x1,x5,x2,x6⟩
  clear h W hk HST rD hck hfl hkd hL hM hl1 ht hsz hno;go_enter func81,ntmps81;go_wp2_with (first|(go_at_call 14;refine CK.o.mono ?_;rintro e w' ⟨rfl,rfl⟩)|(go_at_call 29;refine CA.o.mono ?_));rintro e w2 ⟨rfl,hd2,hf2⟩;obtain⟨N1,c1,O1,oc1,x1,x5,x2,x6⟩:=mM.o w2 hd2;have HD2:Hd (Dt w2 B P R s now de (.ok j) M own):=hd2;have HF2:Hd (DFr B P w' w2):=hf2;clear hd2 hf2 c2 c3;go_wp2;refine bodyPost_ret (results_tmp (t:=10) rfl _ _ _) rfl ?_;exact⟨fun n ns' hh=>(by cases hh;exact⟨rfl,HD2.o⟩),fun c hh=>(by cases hh),HF2.o⟩
 | some q =>
  rw[Ij hk]at CK;obtain⟨hm,-⟩:=qJ hk;have hq:q<ns.length:=W.lt t q hm;have n0:=hkd q hq;have o0:=hfl q hq;have hkq:ak ns q=ns[q].kd:=by unfold ak;rw[List.getElem?_eq_getElem hq]
  have U6:¬(q:Int)<0:=by omega
  have HST:Hd (gm ns own t k p=if ns[q].kd=0/\¬q∈own then .ok (q,ns) else .error (5,p)):=by
   show _=_;unfold gm;rw[hk];simp only[hkq]
  rw[HST.o];obtain⟨L,hL⟩:=zN (ns.length);have jU:q<L:=by omega
  have NK:L<=900000:=by omega
  obtain⟨v,hv⟩:=zN (ns[q].kd);obtain⟨b,hb⟩:=zN (decide (q∈own));rw[hv]at n0 ⊢;rw[hb]at o0;rw[hL]at c2 c3 CK;have HB:Hd (decide (q∈own)=b):=hb;clear h W hk HST hck hfl hkd hL hm hkq hv hq ht hsz hb
  by_cases h0:v=0
  ·have hb0:(v != 0)=false:=by simpa using h0
   cases b with
   | false =>
    rw[if_pos ⟨h0,of_decide_eq_false HB.o⟩];clear h0;go_enter func81,ntmps81;go_wp2_with (go_at_call 14;refine CK.o.mono ?_;rintro e w' ⟨rfl,rfl⟩);refine bodyPost_ret (results_tmp (t:=10) rfl _ _ _) rfl ?_;exact⟨fun n ns' hh=>(by cases hh;exact⟨rfl,HD.o⟩),fun c hh=>(by cases hh),DFr.refl _⟩
   | true =>
    rw[if_neg (fun h=>h.2 (of_decide_eq_true HB.o))];clear h0;go_enter func81,ntmps81;go_wp2_with (go_at_call 14;refine CK.o.mono ?_;rintro e w' ⟨rfl,rfl⟩);refine bodyPost_ret (results_tmp (t:=10) rfl _ _ _) rfl ?_;exact⟨fun n ns' hh=>(by cases hh),fun c hh=>⟨rfl,ns,HD.o⟩,DFr.refl _⟩
  ·have hb0:(v != 0)=true:=by simpa using h0
   rw[if_neg (fun h=>h0 h.1)];clear h0;go_enter func81,ntmps81;go_wp2_with (go_at_call 14;refine CK.o.mono ?_;rintro e w' ⟨rfl,rfl⟩);refine bodyPost_ret (results_tmp (t:=10) rfl _ _ _) rfl ?_;exact⟨fun n ns' hh=>(by cases hh),fun c hh=>⟨rfl,ns,HD.o⟩,DFr.refl _⟩
end Go.Proofs.YtnnbgjaphfhibaaGreatDoor
