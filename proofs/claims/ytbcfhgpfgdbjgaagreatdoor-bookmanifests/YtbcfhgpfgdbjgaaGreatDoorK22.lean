import Derived.Test.YtbcfhgpfgdbjgaaGreatDoorK20
set_option linter.all false
set_option maxRecDepth 100000
set_option maxHeartbeats 0
open Go.Proofs.Tryz
namespace Go.Proofs.YtbcfhgpfgdbjgaaGreatDoor
open Go.RowKit Go.Maps Go.WideMaps Go.Joins
theorem aha(f:Nat)(B P R:Nat)(s:ByteArray)(own:List Nat)(now i up:Nat)(k:List UInt8)(p d:Nat)(ns:List Tn)(w:World)(h:Dt w B P R s now d (.ok i) ns own)(hs:s.size<=100000)(W:WF ns own)(V:WT ns)(hu:up<ns.length)(hk2:¬ay ns up=2)(hd:d<=8)(hsz:ns.length+(s.size-i)<=700000)(hf:2*(s.size-i)+1<=f+1)(hlt0:i<s.size)(n34:¬nx s.data.toList i=34)(nin:¬(nx s.data.toList i=43\/nx s.data.toList i=45\/aI (nx s.data.toList i)=true))(ntf:¬(nx s.data.toList i=116\/nx s.data.toList i=102))(n91:¬nx s.data.toList i=91) :
  Calls prog 59 #[.pointer (some ⟨R,0,none⟩),.int .i64 (up:Nat),.string ⟨k.toArray⟩,.int .i64 (p:Nat)] w (uT B P R s now d own (val s.data.toList (f+1) i up k p d ns) w):=by
 have hl:s.data.toList.length=s.size:=by simp
 obtain⟨c0,c1,c5,-,-,hi,-⟩:=h.cells;have HD:=ae h;rw[ut];rw[if_neg n34,if_neg nin,if_neg ntf,if_neg n91];have n43:¬nx s.data.toList i=43:=fun e=>nin (Or.inl e)
 have n45:¬nx s.data.toList i=45:=fun e=>nin (Or.inr (Or.inl e))
 have ndg:aI (nx s.data.toList i)=false:=by cases hh:aI (nx s.data.toList i);rfl;exact(nin (Or.inr (Or.inr hh))).elim
 have n116:¬nx s.data.toList i=116:=fun e=>ntf (Or.inl e)
 have n102:¬nx s.data.toList i=102:=fun e=>ntf (Or.inr e)
 have hlt:=hlt0;have hge:decide ((s.size:Int)<=(i:Int))=false:=by simp;omega
 have uF:¬(s.size:Int)<=(i:Int):=by omega
 have fE:Hd (nx s.data.toList i=(s[i].toNat:Int)):=byte_at s i hlt;have q34:((s[i].toNat:Int) == 34)=false:=by rw[beq_eq_false_iff_ne,<-fE.o];exact n34
 have q91:((s[i].toNat:Int) == 91)=false:=by rw[beq_eq_false_iff_ne,<-fE.o];exact n91
 have q43:((s[i].toNat:Int) == 43)=false:=by rw[beq_eq_false_iff_ne,<-fE.o];exact n43
 have q45:((s[i].toNat:Int) == 45)=false:=by rw[beq_eq_false_iff_ne,<-fE.o];exact n45
 have q116:((s[i].toNat:Int) == 116)=false:=by rw[beq_eq_false_iff_ne,<-fE.o];exact n116
 have q102:((s[i].toNat:Int) == 102)=false:=by rw[beq_eq_false_iff_ne,<-fE.o];exact n102
 have CD:Hd (∀w,Calls prog 47 #[.int .u8 (s[i].toNat:Int)] w fun e w'=>e=.returned (.bool false)/\w'=w):=fun w=>by
  have:=Bl s[i] w;rw[<-fE.o,ndg]at this;rw[<-fE.o];exact this
 have CF:=ae (fun w (h:Dt w B P R s now d (.ok i) ns own)=>zX B P R s now d ns own i w h 2 (by decide) i);clear h V W hk2 fE n34 nin ntf n91 n43 n45 ndg n116 n102;go_enter func59,ntmps59;go_wp2;go_quiet (fail);have aF:=HD.o.drew nq;have dH:=ae aF.1;have cZ:=ae aF.2;obtain⟨wA,hwA⟩:=zN (w.drewN nq);rw[hwA]at dH cZ ⊢;obtain⟨d0,d1,d5,-,-,-,-⟩:=dH.o.cells;clear hwA aF c0 c1 c5;go_wp2;go_quiet (fail);have bg:=dH.o.drew nq;have jX:=ae bg.1;have lC:=ae (cZ.o.two bg.2);obtain⟨wB,hwB⟩:=zN (wA.drewN nq);rw[hwB]at jX lC ⊢;obtain⟨g0,g1,g5,-,-,-,-⟩:=jX.o.cells;clear hwB bg d0 d1 d5;go_wp2_with (first|(go_at_call 47;refine(CD.o _).mono ?_;rintro e w' ⟨rfl,rfl⟩)|(go_at_call 58;refine(CF.o _ jX.o).mono ?_;rintro e w2 ⟨rfl,hd2,hf2⟩));refine bodyPost_end (results_none rfl _ _ _) rfl ?_;exact⟨rfl,fun j ns' hh=>(by cases hh),fun c hh=>(by cases hh;exact hd2.fq),lC.o.two hf2⟩
theorem Dt.setI{w:World}{B P R:Nat}{s:ByteArray}{now de i:Nat}{ns:List Tn}{own:List Nat}(h:Dt w B P R s now de (.ok i) ns own)(j:Nat)(hj:j<=s.size):Dt (w.setCell ⟨R,1,none⟩ (.int .i64 (j:Nat))) B P R s now de (.ok j) ns own/\DFr B P w (w.setCell ⟨R,1,none⟩ (.int .i64 (j:Nat))) :=
 h.keep (fun L O hd=>⟨hj,hd.2.setI j⟩) (aT (ax w (some R)) 1 _)
theorem ahb(f:Nat)(B P R:Nat)(s:ByteArray)(own:List Nat)(now i up:Nat)(k:List UInt8)(p d:Nat)(ns:List Tn)(w:World)(h:Dt w B P R s now d (.ok i) ns own)(hs:s.size<=100000)(W:WF ns own)(V:WT ns)(hu:up<ns.length)(hk2:¬ay ns up=2)(hd:d<=8)(hsz:ns.length+(s.size-i)<=700000)(hf:2*(s.size-i)+1<=f+1)(hx:nx s.data.toList i=116\/nx s.data.toList i=102) :
  Calls prog 59 #[.pointer (some ⟨R,0,none⟩),.int .i64 (up:Nat),.string ⟨k.toArray⟩,.int .i64 (p:Nat)] w (uT B P R s now d own (val s.data.toList (f+1) i up k p d ns) w):=by
 have hl:s.data.toList.length=s.size:=by simp
 obtain⟨c0,c1,c5,-,-,hi,-⟩:=h.cells;have HD:=ae h;rw[agn _ _ _ _ _ _ _ _ hx];have hlt0:i<s.size:=by
  have:=bD (l:=s.data.toList) (i:=i) (by rcases hx with h|h<;>rw[h]<;>decide);omega
 have hlt:=hlt0;have hge:decide ((s.size:Int)<=(i:Int))=false:=by simp;omega
 have uF:¬(s.size:Int)<=(i:Int):=by omega
 have fE:Hd (nx s.data.toList i=(s[i].toNat:Int)):=byte_at s i hlt;have q34:((s[i].toNat:Int) == 34)=false:=by rw[beq_eq_false_iff_ne,<-fE.o];rcases hx with h|h<;>rw[h]<;>decide
 have q91:((s[i].toNat:Int) == 91)=false:=by rw[beq_eq_false_iff_ne,<-fE.o];rcases hx with h|h<;>rw[h]<;>decide
 have q43:((s[i].toNat:Int) == 43)=false:=by rw[beq_eq_false_iff_ne,<-fE.o];rcases hx with h|h<;>rw[h]<;>decide
 have q45:((s[i].toNat:Int) == 45)=false:=by rw[beq_eq_false_iff_ne,<-fE.o];rcases hx with h|h<;>rw[h]<;>decide
 have ndg:aI (nx s.data.toList i)=false:=by rcases hx with h|h<;>rw[h]<;>decide
 have CD:Hd (∀w,Calls prog 47 #[.int .u8 (s[i].toNat:Int)] w fun e w'=>e=.returned (.bool false)/\w'=w):=fun w=>by
  have:=Bl s[i] w;rw[<-fE.o,ndg]at this;rw[<-fE.o];exact this
 have wY:Hd (((s[i].toNat:Int) == 116)=true\/(((s[i].toNat:Int) == 116)=false/\((s[i].toNat:Int) == 102)=true)):=by
  show _\/_;rw[<-fE.o]
  rcases hx with h|h
  ·left;rw[h];rfl
  ·right;rw[h];exact⟨rfl,rfl⟩
 have CA:=ae (fun(q:Rs Nat) (t:Int) w (h:Dt w B P R s now d q ns own)=>wS B P R s now d q ns own up 5 t k [] p w h W hu (by omega));have CF:=ae (fun j w (h:Dt w B P R s now d (.ok j) ns own)=>zX B P R s now d ns own j w h 2 (by decide) i);have HST:Hd (∀k (hk:k<s.size),dN (s[k].toNat:Int)=true->toR dN s.data.toList k=toR dN s.data.toList (k+1)):=fun k hk hb=>rO dN _ k (by omega) (by rw[byte_at s k hk];exact hb)
 have gQ:=ae (fun k (hk:k<s.size) (hb:dN (s[k].toNat:Int)=false)=>mJ dN _ k (by rw[byte_at s k hk];exact hb));have mO:Hd (∀k,s.size<=k->toR dN s.data.toList k=k):=fun k hk=>Em dN _ k (by omega)
 obtain⟨Q,hQ⟩:∃Q:Rs (Nat × List Tn),(zY (fun n=>addN ns up ⟨5,k,[],n,[],p⟩) (l7 s.data.toList i))=Q:=⟨_,rfl⟩;have HQ:Hd (zY (fun n=>addN ns up ⟨5,k,[],n,[],p⟩) (if au s.data.toList i (toR dN s.data.toList i-i)=[116,114,117,101] then .ok (1,toR dN s.data.toList i) else if au s.data.toList i (toR dN s.data.toList i-i)=[102,97,108,115,101] then .ok (0,toR dN s.data.toList i) else .error (2,i))=Q):=by
  show _=_;rw[<-IE];exact hQ
 rw[hQ];clear h hx hQ V W hk2 fE ndg;go_enter func59,ntmps59;go_wp2;go_quiet (fail);have aF:=HD.o.drew nq;have dH:=ae aF.1;have cZ:=ae aF.2;obtain⟨wA,hwA⟩:=zN (w.drewN nq);rw[hwA]at dH cZ ⊢;obtain⟨d0,d1,d5,-,-,-,-⟩:=dH.o.cells;clear hwA aF c0 c1 c5;go_wp2;go_quiet (fail);have bg:=dH.o.drew nq;have jX:=ae bg.1;have lC:=ae (cZ.o.two bg.2);obtain⟨wB,hwB⟩:=zN (wA.drewN nq);rw[hwB]at jX lC ⊢;obtain⟨g0,g1,g5,-,-,-,-⟩:=jX.o.cells;clear hwB bg d0 d1 d5
 rcases wY.o with q116|⟨q116,q102⟩
 all_goals (
  go_wp2_with (go_at_call 47;refine(CD.o _).mono ?_;rintro e w' ⟨rfl,rfl⟩);go_loopw [] (fun wr=>∃j:Nat,Dt wr B P R s now d (.ok j) ns own/\i<=j/\toR dN s.data.toList j=toR dN s.data.toList i/\DFr B P w wr) (fun wr=>s.size-dI wr R)
  case atStart=>exact⟨i,jX.o,Nat.le_refl _,rfl,lC.o⟩
  case round=>
   obtain⟨j,hdj,hij,hto,hfj⟩:=hrel;obtain⟨e0,e1,e5,-,-,hj,ef⟩:=hdj.cells;have ef1:=ef 1;have uY:=ae hdj;have YZ:=ae hfj;have nO:=ae hto;have eY:Hd (dI wr R=j):=by show dI wr R=j;unfold dI;rw[e1];simp
   clear hdj hto hfj ef;have hcs:(∃hjl:j<s.size,97<=(s[j].toNat:Int)/\(s[j].toNat:Int)<=122)\/(toR dN s.data.toList i=j/\((∃hjl:j<s.size,decide ((j:Int)<(s.size:Int))=true/\decide (97<=(s[j].toNat:Int))=true/\decide ((s[j].toNat:Int)<=122)=false)\/(∃hjl:j<s.size,decide ((j:Int)<(s.size:Int))=true/\decide (97<=(s[j].toNat:Int))=false)\/(¬j<s.size/\decide ((j:Int)<(s.size:Int))=false))):=by
    by_cases hjl:j<s.size
    ·have hlt2:decide ((j:Int)<(s.size:Int))=true:=by simp;omega
     have Y0:dN (s[j].toNat:Int)=decide (97<=(s[j].toNat:Int)/\(s[j].toNat:Int)<=122):=rfl
     by_cases h97:97<=(s[j].toNat:Int)
     ·by_cases h122:(s[j].toNat:Int)<=122
      ·exact Or.inl ⟨hjl,h97,h122⟩
      ·exact Or.inr ⟨nO.o.symm.trans (gQ.o j hjl (by rw[Y0,decide_eq_false (fun h=>h122 h.2)])),Or.inl ⟨hjl,hlt2,by simpa using h97,by simpa using h122⟩⟩
     ·exact Or.inr ⟨nO.o.symm.trans (gQ.o j hjl (by rw[Y0,decide_eq_false (fun h=>h97 h.1)])),Or.inr (Or.inl ⟨hjl,hlt2,by simpa using h97⟩)⟩
    ·exact Or.inr ⟨nO.o.symm.trans (mO.o j (by omega)),Or.inr (Or.inr ⟨hjl,by simp;omega⟩)⟩
   rcases hcs with⟨hjl,h97,h122⟩|⟨hJ,⟨hjl,hlt',g97,g122⟩|⟨hjl,hlt',g97⟩|⟨hjl,hge'⟩⟩
   ·have hlt':decide ((j:Int)<(s.size:Int))=true:=by simp;omega
    have g97:decide (97<=(s[j].toNat:Int))=true:=by simpa using h97
    have g122:decide ((s[j].toNat:Int)<=122)=true:=by simpa using h122
    have HN:=ae ((HST.o j hjl (show dN _=true from decide_eq_true ⟨h97,h122⟩)).symm.trans nO.o);go_wp2;go_quiet (fail);have lm:=uY.o.drew nq;have xe:=ae lm.1;have Ac:=ae (YZ.o.two lm.2);obtain⟨wC,oU⟩:=zN (wr.drewN nq);rw[oU]at xe Ac ⊢;obtain⟨k0,k1,k5,-,-,-,kf⟩:=xe.o.cells;have kf1:=kf 1;have iU:=xe.o.setI (j+1) (by omega);have dP:Hd (Dt (wC.setCell ⟨R,1,none⟩ (.int .i64 ((j:Int)+1))) B P R s now d (.ok (j+1)) ns own):=iU.1;have HS2:Hd (DFr B P w (wC.setCell ⟨R,1,none⟩ (.int .i64 ((j:Int)+1)))):=Ac.o.two iU.2;clear oU lm kf iU;go_wp2;refine⟨⟨j+1,dP.o,by omega,HN.o,HS2.o⟩,?_⟩;have e9:dI (wC.setCell ⟨R,1,none⟩ (.int .i64 ((j:Int)+1))) R=j+1:=by
     unfold dI;rw[dP.o.cells.2.1];simp
    rw[eY.o,e9];omega
   all_goals (
    have HJ:=ae hJ;clear hJ;go_wp2;go_quiet (fail);have lm:=uY.o.drew nq;have xe:=ae lm.1;have Ac:=ae (YZ.o.two lm.2);obtain⟨wC,oU⟩:=zN (wr.drewN nq);rw[oU]at xe Ac ⊢;obtain⟨k0,k1,k5,-,-,-,-⟩:=xe.o.cells;clear oU lm;have Ky:=HQ.o;rw[HJ.o]at Ky;obtain⟨X,hX⟩:=zN (au s.data.toList i (j-i));have sl:∀wx,(Instr.slice 9 (.string s) (some (.int .i64 (i:Int))) (some (.int .i64 (j:Int))) none).run prog wx=.ok (.string ⟨X.toArray⟩) wx:=fun wx=>by
     rw[<-hX];exact mM s i j hij hj wx
    rw[hX]at Ky;have Qp:=ae Ky;clear hX Ky
    by_cases hT:X=[116,114,117,101]
    ·have bT:(X == [116,114,117,101])=true:=by simpa using hT
     have jB:Hd (Q=.ok (j,addN ns up ⟨5,k,[],1,[],p⟩)):=by
      have:=Qp.o;rw[if_pos hT]at this;exact this.symm
     clear hT;go_wp2;go_quiet (fail);have jL:=xe.o.drew nq;have yK:=ae jL.1;have fA:=ae (Ac.o.two jL.2);obtain⟨wE,hwE⟩:=zN (wC.drewN nq);rw[hwE]at yK fA ⊢;clear hwE jL k0 k1 k5;go_wp2_with (go_at_call 26;refine(CA.o _ 1 _ yK.o).mono ?_;rintro e w3 ⟨rfl,hd3,hf3⟩);refine bodyPost_end (results_none rfl _ _ _) rfl ?_;rw[jB.o];exact⟨rfl,fun j ns' hh=>(by cases hh;exact hd3),fun c' hh=>(by cases hh),fA.o.two hf3⟩
    ·have bT:(X == [116,114,117,101])=false:=by simpa using hT
     by_cases hF:X=[102,97,108,115,101]
     ·have bF:(X == [102,97,108,115,101])=true:=by simpa using hF
      have bG:(X != [102,97,108,115,101])=false:=by simpa using hF
      have jB:Hd (Q=.ok (j,addN ns up ⟨5,k,[],0,[],p⟩)):=by
       have:=Qp.o;rw[if_neg hT,if_pos hF]at this;exact this.symm
      clear hT hF;go_wp2;go_quiet (fail);have jL:=xe.o.drew nq;have yK:=ae jL.1;have fA:=ae (Ac.o.two jL.2);obtain⟨wE,hwE⟩:=zN (wC.drewN nq);rw[hwE]at yK fA ⊢;clear hwE jL k0 k1 k5;go_wp2_with (go_at_call 26;refine(CA.o _ 0 _ yK.o).mono ?_;rintro e w3 ⟨rfl,hd3,hf3⟩);refine bodyPost_end (results_none rfl _ _ _) rfl ?_;rw[jB.o];exact⟨rfl,fun j ns' hh=>(by cases hh;exact hd3),fun c' hh=>(by cases hh),fA.o.two hf3⟩
     ·have bF:(X == [102,97,108,115,101])=false:=by simpa using hF
      have bG:(X != [102,97,108,115,101])=true:=by simpa using hF
      have jB:Hd (Q=.error (2,i)):=by
       have:=Qp.o;rw[if_neg hT,if_neg hF]at this;exact this.symm
      clear hT hF;go_wp2;go_quiet (fail);have jL:=xe.o.drew nq;have yK:=ae jL.1;have fA:=ae (Ac.o.two jL.2);obtain⟨wE,hwE⟩:=zN (wC.drewN nq);rw[hwE]at yK fA ⊢;clear hwE jL k0 k1 k5;go_wp2_with (first|(go_at_call 58;refine(CF.o j _ yK.o).mono ?_;rintro e w3 ⟨rfl,hd3,hf3⟩)|(go_at_call 26;refine(CA.o _ 0 _ hd3).mono ?_;rintro e w4 ⟨rfl,hd4,hf4⟩));refine bodyPost_end (results_none rfl _ _ _) rfl ?_;rw[jB.o];exact⟨rfl,fun j ns' hh=>(by cases hh),fun c' hh=>(by cases hh;exact hd4.fq),(fA.o.two hf3).two hf4⟩))
end Go.Proofs.YtbcfhgpfgdbjgaaGreatDoor
