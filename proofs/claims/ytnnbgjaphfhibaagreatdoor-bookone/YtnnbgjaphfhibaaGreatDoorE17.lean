import Derived.Test.YtnnbgjaphfhibaaGreatDoorE11
import Derived.Test.YtnnbgjaphfhibaaGreatDoorE10
set_option linter.all false
set_option maxRecDepth 100000
set_option maxHeartbeats 0
open Go.Proofs.Tryz
namespace Go.Proofs.YtnnbgjaphfhibaaGreatDoor
open Go.RowKit Go.Joins
theorem ac3(R:Nat)(s:ByteArray)(L O:Value)(now de i:Nat)(w:World)(h:Dd w R s L O now de i 0 0)(hi:i<s.size)(hs:s.size<=1048576)(hn:i+1<s.size)(hx:nx s.data.toList (i+1)=117) :
  Calls prog 160 #[.pointer (some ⟨R,0,none⟩)] w (qj 3 R s L O now de (esc s.data.toList i) w):=by
 have hl:s.data.toList.length=s.size:=by simp
 have HS:Hd (Dd (w.setCell ⟨R,1,none⟩ (.int .i64 ((i:Int)+1))) R s L O now de (i+1) 0 0):=h.setI (i+1);have fD:Hd (w.grownBy (w.setCell ⟨R,1,none⟩ (.int .i64 ((i:Int)+1))) (some R)):=aS (au w (some R)) 1 _;obtain⟨c0,c1,-,-,-,-,-,-,df⟩:=h.cells;have df1:=df 1;have HE:=ae (abL _ _ hx);rw[HE.o];have fQ:Hd (∀(hj:i+1<s.size),nx s.data.toList (i+1)=(s[i+1].toNat:Int)):=byte_at s (i+1);clear h df;obtain⟨j,hj⟩:=zN (i+1);have hij:i+2=j+1:=by omega
 have hlt:j<s.size:=by omega
 have hge:decide ((s.size:Int)<=(j:Int))=false:=by simp;omega
 have lU:¬(s.size:Int)<=(j:Int):=by omega
 rw[hj]at HS hx fQ;rw[hij];have HX:=ae (fQ.o hlt);clear hj hij fQ hn HE;have q98:((s[j].toNat:Int) == 98)=false:=by rw[<-HX.o,hx];rfl
 have q116:((s[j].toNat:Int) == 116)=false:=by rw[<-HX.o,hx];rfl
 have q110:((s[j].toNat:Int) == 110)=false:=by rw[<-HX.o,hx];rfl
 have q102:((s[j].toNat:Int) == 102)=false:=by rw[<-HX.o,hx];rfl
 have q114:((s[j].toNat:Int) == 114)=false:=by rw[<-HX.o,hx];rfl
 have q34:((s[j].toNat:Int) == 34)=false:=by rw[<-HX.o,hx];rfl
 have q92:((s[j].toNat:Int) == 92)=false:=by rw[<-HX.o,hx];rfl
 have q117:((s[j].toNat:Int) == 117)=true:=by rw[<-HX.o,hx];rfl
 clear HX hx;have Vh:=ae (fun wx (h:Dd wx R s L O now de (j+1) 0 0)=>abK R s L O now de (j+1) wx h (by omega) hs);have Ih:Hd (∀n k,four s.data.toList 4 (j+1) 0=.ok (n,k)->n<65536):=fun n k hh=>by have:=TS _ _ _ _ _ _ hh;omega
 have CW:=ae TR;have CW0:Hd (∀w,Calls prog 202 #[.int .i64 0] w fun e w'=>e=.returned (.string ⟨(iE 0).toArray⟩)/\w.grownBy w' none):=TR 0 (by omega);obtain⟨F,hF⟩:=zN (four s.data.toList 4 (j+1) 0);rw[hF]at Vh Ih ⊢;clear hF;go_enter func160,ntmps160;go_wp2;obtain⟨wA,hwA⟩:=zN (w.setCell ⟨R,1,none⟩ (.int .i64 ((i:Int)+1)));rw[hwA]at HS fD ⊢;obtain⟨d0,d1,-,-,-,-,-,-,dg⟩:=HS.o.cells;have dg1:=dg 1;clear hwA dg c0 c1 df1;go_quiet (fail);have aI:Hd (Dd (wA.drewN nq) R s L O now de j 0 0):=HS.o;have aH:=ae (ay fD.o nq);obtain⟨wB,hwB⟩:=zN (wA.drewN nq);rw[hwB]at aI aH ⊢;obtain⟨f0,f1,-,-,-,-,-,-,fg⟩:=aI.o.cells;have fg1:=fg 1;clear hwB fg d0 d1 dg1;go_wp2;go_quiet (fail);have dL:Hd (Dd (wB.drewN nq) R s L O now de j 0 0):=aI.o;have bf:=ae (ay aH.o nq);obtain⟨wC,fU⟩:=zN (wB.drewN nq)
 rw[fU]at dL bf ⊢;obtain⟨g0,g1,-,-,-,-,-,-,gg⟩:=dL.o.cells;have gg1:=gg 1;have fK:Hd (Dd (wC.setCell ⟨R,1,none⟩ (.int .i64 ((j:Int)+1))) R s L O now de (j+1) 0 0):=dL.o.setI (j+1);have gX:Hd (w.grownBy (wC.setCell ⟨R,1,none⟩ (.int .i64 ((j:Int)+1))) (some R)):=aS bf.o 1 _;clear fU gg f0 f1 fg1;go_wp2_with (go_at_call 201;refine(Vh.o _ fK.o).mono ?_);rintro e w2 ⟨h1,h2,hg2⟩;have HG2:=ae (dK gX.o hg2);clear hg2
 match F,h1,h2,Ih with
 | .error (c,p),h1,h2,_ =>
  obtain⟨rfl,hne,k,hk,hd⟩:=h2 c p rfl;obtain⟨-,-,-,-,-,e5,-⟩:=hd.cells;have hb:(c == 0)=false:=by simpa using hne
  have HD:=ae hd;have qc:=ae hne;have HK:=ae hk;clear h1 h2 hd hne hk;go_wp2_with (go_at_call 202;refine(CW0.o _).mono ?_;rintro e w3 ⟨rfl,hg3⟩);go_ret;exact⟨fun t k hh=>(by have hh:(Except.error (c,p):Rs (List UInt8 × Nat))=.ok (t,k):=hh;cases hh),fun c' p' hh=>(by have hh:(Except.error (c,p):Rs (List UInt8 × Nat))=.error (c',p'):=hh;injection hh with hh;injection hh with e1 e2;subst e1 e2;exact⟨⟨iE 0,by decide,rfl⟩,qc.o,k,HK.o,HD.o.grow hg3⟩),aG HG2.o hg3⟩
 | .ok (n,k),h1,h2,Ih =>
  obtain⟨rfl,hk,hd⟩:=h1 n k rfl;have hn:=Ih.o n k rfl;obtain⟨-,-,-,-,-,e5,-⟩:=hd.cells;have HD:=ae hd;have HK:=ae hk;have Nl:=ae (CW.o n hn);have Ii:Hd ((iE n).length<=3):=by
   show _<=_;have:=He n;omega
  have CF:=ae (fun wx (hg:Dd wx R s L O now de k 0 0)=>qg R s L O now de k 2 i wx hg);clear h1 h2 hd hk
  by_cases Np:55296<=n
  ·by_cases h57:n<=57343
   ·have HE:Hd (Hr i (.ok (n,k))=.error (2,i)):=by show(if _ then _ else _)=_;exact if_pos ⟨Np,h57⟩
    have g1':(55296:Int)<=(n:Int):=by omega
    have g2':(n:Int)<=57343:=by omega
    go_wp2_with (first|(go_at_call 82;refine(CF.o _ HD.o).mono ?_;rintro e w3 ⟨rfl,hd3,hg3⟩)|(go_at_call 202;refine(Nl.o _).mono ?_;rintro e w4 ⟨rfl,hg4⟩));go_ret;rw[HE.o];exact⟨fun t k hh=>(by cases hh),fun c p hh=>(by cases hh;exact⟨⟨iE n,Ii.o,rfl⟩,by decide,k,HK.o,hd3.grow hg4⟩),aG (dK HG2.o hg3) hg4⟩
   ·have HE:Hd (Hr i (.ok (n,k))=.ok (iE n,k)):=by show(if _ then _ else _)=_;exact if_neg (fun h=>h57 h.2)
    have g1':(55296:Int)<=(n:Int):=by omega
    have g2':(57343:Int)<(n:Int):=by omega
    go_wp2_with (go_at_call 202;refine(Nl.o _).mono ?_;rintro e w4 ⟨rfl,hg4⟩);go_ret;rw[HE.o];exact⟨fun t k hh=>(by cases hh;exact⟨rfl,HK.o,HD.o.grow hg4⟩),fun c p hh=>(by cases hh),aG HG2.o hg4⟩
  ·have HE:Hd (Hr i (.ok (n,k))=.ok (iE n,k)):=by show(if _ then _ else _)=_;exact if_neg (fun h=>Np h.1)
   have g1':(n:Int)<55296:=by omega
   have g0':decide ((55296:Int)<=(n:Int))=false:=by rw[decide_eq_false_iff_not];omega
   have g3':¬(55296:Int)<=(n:Int):=by omega
   clear Np hn g1';go_wp2_with (go_at_call 202;refine(Nl.o _).mono ?_;rintro e w4 ⟨rfl,hg4⟩);go_ret;rw[HE.o];exact⟨fun t k hh=>(by cases hh;exact⟨rfl,HK.o,HD.o.grow hg4⟩),fun c p hh=>(by cases hh),aG HG2.o hg4⟩
open Go.RowKit Go.Joins
theorem ac4(R:Nat)(s:ByteArray)(L O:Value)(now de i:Nat)(w:World)(h:Dd w R s L O now de i 0 0)(hi:i<s.size)(hs:s.size<=1048576)(hn:i+1<s.size)(hx:nx s.data.toList (i+1)=98) :
  Calls prog 160 #[.pointer (some ⟨R,0,none⟩)] w (qj 3 R s L O now de (esc s.data.toList i) w):=by
 have hl:s.data.toList.length=s.size:=by simp
 have HS:Hd (Dd (w.setCell ⟨R,1,none⟩ (.int .i64 ((i:Int)+1))) R s L O now de (i+1) 0 0):=h.setI (i+1);have fD:Hd (w.grownBy (w.setCell ⟨R,1,none⟩ (.int .i64 ((i:Int)+1))) (some R)):=aS (au w (some R)) 1 _;obtain⟨c0,c1,-,-,-,-,-,-,df⟩:=h.cells;have df1:=df 1;have HE:=ae (abM _ _ hx);rw[HE.o];have fQ:Hd (∀(hj:i+1<s.size),nx s.data.toList (i+1)=(s[i+1].toNat:Int)):=byte_at s (i+1);clear h df;obtain⟨j,hj⟩:=zN (i+1);have hij:i+2=j+1:=by omega
 have hlt:j<s.size:=by omega
 have hge:decide ((s.size:Int)<=(j:Int))=false:=by simp;omega
 have lU:¬(s.size:Int)<=(j:Int):=by omega
 rw[hj]at HS hx fQ;rw[hij];have HX:=ae (fQ.o hlt);clear hj hij fQ hn HE;have q98:((s[j].toNat:Int) == 98)=true:=by rw[<-HX.o,hx];rfl
 clear HX hx;go_enter func160,ntmps160;go_wp2;obtain⟨wA,hwA⟩:=zN (w.setCell ⟨R,1,none⟩ (.int .i64 ((i:Int)+1)));rw[hwA]at HS fD ⊢;obtain⟨d0,d1,-,-,-,-,-,-,dg⟩:=HS.o.cells;have dg1:=dg 1;clear hwA dg c0 c1 df1;go_quiet (fail);have aI:Hd (Dd (wA.drewN nq) R s L O now de j 0 0):=HS.o;have aH:=ae (ay fD.o nq);obtain⟨wB,hwB⟩:=zN (wA.drewN nq);rw[hwB]at aI aH ⊢;obtain⟨f0,f1,-,-,-,-,-,-,fg⟩:=aI.o.cells;have fg1:=fg 1;clear hwB fg d0 d1 dg1;go_wp2;go_quiet (fail);have dL:Hd (Dd (wB.drewN nq) R s L O now de j 0 0):=aI.o;have bf:=ae (ay aH.o nq);obtain⟨wC,fU⟩:=zN (wB.drewN nq);rw[fU]at dL bf ⊢;obtain⟨g0,g1,-,-,-,-,-,-,gg⟩:=dL.o.cells;have gg1:=gg 1;have fK:Hd (Dd (wC.setCell ⟨R,1,none⟩ (.int .i64 ((j:Int)+1))) R s L O now de (j+1) 0 0):=dL.o.setI (j+1);have gX:Hd (w.grownBy (wC.setCell ⟨R,1,none⟩ (.int .i64 ((j:Int)+1))) (some R)):=aS bf.o 1 _
 clear fU gg f0 f1 fg1;go_wp2;go_ret;exact⟨fun t k hh=>(by cases hh;exact⟨rfl,by omega,fK.o⟩),fun c p hh=>(by cases hh),gX.o⟩
theorem ac5(R:Nat)(s:ByteArray)(L O:Value)(now de i:Nat)(w:World)(h:Dd w R s L O now de i 0 0)(hi:i<s.size)(hs:s.size<=1048576)(hn:i+1<s.size)(hx:nx s.data.toList (i+1)=116) :
  Calls prog 160 #[.pointer (some ⟨R,0,none⟩)] w (qj 3 R s L O now de (esc s.data.toList i) w):=by
 have hl:s.data.toList.length=s.size:=by simp
 have HS:Hd (Dd (w.setCell ⟨R,1,none⟩ (.int .i64 ((i:Int)+1))) R s L O now de (i+1) 0 0):=h.setI (i+1);have fD:Hd (w.grownBy (w.setCell ⟨R,1,none⟩ (.int .i64 ((i:Int)+1))) (some R)):=aS (au w (some R)) 1 _;obtain⟨c0,c1,-,-,-,-,-,-,df⟩:=h.cells;have df1:=df 1;have HE:=ae (abN _ _ hx);rw[HE.o];have fQ:Hd (∀(hj:i+1<s.size),nx s.data.toList (i+1)=(s[i+1].toNat:Int)):=byte_at s (i+1);clear h df;obtain⟨j,hj⟩:=zN (i+1);have hij:i+2=j+1:=by omega
 have hlt:j<s.size:=by omega
 have hge:decide ((s.size:Int)<=(j:Int))=false:=by simp;omega
 have lU:¬(s.size:Int)<=(j:Int):=by omega
 rw[hj]at HS hx fQ;rw[hij];have HX:=ae (fQ.o hlt);clear hj hij fQ hn HE;have q98:((s[j].toNat:Int) == 98)=false:=by rw[<-HX.o,hx];rfl
 have q116:((s[j].toNat:Int) == 116)=true:=by rw[<-HX.o,hx];rfl
 clear HX hx;go_enter func160,ntmps160;go_wp2;obtain⟨wA,hwA⟩:=zN (w.setCell ⟨R,1,none⟩ (.int .i64 ((i:Int)+1)));rw[hwA]at HS fD ⊢;obtain⟨d0,d1,-,-,-,-,-,-,dg⟩:=HS.o.cells;have dg1:=dg 1;clear hwA dg c0 c1 df1;go_quiet (fail);have aI:Hd (Dd (wA.drewN nq) R s L O now de j 0 0):=HS.o;have aH:=ae (ay fD.o nq);obtain⟨wB,hwB⟩:=zN (wA.drewN nq);rw[hwB]at aI aH ⊢;obtain⟨f0,f1,-,-,-,-,-,-,fg⟩:=aI.o.cells;have fg1:=fg 1;clear hwB fg d0 d1 dg1;go_wp2;go_quiet (fail);have dL:Hd (Dd (wB.drewN nq) R s L O now de j 0 0):=aI.o;have bf:=ae (ay aH.o nq);obtain⟨wC,fU⟩:=zN (wB.drewN nq);rw[fU]at dL bf ⊢;obtain⟨g0,g1,-,-,-,-,-,-,gg⟩:=dL.o.cells;have gg1:=gg 1;have fK:Hd (Dd (wC.setCell ⟨R,1,none⟩ (.int .i64 ((j:Int)+1))) R s L O now de (j+1) 0 0):=dL.o.setI (j+1);have gX:Hd (w.grownBy (wC.setCell ⟨R,1,none⟩ (.int .i64 ((j:Int)+1))) (some R)):=aS bf.o 1 _
 clear fU gg f0 f1 fg1;go_wp2;go_ret;exact⟨fun t k hh=>(by cases hh;exact⟨rfl,by omega,fK.o⟩),fun c p hh=>(by cases hh),gX.o⟩
theorem ac6(R:Nat)(s:ByteArray)(L O:Value)(now de i:Nat)(w:World)(h:Dd w R s L O now de i 0 0)(hi:i<s.size)(hs:s.size<=1048576)(hn:i+1<s.size)(hx:nx s.data.toList (i+1)=110) :
  Calls prog 160 #[.pointer (some ⟨R,0,none⟩)] w (qj 3 R s L O now de (esc s.data.toList i) w):=by
 have hl:s.data.toList.length=s.size:=by simp
 have HS:Hd (Dd (w.setCell ⟨R,1,none⟩ (.int .i64 ((i:Int)+1))) R s L O now de (i+1) 0 0):=h.setI (i+1);have fD:Hd (w.grownBy (w.setCell ⟨R,1,none⟩ (.int .i64 ((i:Int)+1))) (some R)):=aS (au w (some R)) 1 _;obtain⟨c0,c1,-,-,-,-,-,-,df⟩:=h.cells;have df1:=df 1;have HE:=ae (abO _ _ hx);rw[HE.o];have fQ:Hd (∀(hj:i+1<s.size),nx s.data.toList (i+1)=(s[i+1].toNat:Int)):=byte_at s (i+1);clear h df;obtain⟨j,hj⟩:=zN (i+1);have hij:i+2=j+1:=by omega
 have hlt:j<s.size:=by omega
 have hge:decide ((s.size:Int)<=(j:Int))=false:=by simp;omega
 have lU:¬(s.size:Int)<=(j:Int):=by omega
 rw[hj]at HS hx fQ;rw[hij];have HX:=ae (fQ.o hlt);clear hj hij fQ hn HE;have q98:((s[j].toNat:Int) == 98)=false:=by rw[<-HX.o,hx];rfl
 have q116:((s[j].toNat:Int) == 116)=false:=by rw[<-HX.o,hx];rfl
 have q110:((s[j].toNat:Int) == 110)=true:=by rw[<-HX.o,hx];rfl
 clear HX hx;go_enter func160,ntmps160;go_wp2;obtain⟨wA,hwA⟩:=zN (w.setCell ⟨R,1,none⟩ (.int .i64 ((i:Int)+1)));rw[hwA]at HS fD ⊢;obtain⟨d0,d1,-,-,-,-,-,-,dg⟩:=HS.o.cells;have dg1:=dg 1;clear hwA dg c0 c1 df1;go_quiet (fail);have aI:Hd (Dd (wA.drewN nq) R s L O now de j 0 0):=HS.o;have aH:=ae (ay fD.o nq);obtain⟨wB,hwB⟩:=zN (wA.drewN nq);rw[hwB]at aI aH ⊢;obtain⟨f0,f1,-,-,-,-,-,-,fg⟩:=aI.o.cells;have fg1:=fg 1;clear hwB fg d0 d1 dg1;go_wp2;go_quiet (fail);have dL:Hd (Dd (wB.drewN nq) R s L O now de j 0 0):=aI.o;have bf:=ae (ay aH.o nq);obtain⟨wC,fU⟩:=zN (wB.drewN nq);rw[fU]at dL bf ⊢;obtain⟨g0,g1,-,-,-,-,-,-,gg⟩:=dL.o.cells;have gg1:=gg 1;have fK:Hd (Dd (wC.setCell ⟨R,1,none⟩ (.int .i64 ((j:Int)+1))) R s L O now de (j+1) 0 0):=dL.o.setI (j+1);have gX:Hd (w.grownBy (wC.setCell ⟨R,1,none⟩ (.int .i64 ((j:Int)+1))) (some R)):=aS bf.o 1 _
 clear fU gg f0 f1 fg1;go_wp2;go_ret;exact⟨fun t k hh=>(by cases hh;exact⟨rfl,by omega,fK.o⟩),fun c p hh=>(by cases hh),gX.o⟩
theorem ac7(R:Nat)(s:ByteArray)(L O:Value)(now de i:Nat)(w:World)(h:Dd w R s L O now de i 0 0)(hi:i<s.size)(hs:s.size<=1048576)(hn:i+1<s.size)(hx:nx s.data.toList (i+1)=102) :
  Calls prog 160 #[.pointer (some ⟨R,0,none⟩)] w (qj 3 R s L O now de (esc s.data.toList i) w):=by
 have hl:s.data.toList.length=s.size:=by simp
 have HS:Hd (Dd (w.setCell ⟨R,1,none⟩ (.int .i64 ((i:Int)+1))) R s L O now de (i+1) 0 0):=h.setI (i+1);have fD:Hd (w.grownBy (w.setCell ⟨R,1,none⟩ (.int .i64 ((i:Int)+1))) (some R)):=aS (au w (some R)) 1 _;obtain⟨c0,c1,-,-,-,-,-,-,df⟩:=h.cells;have df1:=df 1;have HE:=ae (abP _ _ hx);rw[HE.o];have fQ:Hd (∀(hj:i+1<s.size),nx s.data.toList (i+1)=(s[i+1].toNat:Int)):=byte_at s (i+1);clear h df;obtain⟨j,hj⟩:=zN (i+1);have hij:i+2=j+1:=by omega
 have hlt:j<s.size:=by omega
 have hge:decide ((s.size:Int)<=(j:Int))=false:=by simp;omega
 have lU:¬(s.size:Int)<=(j:Int):=by omega
 rw[hj]at HS hx fQ;rw[hij];have HX:=ae (fQ.o hlt);clear hj hij fQ hn HE;have q98:((s[j].toNat:Int) == 98)=false:=by rw[<-HX.o,hx];rfl
 have q116:((s[j].toNat:Int) == 116)=false:=by rw[<-HX.o,hx];rfl
 have q110:((s[j].toNat:Int) == 110)=false:=by rw[<-HX.o,hx];rfl
 have q102:((s[j].toNat:Int) == 102)=true:=by rw[<-HX.o,hx];rfl
 clear HX hx;go_enter func160,ntmps160;go_wp2;obtain⟨wA,hwA⟩:=zN (w.setCell ⟨R,1,none⟩ (.int .i64 ((i:Int)+1)));rw[hwA]at HS fD ⊢;obtain⟨d0,d1,-,-,-,-,-,-,dg⟩:=HS.o.cells;have dg1:=dg 1;clear hwA dg c0 c1 df1;go_quiet (fail);have aI:Hd (Dd (wA.drewN nq) R s L O now de j 0 0):=HS.o;have aH:=ae (ay fD.o nq);obtain⟨wB,hwB⟩:=zN (wA.drewN nq);rw[hwB]at aI aH ⊢;obtain⟨f0,f1,-,-,-,-,-,-,fg⟩:=aI.o.cells;have fg1:=fg 1;clear hwB fg d0 d1 dg1;go_wp2;go_quiet (fail);have dL:Hd (Dd (wB.drewN nq) R s L O now de j 0 0):=aI.o;have bf:=ae (ay aH.o nq);obtain⟨wC,fU⟩:=zN (wB.drewN nq);rw[fU]at dL bf ⊢;obtain⟨g0,g1,-,-,-,-,-,-,gg⟩:=dL.o.cells;have gg1:=gg 1;have fK:Hd (Dd (wC.setCell ⟨R,1,none⟩ (.int .i64 ((j:Int)+1))) R s L O now de (j+1) 0 0):=dL.o.setI (j+1);have gX:Hd (w.grownBy (wC.setCell ⟨R,1,none⟩ (.int .i64 ((j:Int)+1))) (some R)):=aS bf.o 1 _
 clear fU gg f0 f1 fg1;go_wp2;go_ret;exact⟨fun t k hh=>(by cases hh;exact⟨rfl,by omega,fK.o⟩),fun c p hh=>(by cases hh),gX.o⟩
theorem ac8(R:Nat)(s:ByteArray)(L O:Value)(now de i:Nat)(w:World)(h:Dd w R s L O now de i 0 0)(hi:i<s.size)(hs:s.size<=1048576)(hn:i+1<s.size)(hx:nx s.data.toList (i+1)=114) :
  Calls prog 160 #[.pointer (some ⟨R,0,none⟩)] w (qj 3 R s L O now de (esc s.data.toList i) w):=by
 have hl:s.data.toList.length=s.size:=by simp
 have HS:Hd (Dd (w.setCell ⟨R,1,none⟩ (.int .i64 ((i:Int)+1))) R s L O now de (i+1) 0 0):=h.setI (i+1);have fD:Hd (w.grownBy (w.setCell ⟨R,1,none⟩ (.int .i64 ((i:Int)+1))) (some R)):=aS (au w (some R)) 1 _;obtain⟨c0,c1,-,-,-,-,-,-,df⟩:=h.cells;have df1:=df 1;have HE:=ae (abQ _ _ hx);rw[HE.o];have fQ:Hd (∀(hj:i+1<s.size),nx s.data.toList (i+1)=(s[i+1].toNat:Int)):=byte_at s (i+1);clear h df;obtain⟨j,hj⟩:=zN (i+1);have hij:i+2=j+1:=by omega
 have hlt:j<s.size:=by omega
 have hge:decide ((s.size:Int)<=(j:Int))=false:=by simp;omega
 have lU:¬(s.size:Int)<=(j:Int):=by omega
 rw[hj]at HS hx fQ;rw[hij];have HX:=ae (fQ.o hlt);clear hj hij fQ hn HE;have q98:((s[j].toNat:Int) == 98)=false:=by rw[<-HX.o,hx];rfl
 have q116:((s[j].toNat:Int) == 116)=false:=by rw[<-HX.o,hx];rfl
 have q110:((s[j].toNat:Int) == 110)=false:=by rw[<-HX.o,hx];rfl
 have q102:((s[j].toNat:Int) == 102)=false:=by rw[<-HX.o,hx];rfl
 have q114:((s[j].toNat:Int) == 114)=true:=by rw[<-HX.o,hx];rfl
 clear HX hx;go_enter func160,ntmps160;go_wp2;obtain⟨wA,hwA⟩:=zN (w.setCell ⟨R,1,none⟩ (.int .i64 ((i:Int)+1)));rw[hwA]at HS fD ⊢;obtain⟨d0,d1,-,-,-,-,-,-,dg⟩:=HS.o.cells;have dg1:=dg 1;clear hwA dg c0 c1 df1;go_quiet (fail);have aI:Hd (Dd (wA.drewN nq) R s L O now de j 0 0):=HS.o;have aH:=ae (ay fD.o nq);obtain⟨wB,hwB⟩:=zN (wA.drewN nq);rw[hwB]at aI aH ⊢;obtain⟨f0,f1,-,-,-,-,-,-,fg⟩:=aI.o.cells;have fg1:=fg 1;clear hwB fg d0 d1 dg1;go_wp2;go_quiet (fail);have dL:Hd (Dd (wB.drewN nq) R s L O now de j 0 0):=aI.o;have bf:=ae (ay aH.o nq);obtain⟨wC,fU⟩:=zN (wB.drewN nq);rw[fU]at dL bf ⊢;obtain⟨g0,g1,-,-,-,-,-,-,gg⟩:=dL.o.cells;have gg1:=gg 1;have fK:Hd (Dd (wC.setCell ⟨R,1,none⟩ (.int .i64 ((j:Int)+1))) R s L O now de (j+1) 0 0):=dL.o.setI (j+1);have gX:Hd (w.grownBy (wC.setCell ⟨R,1,none⟩ (.int .i64 ((j:Int)+1))) (some R)):=aS bf.o 1 _
 clear fU gg f0 f1 fg1;go_wp2;go_ret;exact⟨fun t k hh=>(by cases hh;exact⟨rfl,by omega,fK.o⟩),fun c p hh=>(by cases hh),gX.o⟩
end Go.Proofs.YtnnbgjaphfhibaaGreatDoor
