import Derived.Test.YtnnbgjaphfhibaaGreatDoorN16
import Derived.Test.YtnnbgjaphfhibaaGreatDoorN11
set_option linter.unusedVariables false
set_option linter.unusedSimpArgs false
set_option maxRecDepth 100000
set_option maxHeartbeats 6400000
open Go.Proofs.Tryz
namespace Go.Proofs.YtnnbgjaphfhibaaGreatDoor
open Go.RowKit Go.Joins
theorem aaJ(R:Nat)(s:ByteArray)(L O:Value)(now de i:Nat)(w:World)(h:Dd w R s L O now de i 0 0)(hi:i<s.size)(hs:s.size<=1048576)(hn:i+1<s.size)(hx:nx s.data.toList (i+1)=117) :
  Calls prog 160 #[.pointer (some ⟨R,0,none⟩)] w (mP 3 R s L O now de (esc s.data.toList i) w):=by
 have hl:s.data.toList.length=s.size:=by simp
 have HS:Hd (Dd (w.setCell ⟨R,1,none⟩ (.int .i64 ((i:Int)+1))) R s L O now de (i+1) 0 0):=h.setI (i+1);have eP:Hd (w.grownBy (w.setCell ⟨R,1,none⟩ (.int .i64 ((i:Int)+1))) (some R)):=aV (ak w (some R)) 1 _;obtain⟨c0,c1,-,-,-,-,-,-,df⟩:=h.cells;have df1:=df 1;have HE:Hd (esc s.data.toList i=Bf i (four s.data.toList 4 (i+2) 0)):=ZQ _ _ hx;rw[HE.o];have fG:Hd (∀(hj:i+1<s.size),nx s.data.toList (i+1)=(s[i+1].toNat:Int)):=byte_at s (i+1);clear h df;obtain⟨j,hj⟩:=zN (i+1);have hij:i+2=j+1:=by omega
 have hlt:j<s.size:=by omega
 have hge:decide ((s.size:Int)<=(j:Int))=false:=by simp;omega
 have kZ:¬(s.size:Int)<=(j:Int):=by omega
 rw[hj]at HS hx fG;rw[hij];have HX:Hd (nx s.data.toList j=(s[j].toNat:Int)):=fG.o hlt;clear hj hij fG hn HE;have q98:((s[j].toNat:Int) == 98)=false:=by rw[<-HX.o,hx];rfl
 have q116:((s[j].toNat:Int) == 116)=false:=by rw[<-HX.o,hx];rfl
 have q110:((s[j].toNat:Int) == 110)=false:=by rw[<-HX.o,hx];rfl
 have q102:((s[j].toNat:Int) == 102)=false:=by rw[<-HX.o,hx];rfl
 have q114:((s[j].toNat:Int) == 114)=false:=by rw[<-HX.o,hx];rfl
 have q34:((s[j].toNat:Int) == 34)=false:=by rw[<-HX.o,hx];rfl
 have q92:((s[j].toNat:Int) == 92)=false:=by rw[<-HX.o,hx];rfl
 have q117:((s[j].toNat:Int) == 117)=true:=by rw[<-HX.o,hx];rfl
 clear HX hx;have SB:Hd (∀wx,Dd wx R s L O now de (j+1) 0 0->Calls prog 201 #[.pointer (some ⟨R,0,none⟩)] wx (Rh R s L O now de (four s.data.toList 4 (j+1) 0) wx)):=fun wx h=>ZP R s L O now de (j+1) wx h (by omega) hs
 have FZ:Hd (∀n k,four s.data.toList 4 (j+1) 0=.ok (n,k)->n<65536):=fun n k hh=>by have:=Ri _ _ _ _ _ _ hh;omega
 have CW:Hd (∀n:Nat,n<65536->∀w,Calls prog 202 #[.int .i64 (n:Nat)] w fun e w'=>e=.returned (.string ⟨(fO n).toArray⟩)/\w.grownBy w' none):=Rf;have CW0:Hd (∀w,Calls prog 202 #[.int .i64 0] w fun e w'=>e=.returned (.string ⟨(fO 0).toArray⟩)/\w.grownBy w' none):=Rf 0 (by omega);obtain⟨F,hF⟩:=zN (four s.data.toList 4 (j+1) 0);rw[hF]at SB FZ ⊢;clear hF;go_enter func160,ntmps160;go_wp2;obtain⟨wA,hwA⟩:∃W,w.setCell ⟨R,1,none⟩ (.int .i64 ((i:Int)+1))=W:=⟨_,rfl⟩;rw[hwA]at HS eP ⊢;obtain⟨d0,d1,-,-,-,-,-,-,dg⟩:=HS.o.cells;have dg1:=dg 1;clear hwA dg c0 c1 df1;go_quiet (fail);have aK:Hd (Dd (wA.drewN nq) R s L O now de j 0 0):=HS.o;have aG:Hd (w.grownBy (wA.drewN nq) (some R)):=au eP.o nq;obtain⟨wB,hwB⟩:∃W,wA.drewN nq=W:=⟨_,rfl⟩;rw[hwB]at aK aG ⊢;obtain⟨f0,f1,-,-,-,-,-,-,fg⟩:=aK.o.cells;have fg1:=fg 1;clear hwB fg d0 d1 dg1
 go_wp2;go_quiet (fail);have dJ:Hd (Dd (wB.drewN nq) R s L O now de j 0 0):=aK.o;have bC:Hd (w.grownBy (wB.drewN nq) (some R)):=au aG.o nq;obtain⟨wC,fH⟩:∃W,wB.drewN nq=W:=⟨_,rfl⟩;rw[fH]at dJ bC ⊢;obtain⟨g0,g1,-,-,-,-,-,-,gg⟩:=dJ.o.cells;have gg1:=gg 1;have eY:Hd (Dd (wC.setCell ⟨R,1,none⟩ (.int .i64 ((j:Int)+1))) R s L O now de (j+1) 0 0):=dJ.o.setI (j+1);have gu:Hd (w.grownBy (wC.setCell ⟨R,1,none⟩ (.int .i64 ((j:Int)+1))) (some R)):=aV bC.o 1 _;clear fH gg f0 f1 fg1;go_wp2_with (go_at_call 201;refine(SB.o _ eY.o).mono ?_);rintro e w2 ⟨h1,h2,hg2⟩;have HG2:Hd (w.grownBy w2 (some R)):=dH gu.o hg2;clear hg2
 match F,h1,h2,FZ with
 | .error (c,p),h1,h2,_ =>
  obtain⟨rfl,hne,k,hk,hd⟩:=h2 c p rfl;obtain⟨-,-,-,-,-,e5,-⟩:=hd.cells;have hb:(c == 0)=false:=by simpa using hne
  have HD:Hd (Dd w2 R s L O now de k c p):=hd;have oU:Hd (c≠0):=hne;have HK:Hd (k<=s.size):=hk;clear h1 h2 hd hne hk;go_wp2_with (go_at_call 202;refine(CW0.o _).mono ?_;rintro e w3 ⟨rfl,hg3⟩);go_ret;exact⟨fun t k hh=>(by have hh:(Except.error (c,p):Rs (List UInt8 × Nat))=.ok (t,k):=hh;cases hh),fun c' p' hh=>(by have hh:(Except.error (c,p):Rs (List UInt8 × Nat))=.error (c',p'):=hh;injection hh with hh;injection hh with e1 e2;subst e1 e2;exact⟨⟨fO 0,by decide,rfl⟩,oU.o,k,HK.o,HD.o.grow hg3⟩),aF HG2.o hg3⟩
 | .ok (n,k),h1,h2,FZ =>
  obtain⟨rfl,hk,hd⟩:=h1 n k rfl;have hn:=FZ.o n k rfl;obtain⟨-,-,-,-,-,e5,-⟩:=hd.cells;have HD:Hd (Dd w2 R s L O now de k 0 0):=hd;have HK:Hd (k<=s.size):=hk;have Kv:Hd (∀w,Calls prog 202 #[.int .i64 (n:Nat)] w fun e w'=>e=.returned (.string ⟨(fO n).toArray⟩)/\w.grownBy w' none):=CW.o n hn;have F6:Hd ((fO n).length<=3):=by
   show _<=_;have:=EW n;omega
  have CF:Hd (∀wx,Dd wx R s L O now de k 0 0->Calls prog 82 #[.pointer (some ⟨R,0,none⟩),.int .i64 2,.int .i64 (i:Nat)] wx fun en w'=>en=.returned (.tuple #[])/\Dd w' R s L O now de k 2 i/\wx.grownBy w' (some R)):=fun wx hg=>oV R s L O now de k 2 i wx hg
  clear h1 h2 hd hk
  by_cases Kw:55296<=n
  ·by_cases h57:n<=57343
   ·have HE:Hd (Bf i (.ok (n,k))=.error (2,i)):=by show(if _ then _ else _)=_;exact if_pos ⟨Kw,h57⟩
    have g1':(55296:Int)<=(n:Int):=by omega
    have g2':(n:Int)<=57343:=by omega
    go_wp2_with (first|(go_at_call 82;refine(CF.o _ HD.o).mono ?_;rintro e w3 ⟨rfl,hd3,hg3⟩)|(go_at_call 202;refine(Kv.o _).mono ?_;rintro e w4 ⟨rfl,hg4⟩));go_ret;rw[HE.o];exact⟨fun t k hh=>(by cases hh),fun c p hh=>(by cases hh;exact⟨⟨fO n,F6.o,rfl⟩,by decide,k,HK.o,hd3.grow hg4⟩),aF (dH HG2.o hg3) hg4⟩
   ·have HE:Hd (Bf i (.ok (n,k))=.ok (fO n,k)):=by show(if _ then _ else _)=_;exact if_neg (fun h=>h57 h.2)
    have g1':(55296:Int)<=(n:Int):=by omega
    have g2':(57343:Int)<(n:Int):=by omega
    go_wp2_with (go_at_call 202;refine(Kv.o _).mono ?_;rintro e w4 ⟨rfl,hg4⟩);go_ret;rw[HE.o];exact⟨fun t k hh=>(by cases hh;exact⟨rfl,HK.o,HD.o.grow hg4⟩),fun c p hh=>(by cases hh),aF HG2.o hg4⟩
  ·have HE:Hd (Bf i (.ok (n,k))=.ok (fO n,k)):=by show(if _ then _ else _)=_;exact if_neg (fun h=>Kw h.1)
   have g1':(n:Int)<55296:=by omega
   have g0':decide ((55296:Int)<=(n:Int))=false:=by rw[decide_eq_false_iff_not];omega
   have g3':¬(55296:Int)<=(n:Int):=by omega
   clear Kw hn g1';go_wp2_with (go_at_call 202;refine(Kv.o _).mono ?_;rintro e w4 ⟨rfl,hg4⟩);go_ret;rw[HE.o];exact⟨fun t k hh=>(by cases hh;exact⟨rfl,HK.o,HD.o.grow hg4⟩),fun c p hh=>(by cases hh),aF HG2.o hg4⟩
end Go.Proofs.YtnnbgjaphfhibaaGreatDoor
