import Derived.Test.YtnnbgjaphfhibaaGreatDoorM06
set_option linter.unusedVariables false
set_option linter.unusedSimpArgs false
set_option maxRecDepth 100000
set_option maxHeartbeats 6400000
open Go.Proofs.Tryz
namespace Go.Proofs.YtnnbgjaphfhibaaGreatDoor
open Go.RowKit Go.Joins
theorem Ba(p:Int->Bool)(l:List UInt8)(i:Nat)(h:l.length<=i):toR p l i=i:=by
 unfold toR runN;rw[List.drop_eq_nil_of_le h];simp
theorem Bc{l:List UInt8}{i:Nat}(h:nx l i=-1):l.length<=i:=by
 apply Classical.byContradiction;intro hn;rw[pG l i (by omega)]at h;omega
def Be(R:Nat)(s:ByteArray)(T:Nat)(ty:TypeId)(pv:Value)(r:Bool × Nat)(w:World)(e:Ending)(w':World):Prop:=(r.1=true->e=.returned .nilIface)/\(r.1=false->∃v,e=.returned v/\FaultV w' v r.2 ty pv)/\Rd w' R s r.2 T/\w.grownBy w' (some R)
theorem QD(R:Nat)(s:ByteArray)(i T:Nat)(ty:TypeId)(pv:Value)(w:World)(h:Rd w R s i T)(hi:i<=s.size)(hs:s.size<=1048576)(he:Fh w ty pv)(hR:¬R=6) :
  Calls prog 108 #[.pointer (some ⟨R,0,none⟩)] w (Be R s T ty pv (bu s.data.toList i) w):=by
 have CN:Hd (∀k w,Rd w R s k T->k<=s.size->Calls prog 104 #[.pointer (some ⟨R,0,none⟩)] w fun e w'=>e=.returned (.int .i64 (nx s.data.toList k))/\w.grownBy w' none):=fun k w h1 h2=>mV R s k T w h1 h2 hs
 have CB:Hd (∀c w,Calls prog 155 #[.int .i64 c] w fun e w'=>e=.returned (.bool (ik c))/\w'=w):=QC;have CH:Hd (∀k w',w.grownBy w' (some R)->Rd w' R s k T->Calls prog 156 #[.pointer (some ⟨R,0,none⟩)] w' fun e w''=>(∃v,e=.returned v/\FaultV w'' v k ty pv)/\w'.grownBy w'' none):=fun k w' hg hr=>vO R s k T ty pv w' hr (hg.cell he (by simp;exact fun e=>hR e.symm))
 have hl:s.data.toList.length=s.size:=by simp
 have qL:Hd (¬nx s.data.toList i=35->bu s.data.toList i=(true,i)):=Fe _ i;have lH:Hd (nx s.data.toList i=35->bu s.data.toList i=if nx s.data.toList (toR dC s.data.toList i)=10\/nx s.data.toList (toR dC s.data.toList i)=-1 then(true,toR dC s.data.toList i) else(false,toR dC s.data.toList i)):=fun h=>by
  show _=_;unfold bu;rw[if_pos h]
 have HST:Hd (∀k,k<s.size->dC (nx s.data.toList k)=true->toR dC s.data.toList k=toR dC s.data.toList (k+1)):=fun k hk hb=>qH dC _ k (by omega) hb
 have jO:Hd (∀k,dC (nx s.data.toList k)=false->toR dC s.data.toList k=k):=fun k hb=>lX dC _ k hb
 have qM:Hd (∀k,nx s.data.toList k=-1->toR dC s.data.toList k=k):=fun k hb=>Ba dC _ k (Bc hb)
 have cZ:Hd (∀k,k<=s.size->¬nx s.data.toList k=-1->k<s.size):=fun k hk hn=>by
  apply Classical.byContradiction;intro hh;exact hn (jG _ _ (by omega))
 have dB:Hd (Rd w R s i T):=h;have C1:Hd (Calls prog 104 #[.pointer (some ⟨R,0,none⟩)] w fun e w'=>e=.returned (.int .i64 (nx s.data.toList i))/\w.grownBy w' none):=CN.o i w h hi;obtain⟨r,hr⟩:=zN (bu s.data.toList i);rw[hr]at qL lH ⊢;obtain⟨x,hx⟩:=zN (nx s.data.toList i);rw[hx]at C1 qL lH;obtain⟨J,hJ⟩:=zN (toR dC s.data.toList i);have HJ:Hd (toR dC s.data.toList i=J):=hJ;rw[hJ]at lH;clear h he hr hx hJ;go_enter func108,ntmps108;go_wp2_with (go_at_call 104;refine C1.o.mono ?_);rintro e w1 ⟨rfl,hg1⟩;have ay:Hd (w.grownBy w1 (some R)):=aG (ax w (some R)) hg1;have HR1:Hd (Rd w1 R s i T):=dB.o.grow hg1;clear hg1
 by_cases hx:x=35
 ·have hb:(x != 35)=false:=by simp[hx]
  have HC:Hd (r=if nx s.data.toList J=10\/nx s.data.toList J=-1 then(true,J) else(false,J)):=lH.o hx;clear hx;go_wp2;go_loopw [] (fun wr=>∃k:Nat,Rd wr R s k T/\k<=s.size/\toR dC s.data.toList k=J/\w.grownBy wr (some R)) (fun wr=>s.size-(match wr.cell? ⟨R,1,none⟩ with|some (.int _ k)=>k.toNat|_=>0))
  case atStart=>exact⟨i,HR1.o,hi,HJ.o,ay.o⟩
  case round =>
   obtain⟨k,hrd,hk,hto,hg⟩:=hrel;have kV:Hd (Rd wr R s k T):=hrd;have mW:Hd (toR dC s.data.toList k=J):=hto;have jY:Hd (w.grownBy wr (some R)):=hg;have gK:Hd ((match wr.cell? ⟨R,1,none⟩ with|some (.int _ k)=>k.toNat|_=>0)=k):=by show _=_;rw[hrd.cells.2.1];simp
   have dZ:=HST.o k;have HS2:=jO.o k;have jH:=qM.o k;have rW:=cZ.o k hk;have HC2:Hd (∀w',wr.grownBy w' none->Calls prog 104 #[.pointer (some ⟨R,0,none⟩)] w' fun e w''=>e=.returned (.int .i64 (nx s.data.toList k))/\w'.grownBy w'' none):=fun w' hg'=>CN.o k w' (kV.o.grow hg') hk
   have Fj:Hd (toR dC s.data.toList k=k->r=if nx s.data.toList k=10\/nx s.data.toList k=-1 then(true,k) else(false,k)):=fun h1=>by
    have e1:J=k:=mW.o.symm.trans h1;have h2:=HC.o;rw[e1]at h2;exact h2
   obtain⟨c,hc⟩:=zN (nx s.data.toList k);rw[hc]at dZ HS2 jH rW HC2 Fj;have H1:Hd (k<s.size->dC c=true->toR dC s.data.toList k=toR dC s.data.toList (k+1)):=dZ;have H2:Hd (dC c=false->toR dC s.data.toList k=k):=HS2;have H3:Hd (c=-1->toR dC s.data.toList k=k):=jH;have H4:Hd (¬c=-1->k<s.size):=rW;have Fp:Hd (dC c=(decide (c≠10) && !ik c)):=rfl;clear hrd hto hg dZ HS2 jH rW hc
   by_cases he:c=-1
   ·have hbe:(c != -1)=false:=by simp[he]
    have HRR:Hd (r=(true,k)):=by
     show r=_;rw[Fj.o (H3.o he),if_pos (Or.inr he)]
    clear he;go_wp2_with (go_at_call 104;refine(HC2.o _ (ax _ _)).mono ?_);rintro e w2 ⟨rfl,hg2⟩;have HG2:Hd (wr.grownBy w2 none):=hg2;clear hg2;go_wp2;refine bodyPost_ret (results_tmp (t:=2) rfl _ _ _) rfl ?_;rw[HRR.o];exact⟨fun _=>rfl,fun hh=>(by cases hh),kV.o.grow HG2.o,aG jY.o HG2.o⟩
   ·have hbe:(c != -1)=true:=by simp[he]
    have hkl:k<s.size:=H4.o he;have o6:Hd (¬c=-1):=he;clear he;go_wp2_with (go_at_call 104;refine(HC2.o _ (ax _ _)).mono ?_);rintro e w2 ⟨rfl,hg2⟩;have HG2:Hd (wr.grownBy w2 none):=hg2;clear hg2;go_wp2_with (go_at_call 104;refine(HC2.o _ HG2.o).mono ?_);rintro e w3 ⟨rfl,hg3⟩;have aK:Hd (wr.grownBy w3 none):=ah HG2.o hg3;clear hg3
    by_cases h10:c=10
    ·have YB:(c != 10)=false:=by simp[h10]
     have HRR:Hd (r=(true,k)):=by
      show r=_;rw[Fj.o (H2.o (by rw[Fp.o,h10];rfl)),if_pos (Or.inl h10)]
     clear h10;go_wp2;refine bodyPost_ret (results_tmp (t:=2) rfl _ _ _) rfl ?_;rw[HRR.o];exact⟨fun _=>rfl,fun hh=>(by cases hh),kV.o.grow aK.o,aG jY.o aK.o⟩
    ·have YB:(c != 10)=true:=by simp[h10]
     have Bf:Hd (¬c=10):=h10;have JZ:Hd (∀w,Calls prog 155 #[.int .i64 c] w fun e w'=>e=.returned (.bool (ik c))/\w'=w):=fun w=>CB.o c w
     obtain⟨b,hb2⟩:=zN (ik c);rw[hb2]at JZ Fp;clear h10 hb2;go_wp2_with (go_at_call 104;refine(HC2.o _ aK.o).mono ?_);rintro e w4 ⟨rfl,hg4⟩;have dS:Hd (wr.grownBy w4 none):=ah aK.o hg4;clear hg4
     cases b with
     | true =>
      have HRR:Hd (r=(false,k)):=by
       show r=_;rw[Fj.o (H2.o (by rw[Fp.o];simp)),if_neg (by rintro(h|h);exact Bf.o h;exact o6.o h)]
      go_wp2_with (first|(go_at_call 155;refine(JZ.o _).mono ?_;rintro e w' ⟨rfl,rfl⟩)|(go_at_call 156;refine(CH.o k _ (aG jY.o dS.o) (kV.o.grow dS.o)).mono ?_;rintro e w5 ⟨⟨v,rfl,hv⟩,hg5⟩));refine bodyPost_ret (results_tmp (t:=2) rfl _ _ _) rfl ?_;rw[HRR.o];exact⟨fun hh=>(by cases hh),fun _=>⟨v,rfl,hv⟩,(kV.o.grow dS.o).grow hg5,aG (aG jY.o dS.o) hg5⟩
     | false =>
      have HN:Hd (toR dC s.data.toList (k+1)=J):=(H1.o hkl (by rw[Fp.o,decide_eq_true Bf.o];rfl)).symm.trans mW.o;obtain⟨-,d1,-,df⟩:=(kV.o.grow dS.o).cells;have df1:=df 1;clear df;have Bg:Hd (Rd (w4.setCell ⟨R,1,none⟩ (.int .i64 ((k:Int)+1))) R s (k+1) T):=(kV.o.grow dS.o).set (k+1);go_wp2_with (go_at_call 155;refine(JZ.o _).mono ?_;rintro e w' ⟨rfl,rfl⟩);refine⟨⟨k+1,Bg.o,by omega,HN.o,aQ (aG jY.o dS.o) 1 _⟩,?_⟩;rw[gK.o,Bg.o.cells.2.1];simp;omega
 ·have hb:(x != 35)=true:=by simp[hx]
  have HRR:Hd (r=(true,i)):=qL.o hx;clear hx;go_wp2;refine bodyPost_ret (results_tmp (t:=2) rfl _ _ _) rfl ?_;rw[HRR.o];exact⟨fun _=>rfl,fun hh=>(by cases hh),HR1.o,ay.o⟩
open Go.RowKit Go.Joins
theorem Bh(l:List UInt8)(i:Nat)(hi:i<=l.length):i<=(bu l i).2/\(bu l i).2<=l.length:=by
 have:=pI dC l i hi;unfold bu
 repeat' split
 all_goals (simp only[];omega)
theorem jP(l:List UInt8)(i:Nat)(hi:i<=l.length):i<=bl l i/\bl l i<=l.length:=pI fM l i hi
theorem ui(l:List UInt8)(f i:Nat):gap l (f+1) i=if(bu l (bl l i)).1=false then .error (2,(bu l (bl l i)).2) else if nx l (bu l (bl l i)).2=10 then gap l f ((bu l (bl l i)).2+1) else .ok (bu l (bl l i)).2:=rfl
theorem dH{w w1 w2:World}{r:Option Nat}(h:w.grownBy w1 r)(hg:w1.grownBy w2 r):w.grownBy w2 r :=
 ⟨hg.os.trans h.os,hg.tape.trans h.tape,hg.output.trans h.output,Nat.le_trans h.size hg.size,fun k hk hn=>(hg.block k (Nat.lt_of_lt_of_le hk h.size) hn).trans (h.block k hk hn)⟩
def YC(R:Nat)(s:ByteArray)(T:Nat)(ty:TypeId)(pv:Value)(g:Rs Nat)(w:World)(e:Ending)(w':World):Prop:=(∀j,g=.ok j->e=.returned .nilIface/\Rd w' R s j T)/\(∀c p,g=.error (c,p)->∃v,e=.returned v/\FaultV w' v p ty pv)/\w.grownBy w' (some R)
theorem YD(R:Nat)(s:ByteArray)(i T:Nat)(ty:TypeId)(pv:Value)(w:World)(h:Rd w R s i T)(hi:i<=s.size)(hs:s.size<=1048576)(he:Fh w ty pv)(hR:¬R=6) :
  Calls prog 219 #[.pointer (some ⟨R,0,none⟩)] w (YC R s T ty pv (gap s.data.toList (s.data.toList.length+1) i) w):=by
 have CN:Hd (∀k w,Rd w R s k T->k<=s.size->Calls prog 104 #[.pointer (some ⟨R,0,none⟩)] w fun e w'=>e=.returned (.int .i64 (nx s.data.toList k))/\w.grownBy w' none):=fun k w h1 h2=>mV R s k T w h1 h2 hs
 have CS:Hd (∀k w,Rd w R s k T->k<=s.size->Calls prog 103 #[.pointer (some ⟨R,0,none⟩)] w fun e w'=>e=.returned (.tuple #[])/\Rd w' R s (bl s.data.toList k) T/\w.grownBy w' (some R)):=fun k w h1 h2=>Fg R s k T w h1 h2 hs
 have CC:Hd (∀k w',Rd w' R s k T->k<=s.size->w.grownBy w' (some R)->Calls prog 108 #[.pointer (some ⟨R,0,none⟩)] w' (Be R s T ty pv (bu s.data.toList k) w')):=fun k w' h1 h2 hg=>QD R s k T ty pv w' h1 h2 hs (hg.cell he (by simp;exact fun e=>hR e.symm)) hR
 have hl:s.data.toList.length=s.size:=by simp
 have fQ:Hd (∀k,k<=s.size->k<=bl s.data.toList k/\bl s.data.toList k<=s.size):=fun k hk=>by rw[<-hl];exact jP _ k (by omega)
 have YE:Hd (∀k,k<=s.size->k<=(bu s.data.toList k).2/\(bu s.data.toList k).2<=s.size):=fun k hk=>by rw[<-hl];exact Bh _ k (by omega)
 have fB:Hd (∀f k,gap s.data.toList (f+1) k=if(bu s.data.toList (bl s.data.toList k)).1=false then .error (2,(bu s.data.toList (bl s.data.toList k)).2) else if nx s.data.toList (bu s.data.toList (bl s.data.toList k)).2=10 then gap s.data.toList f ((bu s.data.toList (bl s.data.toList k)).2+1) else .ok (bu s.data.toList (bl s.data.toList k)).2):=fun f k=>ui _ f k
 have cZ:Hd (∀k,k<=s.size->nx s.data.toList k=10->k<s.size):=fun k hk hn=>by
  apply Classical.byContradiction;intro hh;rw[jG _ _ (by omega)]at hn;exact absurd hn (by decide)
 have dB:Hd (Rd w R s i T):=h;obtain⟨G,hG⟩:=zN (gap s.data.toList (s.data.toList.length+1) i);have jl:Hd (gap s.data.toList (s.data.toList.length+1) i=G):=hG;rw[hG];clear h he hG;go_enter func219,ntmps219;go_wp2;go_loopw [] (fun wr=>∃k f:Nat,Rd wr R s k T/\k<=s.size/\s.size-k<f/\gap s.data.toList f k=G/\w.grownBy wr (some R)) (fun wr=>s.size-(match wr.cell? ⟨R,1,none⟩ with|some (.int _ k)=>k.toNat|_=>0))
 case atStart=>exact⟨i,s.data.toList.length+1,dB.o,hi,by omega,jl.o,ax _ _⟩
 case round =>
  obtain⟨k,f,hrd,hk,hf,nN,hg⟩:=hrel;obtain⟨f,rfl⟩:∃f',f=f'+1:=⟨f-1,by omega⟩;have kV:Hd (Rd wr R s k T):=hrd;have jY:Hd (w.grownBy wr (some R)):=hg;have gK:Hd ((match wr.cell? ⟨R,1,none⟩ with|some (.int _ k)=>k.toNat|_=>0)=k):=by show _=_;rw[hrd.cells.2.1];simp
  have C1:Hd (Calls prog 103 #[.pointer (some ⟨R,0,none⟩)] wr fun e w'=>e=.returned (.tuple #[])/\Rd w' R s (bl s.data.toList k) T/\wr.grownBy w' (some R)):=CS.o k wr hrd hk;rw[fB.o]at nN;obtain⟨hb1,hb2⟩:=fQ.o k hk;have hc12:=YE.o (bl s.data.toList k) hb2;have C2:Hd (∀w',Rd w' R s (bl s.data.toList k) T->w.grownBy w' (some R)->Calls prog 108 #[.pointer (some ⟨R,0,none⟩)] w' (Be R s T ty pv (bu s.data.toList (bl s.data.toList k)) w')):=fun w' h1 h2=>CC.o _ w' h1 hb2 h2
  obtain⟨j,hj⟩:=zN (bl s.data.toList k);rw[hj]at C1 C2 nN hb1 hb2 hc12;obtain⟨q,hq⟩:=zN (bu s.data.toList j);rw[hq]at C2 nN hc12;obtain⟨ok,m⟩:=q;obtain⟨hm1,hm2⟩:=hc12;simp only[]at hm1 hm2 nN;have Fv:Hd ((if ok=false then Except.error (2,m) else if nx s.data.toList m=10 then gap s.data.toList f (m+1) else Except.ok m)=G):=nN;have C3:Hd (∀w',Rd w' R s m T->Calls prog 104 #[.pointer (some ⟨R,0,none⟩)] w' fun e w''=>e=.returned (.int .i64 (nx s.data.toList m))/\w'.grownBy w'' none):=fun w' h1=>CN.o m w' h1 hm2
  have HL2:Hd (nx s.data.toList m=10->m<s.size):=cZ.o m hm2;obtain⟨x,hx⟩:=zN (nx s.data.toList m);rw[hx]at C3 Fv HL2;clear hrd hg nN hj hq hx;go_wp2_with (go_at_call 103;refine C1.o.mono ?_);rintro e w1 ⟨rfl,hr1,hg1⟩;have HR1:Hd (Rd w1 R s j T):=hr1;have ay:Hd (w.grownBy w1 (some R)):=dH jY.o hg1;clear hr1 hg1;go_wp2_with (go_at_call 108;refine(C2.o _ HR1.o ay.o).mono ?_);rintro e w2 ⟨h1,h2,h3,h4⟩;have HR2:Hd (Rd w2 R s m T):=h3;have HG2:Hd (w.grownBy w2 (some R)):=dH ay.o h4;clear h3 h4
  cases ok with
  | false =>
   obtain⟨v,rfl,F,rfl,hF⟩:=h2 rfl;have gX:Hd (Except.error (2,m)=G):=by
    have:=Fv.o;rw[if_pos (by trivial)]at this;exact this
   have dU:Hd (FaultV w2 (.iface 130 (.pointer (some ⟨F,0,none⟩))) m ty pv):=⟨F,rfl,hF⟩;clear h1 h2 hF;go_wp2;refine bodyPost_ret (results_tmp (t:=2) rfl _ _ _) rfl ?_;refine⟨fun j hj=>?_,fun c p hp=>?_,HG2.o⟩
   ·rw[<-gX.o]at hj;cases hj
   ·rw[<-gX.o]at hp
    cases hp
    exact⟨_,rfl,dU.o⟩
  | true =>
   obtain rfl:=h1 rfl;clear h1 h2;go_wp2_with (go_at_call 104;refine(C3.o _ HR2.o).mono ?_);rintro e w3 ⟨rfl,hg3⟩;have HR3:Hd (Rd w3 R s m T):=HR2.o.grow hg3;have aK:Hd (w.grownBy w3 (some R)):=aG HG2.o hg3;clear hg3
   by_cases h10:x=10
   ·have hb:(x != 10)=false:=by simp[h10]
    have hml:=HL2.o h10;have J5:Hd (gap s.data.toList f (m+1)=G):=by
     have:=Fv.o;rw[if_neg (by simp),if_pos h10]at this;exact this
    obtain⟨-,d1,-,df⟩:=HR3.o.cells;have df1:=df 1;have Bg:Hd (Rd (w3.setCell ⟨R,1,none⟩ (.int .i64 ((m:Int)+1))) R s (m+1) T):=HR3.o.set (m+1);clear df h10;go_wp2;refine⟨⟨m+1,f,Bg.o,by omega,by omega,J5.o,aQ aK.o 1 _⟩,?_⟩;rw[gK.o,Bg.o.cells.2.1];simp;omega
   ·have hb:(x != 10)=true:=by simp[h10]
    have gX:Hd (Except.ok m=G):=by
     have:=Fv.o;rw[if_neg (by simp),if_neg h10]at this;exact this
    clear h10;go_wp2;refine bodyPost_ret (results_tmp (t:=2) rfl _ _ _) rfl ?_;refine⟨fun j hj=>?_,fun c p hp=>?_,aK.o⟩
    ·rw[<-gX.o]at hj
     cases hj
     exact⟨rfl,HR3.o⟩
    ·rw[<-gX.o]at hp;cases hp
open Go.RowKit Go.Joins
def Dd(w:World)(R:Nat)(s:ByteArray)(L O:Value)(now de i:Nat)(er:Int)(p:Nat):Prop:=w.heap[R]?=some (.cells #[.string s,.int .i64 (i:Nat),L,O,.int .i64 (now:Nat),.int .i64 er,.int .i64 (p:Nat),.int .i64 (de:Nat)] 74 (0,0))
section
variable {w w':World} {R:Nat} {s:ByteArray} {L O:Value} {now de i:Nat} {er:Int} {p:Nat}
theorem Dd.grow(h:Dd w R s L O now de i er p)(hg:w.grownBy w' none):Dd w' R s L O now de i er p:=(hg.block R (jU h) (by simp)).trans h
theorem Dd.cells(h:Dd w R s L O now de i er p):w.cell? ⟨R,0,none⟩=some (.string s)/\w.cell? ⟨R,1,none⟩=some (.int .i64 (i:Nat))/\w.cell? ⟨R,2,none⟩=some L/\w.cell? ⟨R,3,none⟩=some O/\w.cell? ⟨R,4,none⟩=some (.int .i64 (now:Nat))/\w.cell? ⟨R,5,none⟩=some (.int .i64 er)/\w.cell? ⟨R,6,none⟩=some (.int .i64 (p:Nat))/\w.cell? ⟨R,7,none⟩=some (.int .i64 (de:Nat))/\∀k,w.frozen? ⟨R,k,none⟩=false :=
 ⟨by rw[af h];rfl,by rw[af h];rfl,by rw[af h];rfl,by rw[af h];rfl,by rw[af h];rfl,by rw[af h];rfl,by rw[af h];rfl,by rw[af h];rfl,fun k=>Lib.frozen_of_heap h k⟩
theorem Dd.setI(h:Dd w R s L O now de i er p)(j:Nat):Dd (w.setCell ⟨R,1,none⟩ (.int .i64 (j:Nat))) R s L O now de j er p:=block_setCell (i:=1) h _
theorem Dd.setL(h:Dd w R s L O now de i er p)(v:Value):Dd (w.setCell ⟨R,2,none⟩ v) R s v O now de i er p:=block_setCell (i:=2) h _
theorem Dd.setO(h:Dd w R s L O now de i er p)(v:Value):Dd (w.setCell ⟨R,3,none⟩ v) R s L v now de i er p:=block_setCell (i:=3) h _
theorem Dd.setN(h:Dd w R s L O now de i er p)(j:Nat):Dd (w.setCell ⟨R,4,none⟩ (.int .i64 (j:Nat))) R s L O j de i er p:=block_setCell (i:=4) h _
theorem Dd.setE(h:Dd w R s L O now de i er p)(e:Int):Dd (w.setCell ⟨R,5,none⟩ (.int .i64 e)) R s L O now de i e p:=block_setCell (i:=5) h _
theorem Dd.setA(h:Dd w R s L O now de i er p)(j:Nat):Dd (w.setCell ⟨R,6,none⟩ (.int .i64 (j:Nat))) R s L O now de i er j:=block_setCell (i:=6) h _
theorem Dd.setD(h:Dd w R s L O now de i er p)(j:Nat):Dd (w.setCell ⟨R,7,none⟩ (.int .i64 (j:Nat))) R s L O now j i er p:=block_setCell (i:=7) h _
end
def Ds(w:World)(R:Nat)(s:ByteArray)(L O:Value)(now de:Nat)(q:Rs Nat):Prop:=match q with | .ok i=>i<=s.size/\Dd w R s L O now de i 0 0 | .error (c,p)=>c≠0/\∃j,j<=s.size/\Dd w R s L O now de j c p
theorem Ds.grow{w w':World}{R:Nat}{s:ByteArray}{L O:Value}{now de:Nat}{q:Rs Nat}(h:Ds w R s L O now de q)(hg:w.grownBy w' none):Ds w' R s L O now de q:=by
 match q,h with
 | .ok i,h=>exact⟨h.1,h.2.grow hg⟩
 | .error (c,p),⟨h1,j,h2,h3⟩=>exact⟨h1,j,h2,h3.grow hg⟩
def eU(l:List UInt8)(q:Rs Nat)(c:Int):Bool:=match q with | .ok i=>decide (nx l i=c) | .error _=>false
theorem J6(R:Nat)(s:ByteArray)(L O:Value)(now de i:Nat)(er:Int)(p:Nat)(e:Int)(a:Nat)(w:World)(h:Dd w R s L O now de i er p)(hE:¬er=0) :
  Calls prog 82 #[.pointer (some ⟨R,0,none⟩),.int .i64 e,.int .i64 (a:Nat)] w fun en w'=>en=.returned (.tuple #[])/\w'=w:=by
 obtain⟨-,-,-,-,-,c5,-,-,-⟩:=h.cells;have hn:(er == 0)=false:=by simpa using hE
 clear h hE;go_enter func82,ntmps82;go_wp2;exact bodyPost_end (results_none rfl _ _ _) rfl ⟨rfl,rfl⟩
theorem pJ(R:Nat)(s:ByteArray)(L O:Value)(now de i:Nat)(e:Int)(a:Nat)(w:World)(h:Dd w R s L O now de i 0 0) :
  Calls prog 82 #[.pointer (some ⟨R,0,none⟩),.int .i64 e,.int .i64 (a:Nat)] w fun en w'=>en=.returned (.tuple #[])/\Dd w' R s L O now de i e a/\w.grownBy w' (some R):=by
 obtain⟨-,-,-,-,-,c5,c6,-,df⟩:=h.cells;have df5:=df 5;have df6:=df 6;have HS:Hd (Dd ((w.setCell ⟨R,5,none⟩ (.int .i64 e)).setCell ⟨R,6,none⟩ (.int .i64 (a:Nat))) R s L O now de i e a):=(h.setE e).setA a;have HG:Hd (w.grownBy ((w.setCell ⟨R,5,none⟩ (.int .i64 e)).setCell ⟨R,6,none⟩ (.int .i64 (a:Nat))) (some R)):=aQ (aQ (ax w (some R)) 5 _) 6 _;clear h df;go_enter func82,ntmps82;go_wp2;exact bodyPost_end (results_none rfl _ _ _) rfl ⟨rfl,HS.o,HG.o⟩
theorem rX(R:Nat)(s:ByteArray)(L O:Value)(now de:Nat)(q:Rs Nat)(c:Int)(hc:0<=c)(w:World)(h:Ds w R s L O now de q)(hs:s.size<=1048576) :
  Calls prog 52 #[.pointer (some ⟨R,0,none⟩),.int .u8 c] w fun e w'=>e=.returned (.bool (eU s.data.toList q c))/\w.grownBy w' none:=by
 have hl:s.data.toList.length=s.size:=by simp
 match q,h with
 | .error (k,p),⟨h1,j,h2,h3⟩ =>
  obtain⟨c0,c1,-,-,-,c5,-,-,-⟩:=h3.cells;have hn:(k == 0)=false:=by simpa using h1
  have e:eU s.data.toList (.error (k,p)) c=false:=rfl;rw[e];clear h3 h1 e;go_enter func52,ntmps52;go_wp2;go_quiet (fail);go_wp2;go_ret;exact⟨rfl,⟨rfl,rfl,rfl,Nat.le_refl _,fun _ _ _=>rfl⟩⟩
 | .ok i,⟨h1,h2⟩ =>
  obtain⟨c0,c1,-,-,-,c5,-,-,-⟩:=h2.cells;have e:eU s.data.toList (.ok i) c=decide (nx s.data.toList i=c):=rfl;rw[e];clear h2 e
  by_cases hlt:i<s.size
  ·have hn:nx s.data.toList i=(s[i].toNat:Int):=by rw[pG _ _ (by omega)];rfl
   rw[hn];obtain⟨b,hb⟩:=zN (((s[i].toNat:Int) == c));have hb2:decide ((s[i].toNat:Int)=c)=b:=by rw[<-hb,Bool.eq_iff_iff];simp
   have hlt':decide ((i:Int)<(s.size:Int))=true:=by simp;omega
   rw[hb2];clear hn hb2
   cases b with
   | true =>
    go_enter func52,ntmps52;go_wp2;go_quiet (fail);go_wp2;go_ret;exact⟨rfl,⟨rfl,rfl,rfl,Nat.le_refl _,fun _ _ _=>rfl⟩⟩
   | false =>
    go_enter func52,ntmps52;go_wp2;go_quiet (fail);go_wp2;go_ret;exact⟨rfl,⟨rfl,rfl,rfl,Nat.le_refl _,fun _ _ _=>rfl⟩⟩
  ·rw[jG _ _ (by omega),decide_eq_false (by omega)];have hge:decide ((i:Int)<(s.size:Int))=false:=by simp;omega
   go_enter func52,ntmps52;go_wp2;go_quiet (fail);go_wp2;go_ret;exact⟨rfl,⟨rfl,rfl,rfl,Nat.le_refl _,fun _ _ _=>rfl⟩⟩
theorem J7(R:Nat)(s:ByteArray)(L O:Value)(now de:Nat)(q:Rs Nat)(c:Int)(hc:0<=c)(w:World)(h:Ds w R s L O now de q)(hs:s.size<=1048576) :
  Calls prog 56 #[.pointer (some ⟨R,0,none⟩),.int .u8 c] w fun e w'=>e=.returned (.tuple #[])/\Ds w' R s L O now de (q.bind fun i=>must s.data.toList i c)/\w.grownBy w' (some R):=by
 have hl:s.data.toList.length=s.size:=by simp
 have CI:Hd (Calls prog 52 #[.pointer (some ⟨R,0,none⟩),.int .u8 c] w fun e w'=>e=.returned (.bool (eU s.data.toList q c))/\w.grownBy w' none):=rX R s L O now de q c hc w h hs
 match q,h with
 | .error (k,p),⟨h1,j,h2,h3⟩ =>
  have e:eU s.data.toList (.error (k,p)) c=false:=rfl;rw[e]at CI;have HD:Hd (Dd w R s L O now de j k p):=h3;have HK:Hd (k≠0):=h1;have HJ:Hd (j<=s.size):=h2;clear h3 h1 h2 e;go_enter func56,ntmps56;go_wp2_with (go_at_call 52;refine CI.o.mono ?_);rintro e w1 ⟨rfl,hg1⟩;have HD1:Hd (Dd w1 R s L O now de j k p):=HD.o.grow hg1;have ay:Hd (w.grownBy w1 (some R)):=aG (ax w (some R)) hg1;obtain⟨-,c1,-⟩:=HD1.o.cells;clear hg1;go_wp2_with (go_at_call 82;refine(J6 R s L O now de j k p _ _ _ HD1.o HK.o).mono ?_;rintro e w2 ⟨rfl,rfl⟩);refine bodyPost_ret (results_none rfl _ _ _) rfl ?_;exact⟨rfl,⟨HK.o,j,HJ.o,HD1.o⟩,ay.o⟩
 | .ok i,⟨h1,h2⟩ =>
  have e:eU s.data.toList (.ok i) c=decide (nx s.data.toList i=c):=rfl;rw[e]at CI;have HD:Hd (Dd w R s L O now de i 0 0):=h2;have HI:Hd (i<=s.size):=h1;have e2:(Except.bind (.ok i) fun i=>must s.data.toList i c:Rs Nat)=if nx s.data.toList i=c then .ok (i+1) else .error (2,i):=rfl;rw[e2];have cZ:Hd (nx s.data.toList i=c->i<s.size):=fun hn=>by rw[<-hl];exact bH (by omega)
  clear h2 e e2
  by_cases hn:nx s.data.toList i=c
  ·rw[decide_eq_true hn]at CI;rw[if_pos hn];have hlt:=cZ.o hn;clear hn cZ;go_enter func56,ntmps56;go_wp2_with (go_at_call 52;refine CI.o.mono ?_);rintro e w1 ⟨rfl,hg1⟩;have HD1:Hd (Dd w1 R s L O now de i 0 0):=HD.o.grow hg1;have ay:Hd (w.grownBy w1 (some R)):=aG (ax w (some R)) hg1;obtain⟨-,c1,-,-,-,-,-,-,df⟩:=HD1.o.cells;have df1:=df 1;have HS:Hd (Dd (w1.setCell ⟨R,1,none⟩ (.int .i64 ((i:Int)+1))) R s L O now de (i+1) 0 0):=HD1.o.setI (i+1);clear hg1 df;go_wp2;exact bodyPost_end (results_none rfl _ _ _) rfl ⟨rfl,⟨by omega,HS.o⟩,aQ ay.o 1 _⟩
  ·rw[decide_eq_false hn]at CI;rw[if_neg hn];clear hn cZ;go_enter func56,ntmps56;go_wp2_with (go_at_call 52;refine CI.o.mono ?_);rintro e w1 ⟨rfl,hg1⟩;have HD1:Hd (Dd w1 R s L O now de i 0 0):=HD.o.grow hg1;have ay:Hd (w.grownBy w1 (some R)):=aG (ax w (some R)) hg1;obtain⟨-,c1,-⟩:=HD1.o.cells;clear hg1;go_wp2_with (go_at_call 82;refine(pJ R s L O now de i 2 i _ HD1.o).mono ?_;rintro e w2 ⟨rfl,h2,h3⟩);refine bodyPost_ret (results_none rfl _ _ _) rfl ?_;exact⟨rfl,⟨by decide,i,HI.o,h2⟩,dH ay.o h3⟩
open Go.RowKit Go.Joins
def dI(wr:World)(R:Nat):Nat:=match wr.cell? ⟨R,1,none⟩ with|some (.int _ k)=>k.toNat|_=>0
theorem vP{w:World}{R:Nat}{s:ByteArray}{L O:Value}{now de i:Nat}{er:Int}{p:Nat}(h:Dd w R s L O now de i er p):dI w R=i:=by unfold dI;rw[h.cells.2.1];simp
def gY(l:List UInt8)(i:Nat):Rs Nat:=if(bu l i).1=true then .ok (bu l i).2 else .error (2,(bu l i).2)
def iV(l:List UInt8)(i:Nat):Rs Nat:=if nx l (toR dC l i)=10\/nx l (toR dC l i)=-1 then .ok (toR dC l i) else .error (2,toR dC l i)
theorem QE(l:List UInt8)(i:Nat)(h:nx l i=35):gY l i=iV l i:=by
 unfold gY bu iV;rw[if_pos h]
 by_cases h2:nx l (toR dC l i)=10\/nx l (toR dC l i)=-1
 ·simp only[if_pos h2,if_true]
 ·simp[if_neg h2]
theorem QF(l:List UInt8)(i:Nat)(h:¬nx l i=35):gY l i=.ok i:=by
 unfold gY;rw[Fe l i h];rfl
theorem YF(l:List UInt8)(i:Nat)(h:nx l i=-1):iV l i=.ok i:=by
 unfold iV;rw[Ba dC l i (Bc h),if_pos (Or.inr h)]
theorem YG(l:List UInt8)(i:Nat)(h:nx l i=10):iV l i=.ok i:=by
 unfold iV;rw[lX dC l i (by rw[h];rfl),if_pos (Or.inl h)]
theorem YH(l:List UInt8)(i:Nat)(h:ik (nx l i)=true)(h10:¬nx l i=10)(h1:¬nx l i=-1):iV l i=.error (2,i):=by
 unfold iV;rw[lX dC l i (by unfold dC;rw[h];simp),if_neg (by rintro(h|h);exact h10 h;exact h1 h)]
theorem QG(l:List UInt8)(i:Nat)(h:ik (nx l i)=false)(h10:¬nx l i=10)(h1:¬nx l i=-1):iV l i=iV l (i+1):=by
 unfold iV;have hb:=Fa l i;rw[qH dC l i (bH (by omega)) (by unfold dC;rw[h];simp[h10])]
theorem QH(c:UInt8)(w:World):Calls prog 84 #[.int .u8 (c.toNat:Int)] w fun e w'=>e=.returned (.bool (ik (c.toNat:Int)))/\w'=w:=by
 have:=c.toNat_lt;go_enter func84,ntmps84;go_wp2
 all_goals go_ret
 all_goals (refine⟨bV ?_,rfl⟩;rw[Bool.eq_iff_iff];unfold ik xN;simp;try omega)
theorem QI(R:Nat)(s:ByteArray)(L O:Value)(now de:Nat)(q:Rs Nat)(w:World)(h:Ds w R s L O now de q)(hs:s.size<=1048576) :
  Calls prog 51 #[.pointer (some ⟨R,0,none⟩)] w fun e w'=>e=.returned (.tuple #[])/\Ds w' R s L O now de (q.bind fun i=>.ok (bl s.data.toList i))/\w.grownBy w' (some R):=by
 have hl:s.data.toList.length=s.size:=by simp
 have CI:Hd (∀q c w,0<=c->Ds w R s L O now de q->Calls prog 52 #[.pointer (some ⟨R,0,none⟩),.int .u8 c] w fun e w'=>e=.returned (.bool (eU s.data.toList q c))/\w.grownBy w' none):=fun q c w h0 h1=>rX R s L O now de q c h0 w h1 hs
 have HST:Hd (∀k,k<s.size->fM (nx s.data.toList k)=true->bl s.data.toList k=bl s.data.toList (k+1)):=fun k hk hb=>qH fM _ k (by omega) hb
 have jO:Hd (∀k,fM (nx s.data.toList k)=false->bl s.data.toList k=k):=fun k hb=>lX fM _ k hb
 have cZ:Hd (∀k,0<=nx s.data.toList k->k<s.size):=fun k hb=>by rw[<-hl];exact bH hb
 obtain⟨J,hJ⟩:∃J:Rs Nat,(q.bind fun i=>.ok (bl s.data.toList i))=J:=⟨_,rfl⟩;have HJ:Hd ((q.bind fun i=>.ok (bl s.data.toList i))=J):=hJ;have H0:Hd (Ds w R s L O now de q):=h;rw[hJ];clear h hJ;go_enter func51,ntmps51;go_wp2;go_loopw [] (fun wr=>∃q:Rs Nat,Ds wr R s L O now de q/\(q.bind fun i=>.ok (bl s.data.toList i))=J/\w.grownBy wr (some R)) (fun wr=>s.size-dI wr R)
 case atStart=>exact⟨q,H0.o,HJ.o,ax _ _⟩
 case round =>
  obtain⟨q,hds,hbl,hg⟩:=hrel;have HG:Hd (w.grownBy wr (some R)):=hg;have C1:Hd (∀c w,0<=c->Ds w R s L O now de q->Calls prog 52 #[.pointer (some ⟨R,0,none⟩),.int .u8 c] w fun e w'=>e=.returned (.bool (eU s.data.toList q c))/\w.grownBy w' none):=CI.o q;have fC:Hd (Ds wr R s L O now de q):=hds;have fQ:Hd ((q.bind fun i=>.ok (bl s.data.toList i))=J):=hbl;clear hds hbl hg;obtain⟨b1,hb1⟩:∃b,eU s.data.toList q 32=b:=⟨_,rfl⟩;obtain⟨b2,hb2⟩:∃b,eU s.data.toList q 9=b:=⟨_,rfl⟩;have xQ:Hd (∀w,Ds w R s L O now de q->Calls prog 52 #[.pointer (some ⟨R,0,none⟩),.int .u8 32] w fun e w'=>e=.returned (.bool b1)/\w.grownBy w' none):=fun w h=>by rw[<-hb1];exact C1.o 32 w (by decide) h
  have C9:Hd (∀w,Ds w R s L O now de q->Calls prog 52 #[.pointer (some ⟨R,0,none⟩),.int .u8 9] w fun e w'=>e=.returned (.bool b2)/\w.grownBy w' none):=fun w h=>by rw[<-hb2];exact C1.o 9 w (by decide) h
  have HB1:Hd (eU s.data.toList q 32=b1):=hb1;have HB2:Hd (eU s.data.toList q 9=b2):=hb2;clear hb1 hb2;have QJ:Hd ((b1=true\/b2=true)->∃k,k<s.size/\Dd wr R s L O now de k 0 0/\(Except.ok (bl s.data.toList (k+1)):Rs Nat)=J):=fun hor=>by
   match q,fC.o,HB1.o,HB2.o,fQ.o with
   | .error e,_,hh1,hh2,_=>
    exfalso;unfold eU at hh1 hh2;subst hh1 hh2
    rcases hor with h|h<;>cases h
   | .ok k,hd,hh1,hh2,hj =>
    have hx:fM (nx s.data.toList k)=true:=by
     unfold eU at hh1 hh2;unfold fM;subst hh1 hh2
     rcases hor with h|h
     ·have:=of_decide_eq_true h;simp[this]
     ·have:=of_decide_eq_true h;simp[this]
    have hkl:k<s.size:=cZ.o k (by unfold fM at hx;have:=of_decide_eq_true hx;omega);refine⟨k,hkl,hd.2,?_⟩;rw[<-HST.o k hkl hx];exact hj
  have qL:Hd (b1=false->b2=false->q=J):=fun h1 h2=>by
   match q,fC.o,HB1.o,HB2.o,fQ.o with
   | .error e,_,_,_,hj=>exact hj
   | .ok k,hd,hh1,hh2,hj =>
    rw[<-hj];show _=Except.ok _;rw[jO.o k];unfold eU at hh1 hh2;unfold fM;rw[h1]at hh1;rw[h2]at hh2;have:=of_decide_eq_false hh1;have:=of_decide_eq_false hh2;simp[*]
  have step:∀(wx:World) (k:Nat),wr.grownBy wx none->k<s.size->Dd wr R s L O now de k 0 0->(Except.ok (bl s.data.toList (k+1)):Rs Nat)=J->(∃q:Rs Nat,Ds (wx.setCell ⟨R,1,none⟩ (.int .i64 ((k:Int)+1))) R s L O now de q/\(q.bind fun i=>.ok (bl s.data.toList i))=J/\w.grownBy (wx.setCell ⟨R,1,none⟩ (.int .i64 ((k:Int)+1))) (some R))/\s.size-dI (wx.setCell ⟨R,1,none⟩ (.int .i64 ((k:Int)+1))) R<s.size-dI wr R:=fun wx k hg hk hd hj=>by
   have hd2:=(hd.grow hg).setI (k+1);refine⟨⟨.ok (k+1),⟨by omega,hd2⟩,hj,aQ (aG HG.o hg) 1 _⟩,?_⟩;have e1:=vP hd2;rw[vP hd];have e2:(wx.setCell ⟨R,1,none⟩ (.int .i64 ((k+1:Nat):Int)))=wx.setCell ⟨R,1,none⟩ (.int .i64 ((k:Int)+1)):=rfl;rw[e2]at e1;rw[e1];omega
  have QK:Hd (∀(wx:World) (k:Nat),wr.grownBy wx none->k<s.size->Dd wr R s L O now de k 0 0->(Except.ok (bl s.data.toList (k+1)):Rs Nat)=J->(∃q:Rs Nat,Ds (wx.setCell ⟨R,1,none⟩ (.int .i64 ((k:Int)+1))) R s L O now de q/\(q.bind fun i=>.ok (bl s.data.toList i))=J/\w.grownBy (wx.setCell ⟨R,1,none⟩ (.int .i64 ((k:Int)+1))) (some R))/\s.size-dI (wx.setCell ⟨R,1,none⟩ (.int .i64 ((k:Int)+1))) R<s.size-dI wr R):=step;clear step
  cases b1 with
  | true =>
   obtain⟨k,hk,hd,hj⟩:=QJ.o (Or.inl rfl);have HD:Hd (Dd wr R s L O now de k 0 0):=hd;have HJ2:Hd ((Except.ok (bl s.data.toList (k+1)):Rs Nat)=J):=hj;clear hd hj;go_wp2_with (go_at_call 52;refine(xQ.o _ fC.o).mono ?_)
   first|rintro e w1 rfl hg1|rintro e w1 ⟨rfl,hg1⟩
   have ay:Hd (wr.grownBy w1 none):=hg1;obtain⟨-,c1,-,-,-,-,-,-,df⟩:=(HD.o.grow hg1).cells;have df1:=df 1;clear hg1 df;go_wp2;exact QK.o w1 k ay.o hk HD.o HJ2.o
  | false =>
   cases b2 with
   | true =>
    obtain⟨k,hk,hd,hj⟩:=QJ.o (Or.inr rfl);have HD:Hd (Dd wr R s L O now de k 0 0):=hd;have HJ2:Hd ((Except.ok (bl s.data.toList (k+1)):Rs Nat)=J):=hj;clear hd hj;go_wp2_with (go_at_call 52;refine(xQ.o _ fC.o).mono ?_)
    first|rintro e w1 rfl hg1|rintro e w1 ⟨rfl,hg1⟩
    have ay:Hd (wr.grownBy w1 none):=hg1;clear hg1;go_wp2_with (go_at_call 52;refine(C9.o _ (fC.o.grow ay.o)).mono ?_)
    first|rintro e w2 rfl hg2|rintro e w2 ⟨rfl,hg2⟩
    have HG2:Hd (wr.grownBy w2 none):=ah ay.o hg2;obtain⟨-,c1,-,-,-,-,-,-,df⟩:=(HD.o.grow HG2.o).cells;have df1:=df 1;clear hg2 df;go_wp2;exact QK.o w2 k HG2.o hk HD.o HJ2.o
   | false =>
    have HQ:Hd (q=J):=qL.o rfl rfl;go_wp2_with (go_at_call 52;refine(xQ.o _ fC.o).mono ?_)
    first|rintro e w1 rfl hg1|rintro e w1 ⟨rfl,hg1⟩
    have ay:Hd (wr.grownBy w1 none):=hg1;clear hg1;go_wp2_with (go_at_call 52;refine(C9.o _ (fC.o.grow ay.o)).mono ?_)
    first|rintro e w2 rfl hg2|rintro e w2 ⟨rfl,hg2⟩
    have HG2:Hd (wr.grownBy w2 none):=ah ay.o hg2;clear hg2;go_wp2;refine bodyPost_end (results_none rfl _ _ _) rfl ⟨rfl,?_,aG HG.o HG2.o⟩;rw[<-HQ.o];exact fC.o.grow HG2.o
theorem YI(l:List UInt8)(f i:Nat)(h:fM (nx l i)=true):gap l f i=gap l f (i+1)\/f=0:=by
 cases f with
 | zero=>exact Or.inr rfl
 | succ f =>
  left;have hi:i<l.length:=bH (by unfold fM at h;have:=of_decide_eq_true h;omega);have e:bl l i=bl l (i+1):=qH fM l i hi h;rw[ui,ui,e]
theorem QL(l:List UInt8)(f i:Nat)(h:nx l i=10):gap l (f+1) i=gap l f (i+1):=by
 have e:bl l i=i:=lX fM l i (by rw[h];rfl);have e2:bu l i=(true,i):=Fe l i (by rw[h];decide);rw[ui,e,e2];simp only[h];rfl
theorem QM(l:List UInt8)(f i:Nat)(h:fM (nx l i)=false)(h1:¬nx l i=10)(h2:¬nx l i=35):gap l (f+1) i=.ok i:=by
 have e:bl l i=i:=lX fM l i h;have e2:bu l i=(true,i):=Fe l i h2;rw[ui,e,e2];simp[h1]
theorem YJ(l:List UInt8)(f i:Nat)(h:nx l i=35):gap l (f+1) i=(gY l i).bind (gap l (f+1)):=by
 have e:bl l i=i:=lX fM l i (by rw[h];rfl);rw[ui,e];unfold gY;have hc:bu l i=if nx l (toR dC l i)=10\/nx l (toR dC l i)=-1 then(true,toR dC l i) else(false,toR dC l i):=by unfold bu;rw[if_pos h]
 rw[hc]
 by_cases h1:nx l (toR dC l i)=10\/nx l (toR dC l i)=-1
 ·simp only[if_pos h1,if_true];rw[if_neg (by decide)];show _=gap l (f+1) (toR dC l i)
  rcases h1 with h1|h1
  ·rw[if_pos h1,QL l f _ h1]
  ·rw[if_neg (by rw[h1];decide),QM l f _ (by rw[h1];rfl) (by rw[h1];decide) (by rw[h1];decide)]
 ·simp only[if_neg h1,if_true];rw[if_neg (by decide)];rfl
theorem YK(l:List UInt8)(i j:Nat)(h:nx l i=35)(hj:gY l i=.ok j):i<j/\j<=l.length:=by
 have hi:i<l.length:=bH (by omega);rw[QE l i h,QG l i (by rw[h];rfl) (by rw[h];decide) (by rw[h];decide)]at hj;have:=pI dC l (i+1) (by omega);unfold iV at hj;split at hj
 ·injection hj with hj;omega
 ·cases hj
def iW:List UInt8->Nat->Nat
 | [],n=>n
 | c :: r,n=>iW r (if n<=99999999999999999 then 10*n+(c.toNat - 48) else 1000000000000000000)
theorem QN:∀(ds:List UInt8),iW ds 1000000000000000000=1000000000000000000
 | []=>rfl
 | c :: r=>by
  unfold iW;rw[if_neg (by omega)];exact QN r
theorem QO:∀(ds:List UInt8) (n a:Nat),(∀c∈ds,c.toNat<=57)->n<10 ^ a->a+ds.length<=18->iW ds n=iq ds n/\iq ds n<10 ^ (a+ds.length)
 | [],n,a,_,hn,_=>⟨rfl,hn⟩
 | c :: r,n,a,hd,hn,hl=>by
  have hc:=hd c (by simp);simp only[List.length_cons]at hl ⊢;have h17:10 ^ a<=10 ^ 17:=Nat.pow_le_pow_right (by omega) (by omega);have hle:n<=99999999999999999:=by
   have e:(10:Nat) ^ 17=100000000000000000:=by decide
   omega
  unfold iW iq;rw[if_pos hle];have hn':10*n+(c.toNat - 48)<10 ^ (a+1):=by rw[Nat.pow_succ];omega
  have:=QO r _ (a+1) (fun x hx=>hd x (by simp[hx])) hn' (by omega);rw[show a+1+r.length=a+(r.length+1) by omega]at this;exact this
theorem QP:∀(ds:List UInt8) (n a:Nat),(∀c∈ds,c.toNat<=57)->10 ^ a<=n->n<=1000000000000000000->18<=a+ds.length->iW ds n=1000000000000000000
 | [],n,a,_,hn,hm,hl=>by
  have h18:10 ^ 18<=10 ^ a:=Nat.pow_le_pow_right (by omega) (by simpa using hl);have e:(10:Nat) ^ 18=1000000000000000000:=by decide
  show n=_;omega
 | c :: r,n,a,hd,hn,hm,hl=>by
  have hc:=hd c (by simp);unfold iW
  by_cases hle:n<=99999999999999999
  ·rw[if_pos hle];refine QP r _ (a+1) (fun x hx=>hd x (by simp[hx])) (by rw[Nat.pow_succ];omega) (by omega) (by simp only[List.length_cons]at hl;omega)
  ·rw[if_neg hle];exact QN r
theorem QQ:∀(a b:List UInt8) (n:Nat),iW (a++b) n=iW b (iW a n)
 | [],b,n=>rfl
 | c :: r,b,n=>by
  show iW (r++b) _=iW b (iW r _);rw[QQ r b]
open Go.RowKit Go.Joins
def dE(wr:World)(R:Nat):Int:=match wr.cell? ⟨R,5,none⟩ with|some (.int _ e)=>e|_=>1
theorem QR{w:World}{R:Nat}{s:ByteArray}{L O:Value}{now de i:Nat}{er:Int}{p:Nat}(h:Dd w R s L O now de i er p):dE w R=er:=by unfold dE;rw[h.cells.2.2.2.2.2.1]
def dM(wr:World)(R:Nat)(s:ByteArray):Nat:=if dE wr R=0 then s.size-dI wr R+1 else 0
theorem uj{w:World}{R:Nat}{s:ByteArray}{L O:Value}{now de i:Nat}{p:Nat}(h:Dd w R s L O now de i 0 p):dM w R s=s.size-i+1:=by
 unfold dM;rw[QR h,vP h,if_pos rfl]
theorem Fz{w:World}{R:Nat}{s:ByteArray}{L O:Value}{now de i:Nat}{er:Int}{p:Nat}(h:Dd w R s L O now de i er p)(he:¬er=0):dM w R s=0:=by
 unfold dM;rw[QR h,if_neg he]
theorem byte_at(s:ByteArray)(k:Nat)(hk:k<s.size):nx s.data.toList k=(s[k].toNat:Int):=by
 rw[pG _ _ (by simpa using hk)];rfl
theorem QS(R:Nat)(s:ByteArray)(L O:Value)(now de:Nat)(q:Rs Nat)(w:World)(h:Ds w R s L O now de q)(hs:s.size<=1048576) :
  Calls prog 55 #[.pointer (some ⟨R,0,none⟩)] w fun e w'=>e=.returned (.tuple #[])/\Ds w' R s L O now de (q.bind (gY s.data.toList))/\w.grownBy w' (some R):=by
 have hl:s.data.toList.length=s.size:=by simp
 have CI:Hd (Calls prog 52 #[.pointer (some ⟨R,0,none⟩),.int .u8 35] w fun e w'=>e=.returned (.bool (eU s.data.toList q 35))/\w.grownBy w' none):=rX R s L O now de q 35 (by decide) w h hs;have fC:Hd (Ds w R s L O now de q):=h;have lG:Hd (eU s.data.toList q 35=true->∃k,q=.ok k/\q.bind (gY s.data.toList)=iV s.data.toList k):=fun hh=>by
  match q with
  | .error e=>unfold eU at hh;cases hh
  | .ok k=>exact⟨k,rfl,QE _ k (of_decide_eq_true hh)⟩
 have HC2:Hd (eU s.data.toList q 35=false->q.bind (gY s.data.toList)=q):=fun hh=>by
  match q with
  | .error e=>rfl
  | .ok k=>exact QF _ k (of_decide_eq_false hh)
 obtain⟨b,hb⟩:=zN (eU s.data.toList q 35);rw[hb]at CI lG HC2;have HX:Hd (∀k (hk:k<s.size),nx s.data.toList k=(s[k].toNat:Int)):=byte_at s;have jZ:Hd (∀k,nx s.data.toList k=10->iV s.data.toList k=.ok k):=YG _;have HE2:Hd (∀k,s.size<=k->iV s.data.toList k=.ok k):=fun k hk=>YF _ _ (jG _ _ (by omega))
 have J8:Hd (∀k (hk:k<s.size),ik (s[k].toNat:Int)=true->¬(s[k].toNat:Int)=10->iV s.data.toList k=.error (2,k)):=fun k hk h1 h2=>YH _ _ (by rw[byte_at s k hk];exact h1) (by rw[byte_at s k hk];exact h2) (by rw[byte_at s k hk];omega)
 have FB:Hd (∀k (hk:k<s.size),ik (s[k].toNat:Int)=false->¬(s[k].toNat:Int)=10->iV s.data.toList k=iV s.data.toList (k+1)):=fun k hk h1 h2=>QG _ _ (by rw[byte_at s k hk];exact h1) (by rw[byte_at s k hk];exact h2) (by rw[byte_at s k hk];omega)
 clear h hb
 cases b with
 | false =>
  rw[HC2.o rfl];go_enter func55,ntmps55;go_wp2_with (go_at_call 52;refine CI.o.mono ?_)
  first|rintro e w1 rfl hg1|rintro e w1 ⟨rfl,hg1⟩
  have ay:Hd (w.grownBy w1 none):=hg1;clear hg1;go_wp2;refine bodyPost_ret (results_none rfl _ _ _) rfl ?_;exact⟨rfl,fC.o.grow ay.o,aG (ax w (some R)) ay.o⟩
 | true =>
  obtain⟨k0,hq,hcr⟩:=lG.o rfl;rw[hcr];obtain⟨Q,hQ⟩:=zN (iV s.data.toList k0);have HQ:Hd (iV s.data.toList k0=Q):=hQ;rw[hQ];have HD0:Hd (k0<=s.size/\Dd w R s L O now de k0 0 0):=by
   have:=fC.o;rw[hq]at this;exact this
  clear hq hcr hQ lG HC2 fC;go_enter func55,ntmps55;go_wp2_with (go_at_call 52;refine CI.o.mono ?_)
  first|rintro e w1 rfl hg1|rintro e w1 ⟨rfl,hg1⟩
  have ay:Hd (w.grownBy w1 (some R)):=aG (ax w (some R)) hg1;have HD1:Hd (Dd w1 R s L O now de k0 0 0):=HD0.o.2.grow hg1;clear hg1;go_wp2;go_loopw [] (fun wr=>∃q:Rs Nat,Ds wr R s L O now de q/\q.bind (iV s.data.toList)=Q/\w.grownBy wr (some R)) (fun wr=>dM wr R s)
  case atStart=>exact⟨.ok k0,⟨HD0.o.1,HD1.o⟩,HQ.o,ay.o⟩
  case round =>
   obtain⟨q,hds,hbl,hg⟩:=hrel;have HG:Hd (w.grownBy wr (some R)):=hg;clear hg
   match q,hds,hbl with
   | .error (c,p),⟨hc,j,hj,hd⟩,hq =>
    have mX:Hd (Q=.error (c,p)):=hq.symm;obtain⟨c0,c1,-,-,-,c5,-,-,-⟩:=hd.cells;have hn:(c == 0)=false:=by simpa using hc
    have HD:Hd (Dd wr R s L O now de j c p):=hd;have HC:Hd (c≠0):=hc;clear hd hq hc
    by_cases hlt:j<s.size
    ·have hlt':decide ((j:Int)<(s.size:Int))=true:=by simp;omega
     obtain⟨b,hb⟩:=zN (((s[j].toNat:Int) != 10))
     cases b with
     | true =>
      go_wp2;go_quiet (fail);go_wp2;refine bodyPost_end (results_none rfl _ _ _) rfl ?_;rw[mX.o];exact⟨rfl,⟨HC.o,j,hj,HD.o⟩,⟨HG.o.os,HG.o.tape,HG.o.output,HG.o.size,HG.o.block⟩⟩
     | false =>
      go_wp2;go_quiet (fail);go_wp2;refine bodyPost_end (results_none rfl _ _ _) rfl ?_;rw[mX.o];exact⟨rfl,⟨HC.o,j,hj,HD.o⟩,⟨HG.o.os,HG.o.tape,HG.o.output,HG.o.size,HG.o.block⟩⟩
    ·have hge:decide ((j:Int)<(s.size:Int))=false:=by simp;omega
     go_wp2;go_quiet (fail);go_wp2;refine bodyPost_end (results_none rfl _ _ _) rfl ?_;rw[mX.o];exact⟨rfl,⟨HC.o,j,hj,HD.o⟩,⟨HG.o.os,HG.o.tape,HG.o.output,HG.o.size,HG.o.block⟩⟩
   | .ok k,⟨hk,hd⟩,hq =>
    have FC:Hd (iV s.data.toList k=Q):=hq;obtain⟨c0,c1,-,-,-,c5,-,-,df⟩:=hd.cells;have df1:=df 1;have HD:Hd (Dd wr R s L O now de k 0 0):=hd;have HM:Hd (dM wr R s=s.size-k+1):=uj hd;clear hd hq df
    by_cases hlt:k<s.size
    ·have hlt':decide ((k:Int)<(s.size:Int))=true:=by simp;omega
     have hu:=s[k].toNat_lt;have FD:Hd (nx s.data.toList k=(s[k].toNat:Int)):=HX.o k hlt;have YL:Hd (nx s.data.toList k=10->iV s.data.toList k=.ok k):=jZ.o k;have QT:Hd (ik (s[k].toNat:Int)=true->¬(s[k].toNat:Int)=10->iV s.data.toList k=.error (2,k)):=J8.o k hlt;have QU:Hd (ik (s[k].toNat:Int)=false->¬(s[k].toNat:Int)=10->iV s.data.toList k=iV s.data.toList (k+1)):=FB.o k hlt;have CC:Hd (∀w,Calls prog 84 #[.int .u8 (s[k].toNat:Int)] w fun e w'=>e=.returned (.bool (ik (s[k].toNat:Int)))/\w'=w):=QH s[k];obtain⟨b,hb⟩:=zN (((s[k].toNat:Int) != 10))
     cases b with
     | false =>
      have mX:Hd (Q=.ok k):=by
       show _=_;rw[<-FC.o,YL.o (by rw[FD.o];simpa using hb)]
      go_wp2;go_quiet (fail);go_wp2;refine bodyPost_end (results_none rfl _ _ _) rfl ?_;rw[mX.o];exact⟨rfl,⟨hk,HD.o⟩,⟨HG.o.os,HG.o.tape,HG.o.output,HG.o.size,HG.o.block⟩⟩
     | true =>
      have Bf:Hd (¬(s[k].toNat:Int)=10):=by
       show ¬_;simpa using hb
      obtain⟨b2,hb2⟩:∃b,ik (s[k].toNat:Int)=b:=⟨_,rfl⟩;rw[hb2]at CC QT QU;clear hb2
      cases b2 with
      | true =>
       have mX:Hd (Q=.error (2,k)):=FC.o.symm.trans (QT.o rfl Bf.o);have CF:Hd (∀wx,Dd wx R s L O now de k 0 0->Calls prog 82 #[.pointer (some ⟨R,0,none⟩),.int .i64 2,.int .i64 (k:Nat)] wx fun en w'=>en=.returned (.tuple #[])/\Dd w' R s L O now de k 2 k/\wx.grownBy w' (some R)):=fun wx hg=>pJ R s L O now de k 2 k wx hg
       go_wp2;go_quiet (fail);have aF:Hd (Dd (wr.drewN nq) R s L O now de k 0 0):=HD.o;have dO:Hd (w.grownBy (wr.drewN nq) (some R)):=aj HG.o nq;obtain⟨wA,hwA⟩:∃W,wr.drewN nq=W:=⟨_,rfl⟩;rw[hwA]at aF dO ⊢;obtain⟨d0,d1,-,-,-,d5,-,-,dg⟩:=aF.o.cells;have dg1:=dg 1;clear hwA dg;go_wp2;go_quiet (first|(go_at_call 84;exact Calls.quiet_of_same (CC.o _)));go_wp2_with (first|(go_at_call 84;refine(CC.o _).mono ?_;rintro e w' ⟨rfl,rfl⟩)|(go_at_call 82;refine(CF.o _ ?_).mono ?_;exact aF.o;rintro e w2 ⟨rfl,hd2,hg2⟩;obtain⟨-,d1,-,-,-,-,-,-,dff⟩:=hd2.cells;have dff1:=dff 1));refine⟨⟨.error (2,k),⟨by decide,k+1,by omega,hd2.setI (k+1)⟩,mX.o.symm,aQ (dH (w1:=wA) dO.o ⟨hg2.os,hg2.tape,hg2.output,hg2.size,hg2.block⟩) 1 _⟩,?_⟩;rw[HM.o];have e1:=Fz (hd2.setI (k+1)) (by decide);have e2:(w2.setCell ⟨R,1,none⟩ (.int .i64 ((k+1:Nat):Int)))=w2.setCell ⟨R,1,none⟩ (.int .i64 ((k:Int)+1)):=rfl
       rw[e2]at e1;rw[e1];omega
      | false =>
       have mX:Hd (iV s.data.toList (k+1)=Q):=(QU.o rfl Bf.o).symm.trans FC.o;go_wp2;go_quiet (fail);have aF:Hd (Dd (wr.drewN nq) R s L O now de k 0 0):=HD.o;have dO:Hd (w.grownBy (wr.drewN nq) (some R)):=aj HG.o nq;obtain⟨wA,hwA⟩:∃W,wr.drewN nq=W:=⟨_,rfl⟩;rw[hwA]at aF dO ⊢;obtain⟨d0,d1,-,-,-,d5,-,-,dg⟩:=aF.o.cells;have dg1:=dg 1;clear hwA dg;go_wp2;go_quiet (first|(go_at_call 84;exact Calls.quiet_of_same (CC.o _)));go_wp2_with (go_at_call 84;refine(CC.o _).mono ?_;rintro e w' ⟨rfl,rfl⟩);have HS:=aF.o.setI (k+1);refine⟨⟨.ok (k+1),⟨by omega,HS⟩,mX.o,?_⟩,?_⟩
       ·exact aQ (aj dO.o _) 1 _
       ·rw[HM.o];refine Nat.lt_of_le_of_lt (Nat.le_of_eq (uj (i:=k+1) HS)) (by omega)
    ·have hge:decide ((k:Int)<(s.size:Int))=false:=by simp;omega
     have mX:Hd (Q=.ok k):=FC.o.symm.trans (HE2.o k (by omega));go_wp2;go_quiet (fail);go_wp2;refine bodyPost_end (results_none rfl _ _ _) rfl ?_;rw[mX.o];exact⟨rfl,⟨hk,HD.o⟩,⟨HG.o.os,HG.o.tape,HG.o.output,HG.o.size,HG.o.block⟩⟩
end Go.Proofs.YtnnbgjaphfhibaaGreatDoor
