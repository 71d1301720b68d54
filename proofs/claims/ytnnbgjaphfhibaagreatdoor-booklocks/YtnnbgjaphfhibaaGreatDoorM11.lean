import Derived.Test.YtnnbgjaphfhibaaGreatDoorM10
import Derived.Test.YtnnbgjaphfhibaaGreatDoorM06
set_option linter.unusedVariables false
set_option linter.unusedSimpArgs false
set_option maxRecDepth 100000
set_option maxHeartbeats 6400000
open Go.Proofs.Tryz
namespace Go.Proofs.YtnnbgjaphfhibaaGreatDoor
open Go.RowKit Go.Joins
theorem Rn(R:Nat)(s:ByteArray)(L O:Value)(now de i:Nat)(w:World)(h:Dd w R s L O now de i 0 0)(hi:i<s.size)(hq:nx s.data.toList i=34)(hs:s.size<=1048576) :
  Calls prog 119 #[.pointer (some ⟨R,0,none⟩)] w (mZ (4*s.size+4) R s L O now de (str s.data.toList (s.data.toList.length+1) (i+1) []) w):=by
 have hl:s.data.toList.length=s.size:=by simp
 have CM:Hd (∀q w,Ds w R s L O now de q->Calls prog 56 #[.pointer (some ⟨R,0,none⟩),.int .u8 34] w fun e w'=>e=.returned (.tuple #[])/\Ds w' R s L O now de (q.bind fun i=>must s.data.toList i 34)/\w.grownBy w' (some R)):=fun q w h=>J7 R s L O now de q 34 (by decide) w h hs
 have CI:Hd (∀q w,Ds w R s L O now de q->Calls prog 52 #[.pointer (some ⟨R,0,none⟩),.int .u8 34] w fun e w'=>e=.returned (.bool (eU s.data.toList q 34))/\w.grownBy w' none):=fun q w h=>rX R s L O now de q 34 (by decide) w h hs
 have CE:Hd (∀k w,Dd w R s L O now de k 0 0->k<s.size->Calls prog 160 #[.pointer (some ⟨R,0,none⟩)] w (mZ 3 R s L O now de (esc s.data.toList k) w)):=fun k w h hk=>ZV R s L O now de k w h hk hs
 have ZW:Hd (∀k w,k<s.size->Calls prog 161 #[.string s,.int .i64 (k:Nat)] w fun e w'=>e=.returned (.int .i64 (aJ s.data.toList k:Nat))/\w'=w):=fun k w hk=>Y3 s k hk w hs
 have HST:Hd (∀f i acc,str s.data.toList (f+1) i acc =
  if nx s.data.toList i=34 then .ok (acc,i+1)
  else if nx s.data.toList i=92 then(match esc s.data.toList i with | .error e=>.error e | .ok (b,j)=>str s.data.toList f j (acc++b))
  else if nx s.data.toList i=-1\/ik (nx s.data.toList i)=true then .error (2,i)
  else if aJ s.data.toList i=0 then .error (2,i)
  else str s.data.toList f (i+aJ s.data.toList i) (acc++ag s.data.toList i (aJ s.data.toList i))):=BD _
 have cZ:Hd (∀k,0<=nx s.data.toList k->k<s.size):=fun k hb=>by rw[<-hl];exact bH hb
 have KH:Hd (∀k b j,k<s.size->esc s.data.toList k=.ok (b,j)->b.length<=3/\k+2<=j/\j<=s.size):=fun k b j hk he=>by
  rw[Ky]at he
  cases hN:l7 s.data.toList k with
  | error e=>rw[hN]at he;cases he
  | ok q =>
   obtain⟨n,j'⟩:=q;rw[hN]at he;have:=KC _ k n j' (by omega) hN;have e1:(Except.ok (gz n,j'):Rs (List UInt8 × Nat))=.ok (b,j):=he;injection e1 with e1
   injection e1 with e1 e2
   have:=FQ n;subst e1 e2;omega
 have KI:Hd (∀k,k<=s.size->k+aJ s.data.toList k<=s.size):=fun k hk=>by rw[<-hl];exact KE _ k (by omega)
 have ji:Hd (∀k,(ag s.data.toList k (aJ s.data.toList k)).length<=3*aJ s.data.toList k):=fun k=>by
  have:(ag s.data.toList k (aJ s.data.toList k)).length<=aJ s.data.toList k:=by unfold ag;rw[List.length_take];omega
  show _<=_;omega
 have HX:Hd (∀k (hk:k<s.size),nx s.data.toList k=(s[k].toNat:Int)):=byte_at s;have uk:Hd (∀k,nx s.data.toList k=-1->s.size<=k):=fun k hk=>by rw[<-hl];exact Bc hk
 obtain⟨G,hG⟩:=zN (str s.data.toList (s.data.toList.length+1) (i+1) []);have jl:Hd (str s.data.toList (s.data.toList.length+1) (i+1) []=G):=hG;have vV:Hd ((Except.bind (.ok i) fun i=>must s.data.toList i 34:Rs Nat)=.ok (i+1)):=by
  show must s.data.toList i 34=_;unfold must;rw[if_pos hq]
 rw[hG];have H0:Hd (Ds w R s L O now de (.ok i)):=⟨by omega,h⟩;clear h hG hq;go_enter func119,ntmps119;go_wp2_with (go_at_call 56;refine(CM.o _ _ H0.o).mono ?_;rintro e w1 ⟨rfl,hd1,hg1⟩);rw[vV.o]at hd1;have HD1:Hd (Ds w1 R s L O now de (.ok (i+1))):=hd1;have ay:Hd (w.grownBy w1 (some R)):=hg1;clear hd1 hg1 H0 vV;go_loopw [3] (fun vo wr=>∃(q:Rs Nat) (f:Nat) (acc:List UInt8),vo=.string ⟨acc.toArray⟩/\Ds wr R s L O now de q/\(∀k,q=.ok k->s.size-k<f/\str s.data.toList f k acc=G/\acc.length<=3*k)/\(∀c p,q=.error (c,p)->G=.error (c,p)/\acc.length<=3*s.size+3)/\w.grownBy wr (some R)) (fun _ wr=>dM wr R s)
 case atStart=>exact⟨.ok (i+1),s.data.toList.length+1,[],rfl,HD1.o,fun k hk=>(by cases hk;exact⟨by omega,jl.o,by simp⟩),fun c p hk=>(by cases hk),ay.o⟩
 case round =>
  obtain⟨q,f,acc,rfl,hds,hok,her,hg⟩:=hrel;have HG:Hd (w.grownBy _ (some R)):=hg;clear hg
  match q,hds,hok,her with
  | .error (c,p),hds,_,her =>
   obtain⟨Ro,hacc⟩:=her c p rfl;have gX:Hd (G=.error (c,p)):=Ro;obtain⟨hc,j,hj,hd⟩:=hds;obtain⟨-,-,-,-,-,c5,-⟩:=hd.cells;have hn:(c == 0)=false:=by simpa using hc
   have fC:Hd (Ds _ R s L O now de (.error (c,p))):=⟨hc,j,hj,hd⟩;have ZX:Hd (acc.length<=3*s.size+3):=hacc;clear hd her Ro hc hj hacc;go_wp2_with (go_at_call 56;refine(CM.o _ _ fC.o).mono ?_;rintro e w2 ⟨rfl,hd2,hg2⟩);refine bodyPost_ret (results_tmp (t:=2) rfl _ _ _) rfl ?_;rw[gX.o];exact⟨fun t k hh=>(by cases hh),fun c p hh=>(by cases hh;exact⟨⟨acc,by have:=ZX.o;omega,rfl⟩,hd2⟩),dH HG.o hg2⟩
  | .ok k,hds,hok,_ =>
   obtain⟨hf,hstr,hacc⟩:=hok k rfl;obtain⟨hk,hd⟩:=hds;obtain⟨f,rfl⟩:∃f',f=f'+1:=⟨f-1,by omega⟩;rw[HST.o]at hstr;obtain⟨c0,c1,-,-,-,c5,-,-,df⟩:=hd.cells;have df1:=df 1;have HD:Hd (Dd _ R s L O now de k 0 0):=hd;have fC:Hd (Ds _ R s L O now de (.ok k)):=⟨hk,hd⟩;have HM:Hd (dM _ R s=s.size-k+1):=uj hd;have jI:Hd (∀w,Ds w R s L O now de (.ok k)->Calls prog 52 #[.pointer (some ⟨R,0,none⟩),.int .u8 34] w fun e w'=>e=.returned (.bool (decide (nx s.data.toList k=34)))/\w.grownBy w' none):=fun w h=>CI.o (.ok k) w h
   have CF:Hd (∀wx,Dd wx R s L O now de k 0 0->Calls prog 82 #[.pointer (some ⟨R,0,none⟩),.int .i64 2,.int .i64 (k:Nat)] wx fun en w'=>en=.returned (.tuple #[])/\Dd w' R s L O now de k 2 k/\wx.grownBy w' (some R)):=fun wx hg=>pJ R s L O now de k 2 k wx hg
   have qO:Hd (0<=nx s.data.toList k->k<s.size):=cZ.o k;have vT:Hd (nx s.data.toList k=-1->s.size<=k):=uk.o k;have HXB:Hd (-1<=nx s.data.toList k):=(Fa s.data.toList k).1;have Bj:Hd (∀(hk:k<s.size),nx s.data.toList k=(s[k].toNat:Int)):=HX.o k;have oG:Hd (nx s.data.toList k=34->(Except.bind (.ok k) fun i=>must s.data.toList i 34:Rs Nat)=.ok (k+1)):=fun h=>by
    show must s.data.toList k 34=_;unfold must;rw[if_pos h]
   obtain⟨x,hx⟩:=zN (nx s.data.toList k);rw[hx]at jI qO vT HXB Bj oG hstr;have qP:Hd ((if x=34 then .ok (acc,k+1)
    else if x=92 then(match esc s.data.toList k with | .error e=>.error e | .ok (b,j)=>str s.data.toList f j (acc++b))
    else if x=-1\/ik x=true then .error (2,k)
    else if aJ s.data.toList k=0 then .error (2,k)
    else str s.data.toList f (k+aJ s.data.toList k) (acc++ag s.data.toList k (aJ s.data.toList k)))=G):=hstr
   clear hd hx hstr hok df
   by_cases h34:x=34
   ·rw[decide_eq_true h34]at jI;have aA:Hd (G=.ok (acc,k+1)):=by
     have:=qP.o;rw[if_pos h34]at this;exact this.symm
    have Rq:=oG.o h34;have lV:Hd ((Except.bind (.ok k) fun i=>must s.data.toList i 34:Rs Nat)=.ok (k+1)):=Rq;clear h34 Rq;go_wp2_with (first|(go_at_call 52;refine(jI.o _ fC.o).mono ?_;rintro e w2 ⟨rfl,hg2⟩)|(go_at_call 56;refine(CM.o _ _ (fC.o.grow hg2)).mono ?_;rintro e w3 ⟨rfl,hd3,hg3⟩));refine bodyPost_ret (results_tmp (t:=2) rfl _ _ _) rfl ?_;rw[aA.o];rw[lV.o]at hd3;exact⟨fun t k hh=>(by cases hh;exact⟨rfl,hd3⟩),fun c p hh=>(by cases hh),dH (aG HG.o hg2) hg3⟩
   ·rw[decide_eq_false h34]at jI;go_wp2_with (go_at_call 52;refine(jI.o _ fC.o).mono ?_;rintro e w2 ⟨rfl,hg2⟩);have HD2:Hd (Dd w2 R s L O now de k 0 0):=HD.o.grow hg2;have HG2:Hd (w.grownBy w2 (some R)):=aG HG.o hg2;obtain⟨e0,e1,-,-,-,e5,-,-,ef⟩:=HD2.o.cells;have ef1:=ef 1;clear hg2 ef c0 c1 c5 df1
    by_cases hm1:x=-1
    ·have hge:=vT.o hm1;have hgd:decide ((s.size:Int)<=(k:Int))=true:=by simp;omega
     have aA:Hd (G=.error (2,k)):=by
      have:=qP.o;rw[if_neg h34,if_neg (by omega),if_pos (Or.inl hm1)]at this;exact this.symm
     clear h34 hm1;go_quiet (fail);go_wp2_with (go_at_call 82;refine(CF.o _ ?_).mono ?_;exact HD2.o;rintro e w3 ⟨rfl,hd3,hg3⟩);refine bodyPost_ret (results_tmp (t:=2) rfl _ _ _) rfl ?_;rw[aA.o];exact⟨fun t k hh=>(by cases hh),fun c p hh=>(by cases hh;exact⟨⟨[],by simp,rfl⟩,by decide,k,hk,hd3⟩),dH (w1:=w2) HG2.o ⟨hg3.os,hg3.tape,hg3.output,hg3.size,hg3.block⟩⟩
    ·have hkl:k<s.size:=qO.o (by have:=HXB.o;omega);have hgd:decide ((s.size:Int)<=(k:Int))=false:=by simp;omega
     have nN:¬(s.size:Int)<=(k:Int):=by omega
     have gq:Hd (x=(s[k].toNat:Int)):=Bj.o hkl;have CC:Hd (∀w,Calls prog 84 #[.int .u8 (s[k].toNat:Int)] w fun e w'=>e=.returned (.bool (ik x))/\w'=w):=fun w=>by rw[gq.o];exact QH s[k] w
     obtain⟨bb,hbb⟩:∃b,ik x=b:=⟨_,rfl⟩;have BF:Hd (ik x=bb):=hbb;rw[hbb]at CC;clear hbb
     cases bb with
     | true =>
      have aA:Hd (G=.error (2,k)):=by
       have:=qP.o;rw[if_neg h34,if_neg (fun e=>by have:=BF.o;rw[e]at this;cases this),if_pos (Or.inr BF.o)]at this;exact this.symm
      clear h34 hm1;go_quiet (first|(go_at_call 84;exact Calls.quiet_of_same (CC.o _)));go_wp2_with (go_at_call 82;refine(CF.o _ ?_).mono ?_;exact HD2.o;rintro e w3 ⟨rfl,hd3,hg3⟩);refine bodyPost_ret (results_tmp (t:=2) rfl _ _ _) rfl ?_;rw[aA.o];exact⟨fun t k hh=>(by cases hh),fun c p hh=>(by cases hh;exact⟨⟨[],by simp,rfl⟩,by decide,k,hk,hd3⟩),dH (w1:=w2) HG2.o ⟨hg3.os,hg3.tape,hg3.output,hg3.size,hg3.block⟩⟩
     | false =>
      go_quiet (first|(go_at_call 84;exact Calls.quiet_of_same (CC.o _)));have HD3:Hd (Dd (w2.drewN nq) R s L O now de k 0 0):=HD2.o;have aK:Hd (w.grownBy (w2.drewN nq) (some R)):=aj HG2.o nq;obtain⟨w3,hw3⟩:∃W,w2.drewN nq=W:=⟨_,rfl⟩;rw[hw3]at HD3 aK ⊢;obtain⟨f0,f1,-,-,-,f5,-,-,ff⟩:=HD3.o.cells;have ff1:=ff 1;clear hw3 ff e0 e1 e5 ef1
      by_cases h92:x=92
      ·have ZY:((s[k].toNat:Int) == 92)=true:=by rw[<-gq.o,h92];rfl
       have az:Hd ((match esc s.data.toList k with | .error e=>.error e | .ok (b,j)=>str s.data.toList f j (acc++b))=G):=by
        have:=qP.o;rw[if_neg h34,if_pos h92]at this;exact this
       have su:Hd (∀w,Dd w R s L O now de k 0 0->Calls prog 160 #[.pointer (some ⟨R,0,none⟩)] w (mZ 3 R s L O now de (esc s.data.toList k) w)):=fun w h=>CE.o k w h hkl
       have jZ:Hd (∀b j,esc s.data.toList k=.ok (b,j)->b.length<=3/\k+2<=j/\j<=s.size):=fun b j h=>KH.o k b j hkl h
       obtain⟨q,hq⟩:=zN (esc s.data.toList k);rw[hq]at az su jZ;clear h34 h92 hm1 hq;go_wp2;go_quiet (fail);go_wp2_with (go_at_call 160;refine(su.o _ ?_).mono ?_;exact HD3.o);rintro e w4 ⟨h1,h2,hg4⟩;have dS:Hd (w.grownBy w4 (some R)):=dH (w1:=w3) aK.o ⟨hg4.os,hg4.tape,hg4.output,hg4.size,hg4.block⟩;clear hg4
       match q,h1,h2,az,jZ with
       | .error (c,p),_,h2,az,_ =>
        obtain⟨⟨t,ht,rfl⟩,hd4⟩:=h2 c p rfl;have HD4:Hd (Ds w4 R s L O now de (.error (c,p))):=hd4;have aA:Hd (G=.error (c,p)):=az.o.symm;have ka:∀wx,(Op.stringOp .add ⟨acc.toArray⟩ ⟨t.toArray⟩).run prog wx=.ok (.string ⟨(acc++t).toArray⟩) wx:=fun wx=>Kw acc t wx (by omega)
        have HT:Hd ((acc++t).length<=3*s.size+3):=by
         show _<=_;rw[List.length_append];omega
        clear h2 hd4;go_wp2;refine⟨⟨.error (c,p),f,acc++t,rfl,HD4.o,fun k hk=>(by cases hk),fun c p hk=>(by cases hk;exact⟨aA.o,HT.o⟩),dS.o⟩,?_⟩;obtain⟨hc,j,hj,hd⟩:=HD4.o;rw[HM.o,Fz hd hc];omega
       | .ok (b,j),h1,_,az,jZ =>
        obtain⟨rfl,hd4⟩:=h1 b j rfl;obtain⟨hb3,hj1,hj2⟩:=jZ.o b j rfl;have HD4:Hd (Ds w4 R s L O now de (.ok j)):=hd4;have aA:Hd (str s.data.toList f j (acc++b)=G):=az.o;have ka:∀wx,(Op.stringOp .add ⟨acc.toArray⟩ ⟨b.toArray⟩).run prog wx=.ok (.string ⟨(acc++b).toArray⟩) wx:=fun wx=>Kw acc b wx (by omega)
        have HT:Hd ((acc++b).length<=3*j):=by
         show _<=_;rw[List.length_append];omega
        clear h1 hd4;go_wp2;refine⟨⟨.ok j,f,acc++b,rfl,HD4.o,fun k hk=>(by cases hk;exact⟨by omega,aA.o,HT.o⟩),fun c p hk=>(by cases hk),dS.o⟩,?_⟩;rw[HM.o,uj HD4.o.2];omega
      ·have ZY:((s[k].toNat:Int) == 92)=false:=by rw[<-gq.o];simpa using h92
       have oH:Hd ((if aJ s.data.toList k=0 then .error (2,k) else str s.data.toList f (k+aJ s.data.toList k) (acc++ag s.data.toList k (aJ s.data.toList k)))=G):=by
        have:=qP.o;rw[if_neg h34,if_neg h92,if_neg (by rintro(h|h);exact hm1 h;rw[BF.o]at h;cases h)]at this;exact this
       have Rt:Hd (∀w,Calls prog 161 #[.string s,.int .i64 (k:Nat)] w fun e w'=>e=.returned (.int .i64 (aJ s.data.toList k:Nat))/\w'=w):=fun w=>ZW.o k w hkl
       have hso:=KI.o k hk;have FV:Hd ((ag s.data.toList k (aJ s.data.toList k)).length<=3*aJ s.data.toList k):=ji.o k;obtain⟨n,hn⟩:=zN (aJ s.data.toList k);rw[hn]at oH Rt hso FV;clear h34 h92 hm1 hn;go_wp2;go_quiet (fail);have HD4:Hd (Dd (w3.drewN nq) R s L O now de k 0 0):=HD3.o;have dS:Hd (w.grownBy (w3.drewN nq) (some R)):=aj aK.o nq;obtain⟨w4,hw4⟩:∃W,w3.drewN nq=W:=⟨_,rfl⟩;rw[hw4]at HD4 dS ⊢;obtain⟨g0,g1,-,-,-,g5,-,-,gg⟩:=HD4.o.cells;have gg1:=gg 1;clear hw4 gg f0 f1 f5 ff1;go_wp2;go_quiet (first|(go_at_call 161;exact Calls.quiet_of_same (Rt.o _)));have HD5:Hd (Dd (w4.drewN nq) R s L O now de k 0 0):=HD4.o;have iy:Hd (w.grownBy (w4.drewN nq) (some R)):=aj dS.o nq;obtain⟨w5,hw5⟩:∃W,w4.drewN nq=W:=⟨_,rfl⟩;rw[hw5]at HD5 iy ⊢;obtain⟨k0,k1,-,-,-,k5,-,-,kf⟩:=HD5.o.cells;have kf1:=kf 1;clear hw5 kf g0 g1 g5 gg1
       by_cases hn0:n=0
       ·have hz:((n:Int) == 0)=true:=by simp[hn0]
        have aA:Hd (G=.error (2,k)):=by
         have:=oH.o;rw[if_pos hn0]at this;exact this.symm
        clear hn0;go_wp2_with (go_at_call 82;refine(CF.o _ HD5.o).mono ?_;rintro e w6 ⟨rfl,hd6,dK⟩);refine bodyPost_ret (results_tmp (t:=2) rfl _ _ _) rfl ?_;rw[aA.o];exact⟨fun t k hh=>(by cases hh),fun c p hh=>(by cases hh;exact⟨⟨[],by simp,rfl⟩,by decide,k,hk,hd6⟩),dH iy.o dK⟩
       ·have hz:((n:Int) == 0)=false:=by rw[beq_eq_false_iff_ne];omega
        have aA:Hd (str s.data.toList f (k+n) (acc++ag s.data.toList k n)=G):=by
         have:=oH.o;rw[if_neg hn0]at this;exact this
        obtain⟨X,hX⟩:∃X:List UInt8,ag s.data.toList k n=X:=⟨_,rfl⟩;have hwr:IntKind.i64.wrap ((k:Int)+(n:Int))=(k:Int)+(n:Int):=by rw[IntKind.wrap_i64];omega
        have sl:∀wx,(Instr.slice 9 (.string s) (some (.int .i64 (k:Int))) (some (.int .i64 ((k:Int)+(n:Int)))) none).run prog wx=.ok (.string ⟨X.toArray⟩) wx:=fun wx=>by
         rw[<-hX];have:=lC s k (k+n) (by omega) hso wx;rw[show k+n-k=n by omega,show((k+n:Nat):Int)=(k:Int)+(n:Int) by omega]at this;exact this
        rw[hX]at aA FV;have ka:∀wx,(Op.stringOp .add ⟨acc.toArray⟩ ⟨X.toArray⟩).run prog wx=.ok (.string ⟨(acc++X).toArray⟩) wx:=fun wx=>Kw acc X wx (by have:=FV.o;omega)
        have HT:Hd ((acc++X).length<=3*(k+n)):=by
         show _<=_;rw[List.length_append];have:=FV.o;omega
        clear hX;go_wp2;go_quiet (fail);have HD6:Hd (Dd (w5.drewN nq) R s L O now de k 0 0):=HD5.o;have kX:Hd (w.grownBy (w5.drewN nq) (some R)):=aj iy.o nq;obtain⟨w6,hw6⟩:∃W,w5.drewN nq=W:=⟨_,rfl⟩;rw[hw6]at HD6 kX ⊢;obtain⟨m0,m1,-,-,-,m5,-,-,mf⟩:=HD6.o.cells;have mf1:=mf 1;clear hw6 mf k0 k1 k5 kf1;have HD7:Hd (Dd (w6.setCell ⟨R,1,none⟩ (.int .i64 ((k:Int)+(n:Int)))) R s L O now de (k+n) 0 0):=HD6.o.setI (k+n);go_wp2;refine⟨⟨.ok (k+n),f,acc++X,rfl,⟨hso,HD7.o⟩,fun k hk=>(by cases hk;exact⟨by omega,aA.o,HT.o⟩),fun c p hk=>(by cases hk),aQ kX.o 1 _⟩,?_⟩;rw[HM.o,uj HD7.o];omega
open Go.RowKit Go.Joins
def FW(i M R:Nat)(s:ByteArray)(L O:Value)(now de:Nat)(g:Rs (List UInt8 × Nat))(w:World)(e:Ending)(w':World):Prop:=(∀t j,g=.ok (t,j)->e=.returned (.tuple #[.string ⟨t.toArray⟩,.int .i64 (i:Nat)])/\Ds w' R s L O now de (.ok j))/\(∀c p,g=.error (c,p)->(∃t:List UInt8,t.length<=M/\e=.returned (.tuple #[.string ⟨t.toArray⟩,.int .i64 (i:Nat)]))/\Ds w' R s L O now de (.error (c,p)))/\w.grownBy w' (some R)
theorem ZZ(l:List UInt8)(i:Nat)(h:nx l i=34):bY l i=str l (l.length+1) (i+1) []:=by unfold bY;rw[if_pos h]
theorem Z4(l:List UInt8)(i:Nat)(h:¬nx l i=34):bY l i=if toR aO l i=i then .error (2,i) else .ok (ag l i (toR aO l i-i),toR aO l i):=by unfold bY;rw[if_neg h]
theorem Ru(R:Nat)(s:ByteArray)(L O:Value)(now de i:Nat)(w:World)(h:Dd w R s L O now de i 0 0)(hi:i<=s.size)(hs:s.size<=1048576) :
  Calls prog 79 #[.pointer (some ⟨R,0,none⟩)] w (FW i (4*s.size+4) R s L O now de (bY s.data.toList i) w):=by
 have hl:s.data.toList.length=s.size:=by simp
 have CI:Hd (Calls prog 52 #[.pointer (some ⟨R,0,none⟩),.int .u8 34] w fun e w'=>e=.returned (.bool (decide (nx s.data.toList i=34)))/\w.grownBy w' none):=rX R s L O now de (.ok i) 34 (by decide) w ⟨hi,h⟩ hs;have HD:Hd (Dd w R s L O now de i 0 0):=h
 by_cases h34:nx s.data.toList i=34
 ·have HK:Hd (bY s.data.toList i=str s.data.toList (s.data.toList.length+1) (i+1) []):=ZZ _ _ h34;have hlt:i<s.size:=by rw[<-hl];exact bH (by omega)
  rw[decide_eq_true h34]at CI;have CQ:Hd (∀w,Dd w R s L O now de i 0 0->Calls prog 119 #[.pointer (some ⟨R,0,none⟩)] w (mZ (4*s.size+4) R s L O now de (str s.data.toList (s.data.toList.length+1) (i+1) []) w)):=fun w h=>Rn R s L O now de i w h hlt h34 hs
  rw[HK.o];obtain⟨G,hG⟩:=zN (str s.data.toList (s.data.toList.length+1) (i+1) []);rw[hG]at CQ ⊢;obtain⟨c0,c1,-⟩:=h.cells;clear h h34 hG HK;go_enter func79,ntmps79;go_wp2_with (first|(go_at_call 52;refine CI.o.mono ?_;rintro e w1 ⟨rfl,hg1⟩)|(go_at_call 119;refine(CQ.o _ (HD.o.grow hg1)).mono ?_));rintro e w2 ⟨h1,h2,hg2⟩;have HG2:Hd (w.grownBy w2 (some R)):=dH (aG (ax w (some R)) hg1) hg2;clear hg1 hg2
  match G,h1,h2 with
  | .error (c,p),_,h2 =>
   obtain⟨⟨t,ht,rfl⟩,hd⟩:=h2 c p rfl;have fH:Hd (Ds w2 R s L O now de (.error (c,p))):=hd;have HT:Hd (t.length<=4*s.size+4):=ht;clear h2 hd ht;go_wp2;refine bodyPost_ret (results_tmp2 (t:=2) (u:=3) rfl _ _ _) rfl ?_;exact⟨fun t k hh=>(by cases hh),fun c' p' hh=>(by injection hh with hh;injection hh with e1 e2;subst e1 e2;exact⟨⟨t,HT.o,rfl⟩,fH.o⟩),HG2.o⟩
  | .ok (t,j),h1,_ =>
   obtain⟨rfl,hd⟩:=h1 t j rfl;have fH:Hd (Ds w2 R s L O now de (.ok j)):=hd;clear h1 hd;go_wp2;refine bodyPost_ret (results_tmp2 (t:=2) (u:=3) rfl _ _ _) rfl ?_;exact⟨fun t' k' hh=>(by injection hh with hh;injection hh with e1 e2;subst e1 e2;exact⟨rfl,fH.o⟩),fun c' p' hh=>(by cases hh),HG2.o⟩
 ·have HK:Hd (bY s.data.toList i=if toR aO s.data.toList i=i then .error (2,i) else .ok (ag s.data.toList i (toR aO s.data.toList i-i),toR aO s.data.toList i)):=Z4 _ _ h34;rw[decide_eq_false h34]at CI;rw[HK.o];have HX:Hd (∀k (hk:k<s.size),nx s.data.toList k=(s[k].toNat:Int)):=byte_at s;have HST:Hd (∀k (hk:k<s.size),aO (s[k].toNat:Int)=true->toR aO s.data.toList k=toR aO s.data.toList (k+1)):=fun k hk hb=>qH aO _ k (by omega) (by rw[byte_at s k hk];exact hb)
  have jO:Hd (∀k (hk:k<s.size),aO (s[k].toNat:Int)=false->toR aO s.data.toList k=k):=fun k hk hb=>lX aO _ k (by rw[byte_at s k hk];exact hb)
  have qM:Hd (∀k,s.size<=k->toR aO s.data.toList k=k):=fun k hk=>Ba aO _ k (by omega)
  obtain⟨J,hJ⟩:=zN (toR aO s.data.toList i);have HJ:Hd (toR aO s.data.toList i=J):=hJ;have hJ1:=pI aO s.data.toList i (by omega);rw[hJ,hl]at hJ1;rw[hJ];obtain⟨G,hG⟩:∃G:Rs (List UInt8 × Nat),(if J=i then .error (2,i) else .ok (ag s.data.toList i (J-i),J))=G:=⟨_,rfl⟩;have uo:Hd ((if J=i then .error (2,i) else .ok (ag s.data.toList i (J-i),J):Rs (List UInt8 × Nat))=G):=hG;rw[hG];obtain⟨c0,c1,-⟩:=h.cells;clear h h34 hG HK hJ;go_enter func79,ntmps79;go_wp2_with (go_at_call 52;refine CI.o.mono ?_;rintro e w1 ⟨rfl,hg1⟩);have HD1:Hd (Dd w1 R s L O now de i 0 0):=HD.o.grow hg1;have ay:Hd (w.grownBy w1 (some R)):=aG (ax w (some R)) hg1;clear hg1 c0 c1;go_loopw [] (fun wr=>∃k:Nat,Dd wr R s L O now de k 0 0/\i<=k/\k<=s.size/\toR aO s.data.toList k=J/\w.grownBy wr (some R)) (fun wr=>s.size-dI wr R)
  case atStart=>exact⟨i,HD1.o,by omega,hi,HJ.o,ay.o⟩
  case round =>
   obtain⟨k,hd,hik,hk,hto,hg⟩:=hrel;have HDK:Hd (Dd wr R s L O now de k 0 0):=hd;have jY:Hd (w.grownBy wr (some R)):=hg;have gK:Hd (dI wr R=k):=vP hd;have mW:Hd (toR aO s.data.toList k=J):=hto;obtain⟨c0,c1,-,-,-,c5,-,-,df⟩:=hd.cells;have df1:=df 1;clear hd hg hto df
   by_cases hlt:k<s.size
   ·have hlt':decide ((k:Int)<(s.size:Int))=true:=by simp;omega
    have CB:Hd (∀w,Calls prog 120 #[.int .u8 (s[k].toNat:Int)] w fun e w'=>e=.returned (.bool (aO (s[k].toNat:Int)))/\w'=w):=YQ s[k];have H1:Hd (aO (s[k].toNat:Int)=true->toR aO s.data.toList k=toR aO s.data.toList (k+1)):=HST.o k hlt;have H2:Hd (aO (s[k].toNat:Int)=false->toR aO s.data.toList k=k):=jO.o k hlt;obtain⟨b,hb⟩:=zN (aO (s[k].toNat:Int));rw[hb]at CB H1 H2;clear hb
    cases b with
    | true =>
     have HN:Hd (toR aO s.data.toList (k+1)=J):=(H1.o rfl).symm.trans mW.o;go_wp2;go_quiet (first|(go_at_call 120;exact Calls.quiet_of_same (CB.o _)));have aF:Hd (Dd (wr.drewN nq) R s L O now de k 0 0):=HDK.o;have dO:Hd (w.grownBy (wr.drewN nq) (some R)):=aj jY.o nq;obtain⟨wA,hwA⟩:∃W,wr.drewN nq=W:=⟨_,rfl⟩;rw[hwA]at aF dO ⊢;obtain⟨d0,d1,-,-,-,d5,-,-,dg⟩:=aF.o.cells;have dg1:=dg 1;have HS:=aF.o.setI (k+1);have ku:Hd (Dd (wA.setCell ⟨R,1,none⟩ (.int .i64 ((k:Int)+1))) R s L O now de (k+1) 0 0):=HS;clear hwA dg HS;go_wp2;refine⟨⟨k+1,ku.o,by omega,by omega,HN.o,aQ dO.o 1 _⟩,?_⟩;rw[gK.o,vP ku.o];omega
    | false =>
     have BG:Hd (J=k):=mW.o.symm.trans (H2.o rfl);go_wp2;go_quiet (first|(go_at_call 120;exact Calls.quiet_of_same (CB.o _)));have aF:Hd (Dd (wr.drewN nq) R s L O now de k 0 0):=HDK.o;have dO:Hd (w.grownBy (wr.drewN nq) (some R)):=aj jY.o nq;obtain⟨wA,hwA⟩:∃W,wr.drewN nq=W:=⟨_,rfl⟩;rw[hwA]at aF dO ⊢;obtain⟨d0,d1,-,-,-,d5,-,-,dg⟩:=aF.o.cells;clear hwA dg
     by_cases hki:k=i
     ·have hb:((k:Int) == (i:Int))=true:=by simp[hki]
      have aA:Hd (G=.error (2,i)):=by
       have:=uo.o;rw[if_pos (BG.o.trans hki)]at this;exact this.symm
      have CF:Hd (∀wx,Dd wx R s L O now de k 0 0->Calls prog 82 #[.pointer (some ⟨R,0,none⟩),.int .i64 2,.int .i64 (i:Nat)] wx fun en w'=>en=.returned (.tuple #[])/\Dd w' R s L O now de k 2 i/\wx.grownBy w' (some R)):=fun wx hg=>pJ R s L O now de k 2 i wx hg
      have Z5:i<=k:=hik;have sl:∀wx,(Instr.slice 9 (.string s) (some (.int .i64 (i:Int))) (some (.int .i64 (k:Int))) none).run prog wx=.ok (.string ⟨(ag s.data.toList i (k-i)).toArray⟩) wx:=fun wx=>lC s i k hik hk wx
      have ji:Hd ((ag s.data.toList i (k-i)).length<=4*s.size+4):=by
       show _<=_;unfold ag;rw[List.length_take];omega
      obtain⟨X,hX⟩:=zN (ag s.data.toList i (k-i));rw[hX]at sl ji;clear hki hX;go_wp2_with (go_at_call 82;refine(CF.o _ aF.o).mono ?_;rintro e w2 ⟨rfl,hd2,hg2⟩;obtain⟨e0,e1,-⟩:=hd2.cells);go_quiet (fail);go_wp2;refine bodyPost_ret (results_tmp2 (t:=2) (u:=3) rfl _ _ _) rfl ?_;rw[aA.o];exact⟨fun t k hh=>(by cases hh),fun c p hh=>(by cases hh;exact⟨⟨X,ji.o,rfl⟩,by decide,k,hk,hd2⟩),aj (dH dO.o hg2) _⟩
     ·have hb:((k:Int) == (i:Int))=false:=by rw[beq_eq_false_iff_ne];omega
      have aA:Hd (G=.ok (ag s.data.toList i (k-i),k)):=by
       have:=uo.o;rw[BG.o,if_neg hki]at this;exact this.symm
      have sl:∀wx,(Instr.slice 9 (.string s) (some (.int .i64 (i:Int))) (some (.int .i64 (k:Int))) none).run prog wx=.ok (.string ⟨(ag s.data.toList i (k-i)).toArray⟩) wx:=fun wx=>lC s i k hik hk wx
      obtain⟨X,hX⟩:=zN (ag s.data.toList i (k-i));rw[hX]at sl aA;clear hki hX;go_wp2;go_quiet (fail);go_wp2;refine bodyPost_ret (results_tmp2 (t:=2) (u:=3) rfl _ _ _) rfl ?_;rw[aA.o];exact⟨fun t j hh=>(by cases hh;exact⟨rfl,hk,aF.o⟩),fun c p hh=>(by cases hh),aj dO.o _⟩
   ·have hge:decide ((k:Int)<(s.size:Int))=false:=by simp;omega
    have BG:Hd (J=k):=mW.o.symm.trans (qM.o k (by omega));go_wp2;go_quiet (fail);have aF:Hd (Dd (wr.drewN nq) R s L O now de k 0 0):=HDK.o;have dO:Hd (w.grownBy (wr.drewN nq) (some R)):=aj jY.o nq;obtain⟨wA,hwA⟩:∃W,wr.drewN nq=W:=⟨_,rfl⟩;rw[hwA]at aF dO ⊢;obtain⟨d0,d1,-,-,-,d5,-,-,dg⟩:=aF.o.cells;clear hwA dg
    by_cases hki:k=i
    ·have hb:((k:Int) == (i:Int))=true:=by simp[hki]
     have aA:Hd (G=.error (2,i)):=by
      have:=uo.o;rw[if_pos (BG.o.trans hki)]at this;exact this.symm
     have CF:Hd (∀wx,Dd wx R s L O now de k 0 0->Calls prog 82 #[.pointer (some ⟨R,0,none⟩),.int .i64 2,.int .i64 (i:Nat)] wx fun en w'=>en=.returned (.tuple #[])/\Dd w' R s L O now de k 2 i/\wx.grownBy w' (some R)):=fun wx hg=>pJ R s L O now de k 2 i wx hg
     have Z5:i<=k:=hik;have sl:∀wx,(Instr.slice 9 (.string s) (some (.int .i64 (i:Int))) (some (.int .i64 (k:Int))) none).run prog wx=.ok (.string ⟨(ag s.data.toList i (k-i)).toArray⟩) wx:=fun wx=>lC s i k hik hk wx
     have ji:Hd ((ag s.data.toList i (k-i)).length<=4*s.size+4):=by
      show _<=_;unfold ag;rw[List.length_take];omega
     obtain⟨X,hX⟩:=zN (ag s.data.toList i (k-i));rw[hX]at sl ji;clear hki hX;go_wp2_with (go_at_call 82;refine(CF.o _ aF.o).mono ?_;rintro e w2 ⟨rfl,hd2,hg2⟩;obtain⟨e0,e1,-⟩:=hd2.cells);go_quiet (fail);go_wp2;refine bodyPost_ret (results_tmp2 (t:=2) (u:=3) rfl _ _ _) rfl ?_;rw[aA.o];exact⟨fun t k hh=>(by cases hh),fun c p hh=>(by cases hh;exact⟨⟨X,ji.o,rfl⟩,by decide,k,hk,hd2⟩),aj (dH dO.o hg2) _⟩
    ·have hb:((k:Int) == (i:Int))=false:=by rw[beq_eq_false_iff_ne];omega
     have aA:Hd (G=.ok (ag s.data.toList i (k-i),k)):=by
      have:=uo.o;rw[BG.o,if_neg hki]at this;exact this.symm
     have sl:∀wx,(Instr.slice 9 (.string s) (some (.int .i64 (i:Int))) (some (.int .i64 (k:Int))) none).run prog wx=.ok (.string ⟨(ag s.data.toList i (k-i)).toArray⟩) wx:=fun wx=>lC s i k hik hk wx
     obtain⟨X,hX⟩:=zN (ag s.data.toList i (k-i));rw[hX]at sl aA;clear hki hX;go_wp2;go_quiet (fail);go_wp2;refine bodyPost_ret (results_tmp2 (t:=2) (u:=3) rfl _ _ _) rfl ?_;rw[aA.o];exact⟨fun t j hh=>(by cases hh;exact⟨rfl,hk,aF.o⟩),fun c p hh=>(by cases hh),aj dO.o _⟩
open Go.RowKit Go.Joins
def Z7(R:Nat)(s:ByteArray)(L O:Value)(now de:Nat)(g:Rs (Int × Nat))(w:World)(e:Ending)(w':World):Prop:=(∀n j,g=.ok (n,j)->e=.returned (.int .i64 n)/\Ds w' R s L O now de (.ok j))/\(∀c p,g=.error (c,p)->(∃n:Int,e=.returned (.int .i64 n))/\Ds w' R s L O now de (.error (c,p)))/\w.grownBy w' (some R)
def KJ(l:List UInt8)(i a:Nat)(m:Bool):Rs (Int × Nat) :=
 if toR au l a=a\/(1<toR au l a-a/\nx l a=48) then .error (2,a)
 else if 18<toR au l a-a then .error (3,i)
 else .ok (if m=true then -(iq (ag l a (toR au l a-a)) 0:Int) else(iq (ag l a (toR au l a-a)) 0:Int),toR au l a)
theorem Z8(l:List UInt8)(i:Nat):jf l i=KJ l i (if au (nx l i)=true then i else i+1) (decide (nx l i=45)):=by
 unfold jf KJ
 by_cases h:nx l i=45
 ·rw[decide_eq_true h];simp only[if_pos h,if_true]
 ·rw[decide_eq_false h];simp[if_neg h]
theorem Rw(l:List UInt8)(a k:Nat)(ha:a<=k)(hk:k<l.length):ag l a (k+1-a)=ag l a (k-a)++[l[k]]:=by
 unfold ag;rw[show k+1-a=(k-a)+1 by omega,List.take_add_one,List.getElem?_drop,show a+(k-a)=k by omega,List.getElem?_eq_getElem hk];rfl
theorem Z9(l:List UInt8)(a k:Nat)(h:∀c∈ag l a (k-a),c.toNat<=57)(ha:a<=k)(hk:k<l.length)(hd:l[k].toNat<=57):∀c∈ag l a (k+1-a),c.toNat<=57:=by
 rw[Rw l a k ha hk];intro c hc
 rcases List.mem_append.1 hc with h1|h1
 ·exact h c h1
 ·rw[List.mem_singleton.1 h1];exact hd
theorem aab(l:List UInt8)(a k n:Nat)(h:iW (ag l a (k-a)) 0=n)(ha:a<=k)(hk:k<l.length):iW (ag l a (k+1-a)) 0=if n<=99999999999999999 then 10*n+(l[k].toNat - 48) else 1000000000000000000:=by
 rw[Rw l a k ha hk,QQ,h];rfl
theorem KL(l:List UInt8)(a k:Nat)(ha:a<=k)(hk:k<=l.length):(ag l a (k-a)).length=k-a:=by
 unfold ag;rw[List.length_take,List.length_drop];omega
theorem Rx(l:List UInt8)(a k:Nat)(h:∀c∈ag l a (k-a),c.toNat<=57)(ha:a<=k)(hk:k<=l.length)(h18:k-a<=18):iW (ag l a (k-a)) 0=iq (ag l a (k-a)) 0/\iq (ag l a (k-a)) 0<=999999999999999999:=by
 have:=QO (ag l a (k-a)) 0 0 h (by decide) (by rw[KL l a k ha hk];omega);refine⟨this.1,?_⟩;have h2:=this.2;have h3:(10:Nat) ^ (0+(ag l a (k-a)).length)<=10 ^ 18:=Nat.pow_le_pow_right (by omega) (by rw[KL l a k ha hk];omega);have e:(10:Nat) ^ 18=1000000000000000000:=by decide
 omega
theorem aac(l:List UInt8)(a k:Nat)(h:∀c∈ag l a (k-a),c.toNat<=57)(ha:a<=k)(hk:k<=l.length)(h18:18<k-a)(h49:49<=nx l a):iW (ag l a (k-a)) 0=1000000000000000000:=by
 have hal:a<l.length:=by omega
 have e:ag l a (k-a)=l[a] :: ag l (a+1) (k-(a+1)):=by
  unfold ag;rw[List.drop_eq_getElem_cons hal,show k-a=(k-(a+1))+1 by omega,List.take_succ_cons]
 rw[pG l a hal]at h49;have hlen:=KL l (a+1) k (by omega) hk;rw[e]at h ⊢;have hc:=h l[a] (by simp);show iW (ag l (a+1) (k-(a+1))) (if 0<=99999999999999999 then 10*0+(l[a].toNat - 48) else 1000000000000000000)=_;rw[if_pos (by omega)];exact QP _ _ 0 (fun c hc=>h c (by simp[hc])) (by show 1<=_;omega) (by omega) (by omega)
theorem aad(l:List UInt8)(a:Nat)(h:¬toR au l a=a):48<=nx l a/\nx l a<=57:=by
 apply Classical.byContradiction;intro hn;exact h (lX au l a (by unfold au;exact decide_eq_false hn))
open Go.RowKit Go.Joins
theorem FX(l:List UInt8)(i k:Nat):nx l (i+k)=nx (l.drop i) k:=by unfold nx;rw[List.getElem?_drop]
def BH(c a b d:Int):Nat :=
 if c<0 then 0
 else if c<128 then 1
 else if c<194\/244<c then 0
 else if decide ((if c=224 then 160 else if c=240 then 144 else 128)<=a/\a<=(if c=237 then 159 else if c=244 then 143 else 191))=false then 0
 else if c<224 then 2
 else if decide (128<=b/\b<=191)=false then 0
 else if c<240 then 3
 else if decide (128<=d/\d<=191)=false then 0
 else 4
theorem aae(l:List UInt8)(i:Nat):aJ l i=BH (nx l i) (nx l (i+1)) (nx l (i+2)) (nx l (i+3)):=rfl
theorem aaf{a b c d a' b' c' d':Int}(h1:a=a')(h2:b=b')(h3:c=c')(h4:d=d'):BH a b c d=BH a' b' c' d':=by subst h1 h2 h3 h4;rfl
theorem aag(l:List UInt8)(i:Nat):aJ l i=aJ (l.drop i) 0:=aaf (FX l i 0) (FX l i 1) (FX l i 2) (FX l i 3)
theorem vW(c:UInt8)(s:List UInt8):aJ (c :: s) 0=if(c.toNat:Int)<128 then 1
 else if(c.toNat:Int)<194\/244<(c.toNat:Int) then 0
 else if decide ((if(c.toNat:Int)=224 then 160 else if(c.toNat:Int)=240 then 144 else 128)<=nx s 0/\nx s 0<=(if(c.toNat:Int)=237 then 159 else if(c.toNat:Int)=244 then 143 else 191))=false then 0
 else if(c.toNat:Int)<224 then 2
 else if decide (128<=nx s 1/\nx s 1<=191)=false then 0
 else if(c.toNat:Int)<240 then 3
 else if decide (128<=nx s 2/\nx s 2<=191)=false then 0
 else 4:=by
 have e:aJ (c :: s) 0=BH (c.toNat:Int) (nx s 0) (nx s 1) (nx s 2):=aae _ _;rw[e,BH,if_neg (by omega)]
theorem aah(s:List UInt8)(h:0<aJ s 0):∃q r,s=q++r/\q.length=aJ s 0/\(∀r',aJ (q++r') 0=q.length)/\((∃c,q=[c]/\c.toNat<128)\/∃c q',q=c :: q'/\128<=c.toNat/\∀b∈q,128<=b.toNat):=by
 match s,h with
 | [],h=>exact absurd h (by decide)
 | c :: s,h =>
  rw[vW]at h ⊢
  by_cases h1:(c.toNat:Int)<128
  ·exact⟨[c],s,rfl,by rw[if_pos h1];rfl,fun r'=>by show aJ (c :: r') 0=1;rw[vW,if_pos h1],Or.inl ⟨c,rfl,by omega⟩⟩
  ·rw[if_neg h1]at h ⊢
   by_cases h2:(c.toNat:Int)<194\/244<(c.toNat:Int)
   ·rw[if_pos h2]at h;exact absurd h (by decide)
   ·rw[if_neg h2]at h ⊢
    match s,h with
    | [],h =>
     rw[if_pos]at h
     ·exact absurd h (by decide)
     ·apply decide_eq_false;intro hh;have:nx [] 0=-1:=rfl;rw[this]at hh;have:=hh.1;split at this
      ·omega
      ·split at this<;>omega
    | b :: s,h =>
     have e0:∀r,nx (b :: r) 0=(b.toNat:Int):=fun _=>rfl
     rw[e0]at h ⊢
     by_cases h3:decide ((if(c.toNat:Int)=224 then 160 else if(c.toNat:Int)=240 then 144 else 128)<=(b.toNat:Int)/\(b.toNat:Int)<=(if(c.toNat:Int)=237 then 159 else if(c.toNat:Int)=244 then 143 else 191))=false
     ·rw[if_pos h3]at h;exact absurd h (by decide)
     ·rw[if_neg h3]at h ⊢;have hb:128<=b.toNat:=by
       have:=(of_decide_eq_true ((Bool.not_eq_false _).mp h3)).1;split at this
       ·omega
       ·split at this<;>omega
      by_cases h4:(c.toNat:Int)<224
      ·refine⟨[c,b],s,rfl,by rw[if_pos h4];rfl,fun r'=>?_,Or.inr ⟨c,[b],rfl,by omega,?_⟩⟩
       ·show aJ (c :: (b :: r')) 0=2;rw[vW,if_neg h1,if_neg h2,e0,if_neg h3,if_pos h4]
       ·intro x hx;simp only[List.mem_cons,List.not_mem_nil,or_false]at hx
        rcases hx with rfl|rfl<;>omega
      ·rw[if_neg h4]at h ⊢
       match s,h with
       | [],h =>
        rw[if_pos]at h
        ·exact absurd h (by decide)
        ·apply decide_eq_false;intro hh;have:nx [b] 1=-1:=rfl;omega
       | d :: s,h =>
        have e1:∀r,nx (b :: d :: r) 1=(d.toNat:Int):=fun _=>rfl
        rw[e1]at h ⊢
        by_cases h5:decide (128<=(d.toNat:Int)/\(d.toNat:Int)<=191)=false
        ·rw[if_pos h5]at h;exact absurd h (by decide)
        ·rw[if_neg h5]at h ⊢;have hd:128<=d.toNat:=by
          have:=(of_decide_eq_true ((Bool.not_eq_false _).mp h5)).1;omega
         by_cases h6:(c.toNat:Int)<240
         ·refine⟨[c,b,d],s,rfl,by rw[if_pos h6];rfl,fun r'=>?_,Or.inr ⟨c,[b,d],rfl,by omega,?_⟩⟩
          ·show aJ (c :: (b :: d :: r')) 0=3;rw[vW,if_neg h1,if_neg h2,e0,if_neg h3,if_neg h4,e1,if_neg h5,if_pos h6]
          ·intro x hx;simp only[List.mem_cons,List.not_mem_nil,or_false]at hx
           rcases hx with rfl|rfl|rfl<;>omega
         ·rw[if_neg h6]at h ⊢
          match s,h with
          | [],h =>
           rw[if_pos]at h
           ·exact absurd h (by decide)
           ·apply decide_eq_false;intro hh;have:nx [b,d] 2=-1:=rfl;omega
          | x :: s,h =>
           have e2:∀r,nx (b :: d :: x :: r) 2=(x.toNat:Int):=fun _=>rfl
           rw[e2]at h ⊢
           by_cases h7:decide (128<=(x.toNat:Int)/\(x.toNat:Int)<=191)=false
           ·rw[if_pos h7]at h;exact absurd h (by decide)
           ·rw[if_neg h7]at h ⊢;have hx':128<=x.toNat:=by
             have:=(of_decide_eq_true ((Bool.not_eq_false _).mp h7)).1;omega
            refine⟨[c,b,d,x],s,rfl,rfl,fun r'=>?_,Or.inr ⟨c,[b,d,x],rfl,by omega,?_⟩⟩
            ·show aJ (c :: (b :: d :: x :: r')) 0=4;rw[vW,if_neg h1,if_neg h2,e0,if_neg h3,if_neg h4,e1,if_neg h5,if_neg h6,e2,if_neg h7]
            ·intro y hy;simp only[List.mem_cons,List.not_mem_nil,or_false]at hy
             rcases hy with rfl|rfl|rfl|rfl<;>omega
inductive Us:List UInt8->Prop
 | nil:Us []
 | cons (q r:List UInt8):0<q.length->(∀r',aJ (q++r') 0=q.length)->((∃c,q=[c]/\c.toNat<128)\/∃c q',q=c :: q'/\128<=c.toNat/\∀b∈q,128<=b.toNat)->Us r->Us (q++r)
theorem Us.app{a b:List UInt8}(ha:Us a)(hb:Us b):Us (a++b):=by
 induction ha with
 | nil=>exact hb
 | cons q r h1 h2 h3 _ ih=>rw[List.append_assoc];exact Us.cons q _ h1 h2 h3 ih
theorem Ry(s:List UInt8)(h:0<aJ s 0):Us (s.take (aJ s 0)):=by
 obtain⟨q,r,h1,h2,h3,h4⟩:=aah s h;rw[<-h2,h1,List.take_left' rfl];have:=Us.cons q [] (by omega) h3 h4 Us.nil;simpa using this
theorem KN(c:UInt8)(h:c.toNat<128):Us [c]:=Us.cons [c] [] (by simp) (fun r'=>by show aJ (c :: r') 0=1;rw[vW,if_pos (by omega)]) (Or.inl ⟨c,rfl,h⟩) Us.nil
theorem Rz(s:List UInt8)(h:aJ s 0=s.length)(h0:0<s.length):Us s:=by
 have:=Ry s (by omega);rw[h,List.take_length]at this;exact this
theorem aai(n:Nat)(h:n<65536)(hs:¬(55296<=n/\n<=57343)):Us (gz n):=by
 unfold gz;have tn:∀m,m<256->((UInt8.ofNat m).toNat:Int)=(m:Int):=fun m hm=>by
  rw[UInt8.toNat_ofNat_of_lt' (by simpa using hm)]
 split
 ·exact KN _ (by rw[UInt8.toNat_ofNat_of_lt' (by show n<256;omega)];assumption)
 ·split
  ·refine Rz _ ?_ (by simp);rw[vW,tn _ (by omega),if_neg (by omega),if_neg (by omega),if_neg,if_pos (by omega)]
   ·rfl
   ·rw[decide_eq_false_iff_not,Classical.not_not];have e:nx [UInt8.ofNat (128+n % 64)] 0=((UInt8.ofNat (128+n % 64)).toNat:Int):=rfl;rw[e,tn _ (by omega),if_neg (by omega),if_neg (by omega),if_neg (by omega),if_neg (by omega)];omega
  ·refine Rz _ ?_ (by simp);have e0:∀r,nx (UInt8.ofNat (128+n / 64 % 64) :: r) 0=((UInt8.ofNat (128+n / 64 % 64)).toNat:Int):=fun _=>rfl
   have e1:∀b,nx [b,UInt8.ofNat (128+n % 64)] 1=((UInt8.ofNat (128+n % 64)).toNat:Int):=fun _=>rfl
   rw[vW,tn _ (by omega),if_neg (by omega),if_neg (by omega),if_neg,if_neg (by omega),if_neg,if_pos (by omega)]
   ·rfl
   ·rw[decide_eq_false_iff_not,Classical.not_not,e1,tn _ (by omega)];omega
   ·rw[decide_eq_false_iff_not,Classical.not_not,e0,tn _ (by omega)];split
    ·rw[if_neg (by omega)];rw[if_neg (by omega)];omega
    ·rw[if_neg (by omega)];split
     ·omega
     ·rw[if_neg (by omega)];omega
open Go.RowKit Go.Joins
theorem aaj(l:List UInt8)(i:Nat)(b:List UInt8)(j:Nat)(h:esc l i=.ok (b,j)):Us b:=by
 unfold esc at h;have one:∀c:UInt8,c.toNat<128->∀m,(Except.ok ([c],m):Rs (List UInt8 × Nat))=.ok (b,j)->Us b:=fun c hc m hh=>by
  injection hh with hh
  injection hh with h1 h2
  rw[<-h1];exact KN c hc
 split at h
 ·rename_i hu;have hl:i+1<l.length:=bH (by omega);split at h
  ·cases h
  ·rename_i n m hf;split at h
   ·cases h
   ·rename_i hs;injection h with h
    injection h with h1 h2
    rw[<-h1];have:=(KA l 4 (i+2) 0 n m (by omega) hf).2.2;exact aai n (by omega) hs
 ·split at h
  ·exact one _ (by decide) _ h
  ·split at h
   ·exact one _ (by decide) _ h
   ·split at h
    ·exact one _ (by decide) _ h
    ·split at h
     ·exact one _ (by decide) _ h
     ·split at h
      ·exact one _ (by decide) _ h
      ·split at h
       ·exact one _ (by decide) _ h
       ·split at h
        ·exact one _ (by decide) _ h
        ·cases h
theorem FY(l:List UInt8):∀(f i:Nat) (acc t:List UInt8) (j:Nat),Us acc->str l f i acc=.ok (t,j)->Us t
 | 0,i,acc,t,j,_,h=>by cases h
 | f+1,i,acc,t,j,ha,h=>by
  rw[BD]at h;split at h
  ·injection h with h
   injection h with h1 h2
   rw[<-h1];exact ha
  ·split at h
   ·split at h
    ·cases h
    ·rename_i b k he;exact FY l f k _ t j (ha.app (aaj l i b k he)) h
   ·split at h
    ·cases h
    ·split at h
     ·cases h
     ·rename_i hs;refine FY l f _ _ t j (ha.app ?_) h;have h0:aJ l i=aJ (l.drop i) 0:=aag l i;unfold ag;rw[h0];exact Ry _ (by omega)
open Go.RowKit Go.Joins
inductive Ld(ns:List Tn):Nat->Nat->Prop
 | top (p:Nat):ak ns p=0->Ld ns p 0
 | kid (p q d:Nat):ak ns q=1->q∈ae ns p->Ld ns p d->Ld ns q (d+1)
structure FZ(pk:Int)(x:Tn):Prop where
 par:(pk=0/\Us x.ky/\0<=x.kd/\x.kd<=5)\/(pk=1/\x.ky=[]/\(x.kd=1\/x.kd=3\/x.kd=4\/x.kd=5))\/(pk=2/\x.ky=[]/\x.kd=0)
 txt:if x.kd=3 then Us x.tx else x.tx=[]
 num:if x.kd=4 then -1000000000000000000<x.nu/\x.nu<1000000000000000000 else if x.kd=5 then x.nu=0\/x.nu=1 else x.nu=0
theorem BI{pk:Int}{k:List UInt8}{p:Nat}{z:Int}(h:(pk=0/\Us k/\(z=0\/z=2))\/(pk=2/\k=[]/\z=0)):FZ pk ⟨z,k,[],0,[],p⟩:=by
 have hz:z=0\/z=2:=by rcases h with⟨-,-,h⟩|⟨-,-,h⟩;exact h;exact Or.inl h
 refine⟨?_,?_,?_⟩
 ·rcases h with⟨h1,h2,h3⟩|⟨h1,h2,h3⟩
  ·exact Or.inl ⟨h1,h2,by show 0<=z;omega,by show z<=5;omega⟩
  ·exact Or.inr (Or.inr ⟨h1,h2,h3⟩)
 ·show if z=3 then _ else _;rw[if_neg (by omega)]
 ·show if z=4 then _ else _;rw[if_neg (by omega),if_neg (by show ¬z=5;omega)]
inductive Live(ns:List Tn):Nat->Prop
 | root:Live ns 0
 | kid (p q:Nat):Live ns p->q∈ae ns p->(ak ns p=2->∀b∈ae ns p,b<=q)->Live ns q
inductive kP(ns:List Tn)(a:Nat):Nat->Prop
 | self:kP ns a a
 | kid (p q:Nat):kP ns a p->q∈ae ns p->kP ns a q
structure KP(n:Nat)(ns:List Tn)(up:Nat)(x:Tn):Prop where
 ks:x.ks=[]
 ky:x.ky.length<=n
 tx:x.tx.length<=n
 nu:-1000000000000000000<=x.nu/\x.nu<=1000000000000000000
 free:ak ns up=0->ai ns up x.ky=none
 two:ak ns up=2->x.kd=0
 shp:FZ (ak ns up) x
 dep:x.kd=1->∃d,d<8/\Ld ns up d
 lv:Live ns up
inductive GrT(n:Nat):List Tn->List Tn->Nat->Prop
 | refl (ns:List Tn):GrT n ns ns 0
 | add (ns ns':List Tn) (m up:Nat) (x:Tn):GrT n ns ns' m->up<ns'.length->KP n ns' up x->GrT n ns (addN ns' up x) (m+x.ky.length)
theorem GrT.trans{n:Nat}{a b:List Tn}{m:Nat}(h:GrT n a b m){c:List Tn}{m':Nat}(h':GrT n b c m'):GrT n a c (m+m'):=by
 induction h' with
 | refl=>exact h
 | add ns' m up x h1 h2 h3 ih=>rw[<-Nat.add_assoc];exact GrT.add _ _ _ _ _ ih h2 h3
theorem GrT.one{n:Nat}{ns:List Tn}{up:Nat}{x:Tn}(hu:up<ns.length)(h:KP n ns up x):GrT n ns (addN ns up x) x.ky.length:=by
 have:=GrT.add ns ns 0 up x (GrT.refl ns) hu h
 rwa [Nat.zero_add]at this
theorem GrT.len{n:Nat}{a b:List Tn}{m:Nat}(h:GrT n a b m):a.length<=b.length:=by
 induction h with
 | refl=>exact Nat.le_refl _
 | add ns' m up x h1 h2 h3 ih=>rw[dh];omega
theorem GrT.kd{n:Nat}{a b:List Tn}{m:Nat}(h:GrT n a b m){q:Nat}(hq:q<a.length):ak b q=ak a q:=by
 induction h with
 | refl=>rfl
 | add ns' m up x h1 h2 h3 ih =>
  have:=h1.len;rw[fA _ _ _ h2,if_neg (by omega)];exact ih
theorem Ld.lt{ns:List Tn}{p d:Nat}(h:Ld ns p d):p<ns.length:=by
 induction h with
 | top p h=>exact nM h (by decide)
 | kid p q d h1 h2 h3 _=>exact nM h1 (by decide)
theorem Ld.addN{ns:List Tn}{p d up:Nat}{x:Tn}(hu:up<ns.length)(h:Ld ns p d):Ld (addN ns up x) p d:=by
 induction h with
 | top p h=>exact Ld.top p (by rw[fA ns up x hu,if_neg (by have:=nM h (by decide);omega)];exact h)
 | kid p q d h1 h2 h3 ih =>
  have hq:=nM h1 (by decide);have hp:=h3.lt;refine Ld.kid p q d (by rw[fA ns up x hu,if_neg (by omega)];exact h1) ?_ ih;rw[jM ns up x hu,if_neg (by omega)];split
  ·rename_i e;rw[<-e];simp[h2]
  ·exact h2
theorem GrT.ld{n:Nat}{a b:List Tn}{m:Nat}(h:GrT n a b m){p d:Nat}(hl:Ld a p d):Ld b p d:=by
 induction h with
 | refl=>exact hl
 | add ns' m up x h1 h2 h3 ih=>exact ih.addN h2
structure Tv(n:Nat)(ns:List Tn)(S:Nat):Prop where
 lt:∀p q,q∈ae ns p->q<ns.length
 gt:∀p q,q∈ae ns p->p<q
 nod:∀p,(ae ns p).Nodup
 kdd:∀t,ak ns t=0->KD ns t
 two:∀t q,ak ns t=2->q∈ae ns t->ak ns q=0
 root:0<ns.length/\ak ns 0=0
 txt:∀x∈ns,x.ky.length<=n/\x.tx.length<=n/\-1000000000000000000<=x.nu/\x.nu<=1000000000000000000
 sum:(ns.map fun x=>x.ky.length).sum<=S
 shp:∀p q,q∈ae ns p->∀x,ns[q]?=some x->FZ (ak ns p) x
 dep:∀p q,q∈ae ns p->ak ns q=1->∃d,d<8/\Ld ns p d
 par:∀q,0<q->q<ns.length->∃p,q∈ae ns p
 rt:∀x,ns[0]?=some x->x.ky=[]/\x.tx=[]/\x.nu=0
 uni:∀p p' q,q∈ae ns p->q∈ae ns p'->p=p'
 inc:∀p,(ae ns p).Pairwise (· < ·)
 sep:∀p a b q,ak ns p=2->a∈ae ns p->b∈ae ns p->a<b->kP ns a q->q<b
theorem qQ{ns:List Tn}{up:Nat}{x:Tn}(hu:up<ns.length)(hx:x.ks=[]){p q:Nat}:q∈ae (addN ns up x) p↔(p=up/\q=ns.length)\/q∈ae ns p:=by
 rw[jM ns up x hu,hx]
 by_cases h1:p=ns.length
 ·rw[if_pos h1,h1,yV ns _ (Nat.le_refl _)];exact⟨fun h=>(by cases h),fun h=>(by rcases h with⟨e,-⟩|h;omega;cases h)⟩
 ·rw[if_neg h1]
  by_cases h2:p=up
  ·rw[if_pos h2,h2,List.mem_append,List.mem_singleton];exact⟨fun h=>h.elim Or.inr (fun h=>Or.inl ⟨rfl,h⟩),fun h=>h.elim (fun h=>Or.inr h.2) Or.inl⟩
  ·rw[if_neg h2];exact⟨Or.inr,fun h=>h.elim (fun h=>absurd h.1 h2) id⟩
theorem RD{ns:List Tn}{up:Nat}{x:Tn}(hu:up<ns.length)(hx:x.ks=[])(gt:∀p q,q∈ae ns p->p<q){r:Nat}(h:Live ns r)(hr:r<=up\/¬ak ns up=2):Live (addN ns up x) r:=by
 induction h with
 | root=>exact Live.root
 | kid p q h1 h2 h3 ih =>
  have hg:=gt p q h2;refine Live.kid p q (ih (by omega)) ((qQ hu hx).2 (Or.inr h2)) fun hk b hb=>?_
  rw[fA ns up x hu]at hk;have hp:=xP h2;rw[if_neg (by omega)]at hk
  rcases(qQ hu hx).1 hb with⟨e,-⟩|hb
  ·rcases hr with hr|hr
   ·omega
   ·rw[e]at hk;exact absurd hk hr
  ·exact h3 hk b hb
theorem y9{ns:List Tn}{up:Nat}{x:Tn}(hu:up<ns.length)(hx:x.ks=[])(gt:∀p q,q∈ae ns p->p<q)(lt:∀p q,q∈ae ns p->q<ns.length)(h:Live ns up):Live (addN ns up x) ns.length:=by
 refine Live.kid up _ (RD hu hx gt h (Or.inl (Nat.le_refl _))) ((qQ hu hx).2 (Or.inl ⟨rfl,rfl⟩)) fun _ b hb=>?_
 rcases(qQ hu hx).1 hb with⟨-,e⟩|hb
 ·omega
 ·have:=lt _ _ hb;omega
theorem aak{ns:List Tn}(gt:∀p q,q∈ae ns p->p<q)(uni:∀p p' q,q∈ae ns p->q∈ae ns p'->p=p'){p a up:Nat}(hk:ak ns p=2)(ha:a∈ae ns p)(h:Live ns up)(hd:kP ns a up):∀b∈ae ns p,b<=a:=by
 induction h with
 | root =>
  cases hd with
  | self=>exact absurd (gt _ _ ha) (by omega)
  | kid p' _ _ h2=>exact absurd (gt _ _ h2) (by omega)
 | kid p' q h1 h2 h3 ih =>
  cases hd with
  | self =>
   have:=uni _ _ _ ha h2;subst this;exact h3 hk
  | kid p'' _ g1 g2 =>
   have:=uni _ _ _ g2 h2;subst this;exact ih g1
theorem F6(ns:List Tn)(up:Nat)(n:Tn)(hu:up<ns.length)(p:Nat):iG (addN ns up n) p=if p=ns.length then n.ky else iG ns p:=by
 unfold iG;rw[ug ns up n hu]
 by_cases h:p=ns.length
 ·simp only[if_pos h]
 ·simp only[if_neg h]
  by_cases h2:p=up
  ·subst h2;simp only[if_true];rw[List.getElem?_eq_getElem hu]
  ·simp only[if_neg h2]
theorem aal(ns:List Tn)(up:Nat)(x:Tn)(hu:up<ns.length):((addN ns up x).map fun y=>y.ky.length)=(ns.map fun y=>y.ky.length)++[x.ky.length]:=by
 apply List.ext_getElem?;intro i;rw[List.getElem?_map,ug ns up x hu]
 by_cases h:i=ns.length
 ·rw[if_pos h,List.getElem?_append_right (by simp[h]),h];simp
 ·rw[if_neg h]
  by_cases h2:i=up
  ·rw[if_pos h2,List.getElem?_append_left (by rw[List.length_map,h2];exact hu),List.getElem?_map,h2,List.getElem?_eq_getElem hu];rfl
  ·rw[if_neg h2]
   by_cases h3:i<ns.length
   ·rw[List.getElem?_append_left (by rw[List.length_map];exact h3),List.getElem?_map]
   ·rw[List.getElem?_eq_none (by omega),List.getElem?_append_right (by rw[List.length_map];omega)];rw[List.length_map,List.getElem?_eq_none (by simp;omega)];rfl
theorem Tv.add{n:Nat}{ns:List Tn}{S up:Nat}{x:Tn}(T:Tv n ns S)(hu:up<ns.length)(h:KP n ns up x):Tv n (addN ns up x) (S+x.ky.length) where
 lt:=fun p q hq=>by
  rw[jM ns up x hu,h.ks]at hq;rw[dh];split at hq
  ·cases hq
  ·split at hq
   ·rw[List.mem_append,List.mem_singleton]at hq
    rcases hq with hq|rfl
    ·have:=T.lt _ _ hq;omega
    ·omega
   ·have:=T.lt _ _ hq;omega
 gt:=fun p q hq=>by
  rw[jM ns up x hu,h.ks]at hq;split at hq
  ·cases hq
  ·split at hq
   ·rename_i e;rw[List.mem_append,List.mem_singleton]at hq
    rcases hq with hq|rfl
    ·rw[e];exact T.gt _ _ hq
    ·omega
   ·exact T.gt _ _ hq
 nod:=fun p=>by
  rw[jM ns up x hu,h.ks];split
  ·exact List.nodup_nil
  ·split
   ·rw[List.nodup_append];refine⟨T.nod up,by simp,fun a ha b hb hab=>?_⟩;rw[List.mem_singleton]at hb;subst hab hb;have:=T.lt _ _ ha;omega
   ·exact T.nod p
 kdd:=fun t ht=>by
  rw[fA ns up x hu]at ht;unfold KD;rw[jM ns up x hu,h.ks];split
  ·exact List.Pairwise.nil
  ·rename_i hne;rw[if_neg hne]at ht;have old:∀p,ak ns p=0->(ae ns p).Pairwise fun a b=>iG (addN ns up x) a≠iG (addN ns up x) b:=fun p hp=>by
    refine List.Pairwise.imp_of_mem ?_ (T.kdd p hp);intro a b ha hb hab;have h1:=T.lt _ _ ha;have h2:=T.lt _ _ hb;rw[F6 ns up x hu,F6 ns up x hu,if_neg (by omega),if_neg (by omega)];exact hab
   split
   ·rename_i e;rw[e]at ht;rw[List.pairwise_append];refine⟨old up ht,List.pairwise_singleton _ _,fun a ha b hb=>?_⟩;rw[List.mem_singleton]at hb;subst hb;have h1:=T.lt _ _ ha;rw[F6 ns up x hu,F6 ns up x hu,if_neg (by omega),if_pos rfl,Yy h1];have hf:=h.free ht;rw[qI,List.find?_eq_none]at hf;have:=hf a ha;unfold iw at this;rw[List.getElem?_eq_getElem h1]at this;simpa using this
   ·exact old t ht
 two:=fun t q ht hq=>by
  rw[fA ns up x hu]at ht;rw[jM ns up x hu,h.ks]at hq;split at hq
  ·cases hq
  ·rename_i hne;rw[if_neg hne]at ht;rw[fA ns up x hu];split at hq
   ·rename_i e;rw[e]at ht;rw[List.mem_append,List.mem_singleton]at hq
    rcases hq with hq|rfl
    ·have:=T.lt _ _ hq;rw[if_neg (by omega)];exact T.two _ _ ht hq
    ·rw[if_pos rfl];exact h.two ht
   ·have:=T.lt _ _ hq;rw[if_neg (by omega)];exact T.two _ _ ht hq
 root:=by
  rw[dh,fA ns up x hu,if_neg (by have:=T.root.1;omega)];exact⟨by omega,T.root.2⟩
 txt:=fun y hy=>by
  rw[List.mem_iff_getElem?]at hy;obtain⟨i,hi⟩:=hy;rw[ug ns up x hu]at hi;split at hi
  ·cases hi
   exact⟨h.ky,h.tx,h.nu⟩
  ·split at hi
   ·cases hi
    exact T.txt ns[up] (List.getElem_mem hu)
   ·exact T.txt y (List.mem_of_getElem? hi)
 sum:=by
  rw[aal ns up x hu,List.sum_append];have:=T.sum;simp;omega
 shp:=fun p q hq y hy=>by
  have old:∀p q y,q∈ae ns p->(addN ns up x)[q]?=some y->FZ (ak ns p) y:=fun p q y hq hy=>by
   have h1:=T.lt _ _ hq;rw[ug ns up x hu,if_neg (by omega)]at hy;split at hy
   ·rename_i e;have h2:=T.shp p q hq ns[up] (by rw[e];exact List.getElem?_eq_getElem hu)
    cases hy
    exact⟨h2.par,h2.txt,h2.num⟩
   ·exact T.shp p q hq y hy
  rw[jM ns up x hu,h.ks]at hq;rw[fA ns up x hu];split at hq
  ·cases hq
  ·rename_i hne;rw[if_neg hne];split at hq
   ·rename_i e;rw[List.mem_append,List.mem_singleton]at hq
    rcases hq with hq|rfl
    ·rw[e];exact old up q y hq hy
    ·rw[ug ns up x hu,if_pos rfl]at hy
     cases hy
     rw[e];exact h.shp
   ·exact old p q y hq hy
 dep:=fun p q hq hk=>by
  rw[jM ns up x hu,h.ks]at hq;rw[fA ns up x hu]at hk;split at hq
  ·cases hq
  ·split at hq
   ·rename_i e;rw[List.mem_append,List.mem_singleton]at hq
    rcases hq with hq|rfl
    ·rw[if_neg (by have:=T.lt _ _ hq;omega)]at hk;obtain⟨d,h1,h2⟩:=T.dep up q hq hk;rw[e];exact⟨d,h1,h2.addN hu⟩
    ·rw[if_pos rfl]at hk;obtain⟨d,h1,h2⟩:=h.dep hk;rw[e];exact⟨d,h1,h2.addN hu⟩
   ·rw[if_neg (by have:=T.lt _ _ hq;omega)]at hk;obtain⟨d,h1,h2⟩:=T.dep p q hq hk;exact⟨d,h1,h2.addN hu⟩
 par:=fun q h0 hq=>by
  rw[dh]at hq
  by_cases e:q=ns.length
  ·refine⟨up,?_⟩;rw[jM ns up x hu,if_neg (by omega),if_pos rfl,e];simp
  ·obtain⟨p,hp⟩:=T.par q h0 (by omega);refine⟨p,?_⟩;rw[jM ns up x hu,if_neg (fun e2=>by rw[e2,yV ns _ (Nat.le_refl _)]at hp;cases hp)];split
   ·rename_i e2;rw[<-e2];simp[hp]
   ·exact hp
 rt:=fun y hy=>by
  have h0:=T.root.1;rw[ug ns up x hu,if_neg (by omega)]at hy;split at hy
  ·rename_i e;have h2:=T.rt ns[up] (by rw[e];exact List.getElem?_eq_getElem hu)
   cases hy
   exact h2
  ·exact T.rt y hy
 uni:=fun p p' q h1 h2=>by
  rcases(qQ hu h.ks).1 h1 with⟨a1,a2⟩|a<;>rcases(qQ hu h.ks).1 h2 with⟨b1,b2⟩|b
  ·rw[a1,b1]
  ·have:=T.lt _ _ b;omega
  ·have:=T.lt _ _ a;omega
  ·exact T.uni _ _ _ a b
 inc:=fun p=>by
  rw[jM ns up x hu,h.ks];split
  ·exact List.Pairwise.nil
  ·split
   ·rw[List.pairwise_append];exact⟨T.inc up,List.pairwise_singleton _ _,fun a ha b hb=>by rw[List.mem_singleton]at hb;rw[hb];exact T.lt _ _ ha⟩
   ·exact T.inc p
 sep:=fun p a b q hk ha hb hab hd=>by
  have hp:p<ns.length:=by
   have:=T.lt p
   rcases(qQ hu h.ks).1 ha with⟨e,-⟩|ha
   ·omega
   ·exact xP ha
  rw[fA ns up x hu,if_neg (by omega)]at hk;have hal:a∈ae ns p:=by
   rcases(qQ hu h.ks).1 ha with⟨e1,e2⟩|ha
   ·exfalso
    rcases(qQ hu h.ks).1 hb with⟨-,e⟩|hb
    ·omega
    ·have:=T.lt _ _ hb;omega
   ·exact ha
  have key:∀q,kP (addN ns up x) a q->(kP ns a q/\q<ns.length)\/(q=ns.length/\kP ns a up):=fun q hd=>by
   induction hd with
   | self=>exact Or.inl ⟨kP.self,T.lt _ _ hal⟩
   | kid p' q' _ g2 ih =>
    rcases(qQ hu h.ks).1 g2 with⟨e1,e2⟩|g3
    ·rcases ih with⟨i1,-⟩|⟨i1,-⟩
     ·exact Or.inr ⟨e2,by rw[<-e1];exact i1⟩
     ·omega
    ·rcases ih with⟨i1,-⟩|⟨i1,-⟩
     ·exact Or.inl ⟨kP.kid _ _ i1 g3,T.lt _ _ g3⟩
     ·rw[i1,yV ns _ (Nat.le_refl _)]at g3;cases g3
  rcases(qQ hu h.ks).1 hb with⟨e1,e2⟩|hbl
  ·rcases key q hd with⟨-,k2⟩|⟨k1,k2⟩
   ·omega
   ·exfalso;have hda:=k2;have hle:up<a:=by rw[<-e1];exact T.gt _ _ hal
    have:∀r,kP ns a r->a<=r:=fun r hr=>by
     induction hr with
     | self=>exact Nat.le_refl _
     | kid p' q' _ g2 ih=>have:=T.gt _ _ g2;omega
    have:=this _ hda;omega
  ·rcases key q hd with⟨k1,-⟩|⟨k1,k2⟩
   ·exact T.sep p a b q hk hal hbl hab k1
   ·have:=aak T.gt T.uni hk hal h.lv k2 b hbl;omega
theorem GrT.tv{n:Nat}{a b:List Tn}{m S:Nat}(h:GrT n a b m)(T:Tv n a S):Tv n b (S+m):=by
 induction h with
 | refl=>exact T
 | add ns' m up x h1 h2 h3 ih=>rw[<-Nat.add_assoc];exact ih.add h2 h3
theorem RF(n:Nat):Tv n [⟨0,[],[],0,[],0⟩] 0 where
 lt:=fun p q hq=>by
  cases p with
  | zero=>cases hq
  | succ p=>cases hq
 gt:=fun p q hq=>by
  cases p with
  | zero=>cases hq
  | succ p=>cases hq
 nod:=fun p=>by
  cases p with
  | zero=>exact List.nodup_nil
  | succ p=>exact List.nodup_nil
 kdd:=fun p _=>by
  cases p with
  | zero=>exact List.Pairwise.nil
  | succ p=>exact List.Pairwise.nil
 two:=fun p q _ hq=>by
  cases p with
  | zero=>cases hq
  | succ p=>cases hq
 root:=⟨by simp,rfl⟩
 txt:=fun x hx=>by
  rw[List.mem_singleton]at hx;subst hx;simp
 sum:=by simp
 shp:=fun p q hq=>by
  cases p with
  | zero=>cases hq
  | succ p=>cases hq
 dep:=fun p q hq=>by
  cases p with
  | zero=>cases hq
  | succ p=>cases hq
 par:=fun q h0 hq=>by
  simp at hq;omega
 rt:=fun x hx=>by
  cases hx
  exact⟨rfl,rfl,rfl⟩
 uni:=fun p p' q hq=>by
  cases p with
  | zero=>cases hq
  | succ p=>cases hq
 inc:=fun p=>by
  cases p with
  | zero=>exact List.Pairwise.nil
  | succ p=>exact List.Pairwise.nil
 sep:=fun p a b q _ ha=>by
  cases p with
  | zero=>cases ha
  | succ p=>cases ha
end Go.Proofs.YtnnbgjaphfhibaaGreatDoor
