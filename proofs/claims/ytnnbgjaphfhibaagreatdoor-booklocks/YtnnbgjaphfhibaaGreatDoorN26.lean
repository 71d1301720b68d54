import Derived.Test.YtnnbgjaphfhibaaGreatDoorN21
import Derived.Test.YtnnbgjaphfhibaaGreatDoorN16
import Derived.Test.YtnnbgjaphfhibaaGreatDoorN22
import Derived.Test.YtnnbgjaphfhibaaGreatDoorN11
set_option linter.unusedVariables false
set_option linter.unusedSimpArgs false
set_option maxRecDepth 100000
set_option maxHeartbeats 6400000
open Go.Proofs.Tryz
namespace Go.Proofs.YtnnbgjaphfhibaaGreatDoor
open Go.RowKit Go.Joins
theorem aa1(R:Nat)(s:ByteArray)(L O:Value)(now de i:Nat)(w:World)(h:Dd w R s L O now de i 0 0)(hi:i<s.size)(hs:s.size<=1048576) :
  Calls prog 160 #[.pointer (some ⟨R,0,none⟩)] w (mP 3 R s L O now de (esc s.data.toList i) w):=by
 by_cases hn:i+1<s.size
 ·by_cases m98:nx s.data.toList (i+1)=98
  ·exact aaE R s L O now de i w h hi hs hn m98
  by_cases m116:nx s.data.toList (i+1)=116
  ·exact aaF R s L O now de i w h hi hs hn m116
  by_cases m110:nx s.data.toList (i+1)=110
  ·exact aaG R s L O now de i w h hi hs hn m110
  by_cases m102:nx s.data.toList (i+1)=102
  ·exact aaH R s L O now de i w h hi hs hn m102
  by_cases m114:nx s.data.toList (i+1)=114
  ·exact aaI R s L O now de i w h hi hs hn m114
  by_cases m34:nx s.data.toList (i+1)=34
  ·exact aaC R s L O now de i w h hi hs hn m34
  by_cases m92:nx s.data.toList (i+1)=92
  ·exact aaD R s L O now de i w h hi hs hn m92
  by_cases m117:nx s.data.toList (i+1)=117
  ·exact aaJ R s L O now de i w h hi hs hn m117
  exact Z4 R s L O now de i w h hi hs hn m98 m116 m110 m102 m114 m34 m92 m117
 ·exact ZZ R s L O now de i w h hi hs (by omega)
open Go.RowKit Go.Joins
theorem TC(R:Nat)(s:ByteArray)(L O:Value)(now de i:Nat)(w:World)(h:Dd w R s L O now de i 0 0)(hi:i<s.size)(hq:nx s.data.toList i=34)(hs:s.size<=1048576) :
  Calls prog 119 #[.pointer (some ⟨R,0,none⟩)] w (mP (4*s.size+4) R s L O now de (str s.data.toList (s.data.toList.length+1) (i+1) []) w):=by
 have hl:s.data.toList.length=s.size:=by simp
 have CM:Hd (∀q w,Ds w R s L O now de q->Calls prog 56 #[.pointer (some ⟨R,0,none⟩),.int .u8 34] w fun e w'=>e=.returned (.tuple #[])/\Ds w' R s L O now de (q.bind fun i=>must s.data.toList i 34)/\w.grownBy w' (some R)):=fun q w h=>I7 R s L O now de q 34 (by decide) w h hs
 have CI:Hd (∀q w,Ds w R s L O now de q->Calls prog 52 #[.pointer (some ⟨R,0,none⟩),.int .u8 34] w fun e w'=>e=.returned (.bool (ed s.data.toList q 34))/\w.grownBy w' none):=fun q w h=>rG R s L O now de q 34 (by decide) w h hs
 have CE:Hd (∀k w,Dd w R s L O now de k 0 0->k<s.size->Calls prog 160 #[.pointer (some ⟨R,0,none⟩)] w (mP 3 R s L O now de (esc s.data.toList k) w)):=fun k w h hk=>aa1 R s L O now de k w h hk hs
 have CSq:Hd (∀k w,k<s.size->Calls prog 161 #[.string s,.int .i64 (k:Nat)] w fun e w'=>e=.returned (.int .i64 (aJ s.data.toList k:Nat))/\w'=w):=fun k w hk=>ZL s k hk w hs
 have HST:Hd (∀f i acc,str s.data.toList (f+1) i acc =
  if nx s.data.toList i=34 then .ok (acc,i+1)
  else if nx s.data.toList i=92 then(match esc s.data.toList i with | .error e=>.error e | .ok (b,j)=>str s.data.toList f j (acc++b))
  else if nx s.data.toList i=-1\/gG (nx s.data.toList i)=true then .error (2,i)
  else if aJ s.data.toList i=0 then .error (2,i)
  else str s.data.toList f (i+aJ s.data.toList i) (acc++ag s.data.toList i (aJ s.data.toList i))):=Az _
 have cZ:Hd (∀k,0<=nx s.data.toList k->k<s.size):=fun k hb=>by rw[<-hl];exact bu hb
 have Jz:Hd (∀k b j,k<s.size->esc s.data.toList k=.ok (b,j)->b.length<=3/\k+2<=j/\j<=s.size):=fun k b j hk he=>by
  rw[I4]at he
  cases hN:lJ s.data.toList k with
  | error e=>rw[hN]at he;cases he
  | ok q =>
   obtain⟨n,j'⟩:=q;rw[hN]at he;have:=Ji _ k n j' (by omega) hN;have e1:(Except.ok (fO n,j'):Rs (List UInt8 × Nat))=.ok (b,j):=he;injection e1 with e1
   injection e1 with e1 e2
   have:=EW n;subst e1 e2;omega
 have JA:Hd (∀k,k<=s.size->k+aJ s.data.toList k<=s.size):=fun k hk=>by rw[<-hl];exact Jj _ k (by omega)
 have iW:Hd (∀k,(ag s.data.toList k (aJ s.data.toList k)).length<=3*aJ s.data.toList k):=fun k=>by
  have:(ag s.data.toList k (aJ s.data.toList k)).length<=aJ s.data.toList k:=by unfold ag;rw[List.length_take];omega
  show _<=_;omega
 have HX:Hd (∀k (hk:k<s.size),nx s.data.toList k=(s[k].toNat:Int)):=byte_at s;have tJ:Hd (∀k,nx s.data.toList k=-1->s.size<=k):=fun k hk=>by rw[<-hl];exact zW hk
 obtain⟨G,hG⟩:=zN (str s.data.toList (s.data.toList.length+1) (i+1) []);have iV:Hd (str s.data.toList (s.data.toList.length+1) (i+1) []=G):=hG;have ww:Hd ((Except.bind (.ok i) fun i=>must s.data.toList i 34:Rs Nat)=.ok (i+1)):=by
  show must s.data.toList i 34=_;unfold must;rw[if_pos hq]
 rw[hG];have H0:Hd (Ds w R s L O now de (.ok i)):=⟨by omega,h⟩;clear h hG hq;go_enter func119,ntmps119;go_wp2_with (go_at_call 56;refine(CM.o _ _ H0.o).mono ?_;rintro e w1 ⟨rfl,hd1,hg1⟩);rw[ww.o]at hd1;have HD1:Hd (Ds w1 R s L O now de (.ok (i+1))):=hd1;have ay:Hd (w.grownBy w1 (some R)):=hg1;clear hd1 hg1 H0 ww;go_loopw [3] (fun vo wr=>∃(q:Rs Nat) (f:Nat) (acc:List UInt8),vo=.string ⟨acc.toArray⟩/\Ds wr R s L O now de q/\(∀k,q=.ok k->s.size-k<f/\str s.data.toList f k acc=G/\acc.length<=3*k)/\(∀c p,q=.error (c,p)->G=.error (c,p)/\acc.length<=3*s.size+3)/\w.grownBy wr (some R)) (fun _ wr=>dM wr R s)
 case atStart=>exact⟨.ok (i+1),s.data.toList.length+1,[],rfl,HD1.o,fun k hk=>(by cases hk;exact⟨by omega,iV.o,by simp⟩),fun c p hk=>(by cases hk),ay.o⟩
 case round =>
  obtain⟨q,f,acc,rfl,hds,hok,her,hg⟩:=hrel;have HG:Hd (w.grownBy _ (some R)):=hg;clear hg
  match q,hds,hok,her with
  | .error (c,p),hds,_,her =>
   obtain⟨TD,hacc⟩:=her c p rfl;have gu:Hd (G=.error (c,p)):=TD;obtain⟨hc,j,hj,hd⟩:=hds;obtain⟨-,-,-,-,-,c5,-⟩:=hd.cells;have hn:(c == 0)=false:=by simpa using hc
   have eU:Hd (Ds _ R s L O now de (.error (c,p))):=⟨hc,j,hj,hd⟩;have HAC:Hd (acc.length<=3*s.size+3):=hacc;clear hd her TD hc hj hacc;go_wp2_with (go_at_call 56;refine(CM.o _ _ eU.o).mono ?_;rintro e w2 ⟨rfl,hd2,hg2⟩);refine bodyPost_ret (results_tmp (t:=2) rfl _ _ _) rfl ?_;rw[gu.o];exact⟨fun t k hh=>(by cases hh),fun c p hh=>(by cases hh;exact⟨⟨acc,by have:=HAC.o;omega,rfl⟩,hd2⟩),dH HG.o hg2⟩
  | .ok k,hds,hok,_ =>
   obtain⟨hf,hstr,hacc⟩:=hok k rfl;obtain⟨hk,hd⟩:=hds;obtain⟨f,rfl⟩:∃f',f=f'+1:=⟨f-1,by omega⟩;rw[HST.o]at hstr;obtain⟨c0,c1,-,-,-,c5,-,-,df⟩:=hd.cells;have df1:=df 1;have HD:Hd (Dd _ R s L O now de k 0 0):=hd;have eU:Hd (Ds _ R s L O now de (.ok k)):=⟨hk,hd⟩;have HM:Hd (dM _ R s=s.size-k+1):=tX hd;have jk:Hd (∀w,Ds w R s L O now de (.ok k)->Calls prog 52 #[.pointer (some ⟨R,0,none⟩),.int .u8 34] w fun e w'=>e=.returned (.bool (decide (nx s.data.toList k=34)))/\w.grownBy w' none):=fun w h=>CI.o (.ok k) w h
   have CF:Hd (∀wx,Dd wx R s L O now de k 0 0->Calls prog 82 #[.pointer (some ⟨R,0,none⟩),.int .i64 2,.int .i64 (k:Nat)] wx fun en w'=>en=.returned (.tuple #[])/\Dd w' R s L O now de k 2 k/\wx.grownBy w' (some R)):=fun wx hg=>oV R s L O now de k 2 k wx hg
   have qG:Hd (0<=nx s.data.toList k->k<s.size):=cZ.o k;have vK:Hd (nx s.data.toList k=-1->s.size<=k):=tJ.o k;have HXB:Hd (-1<=nx s.data.toList k):=(Eo s.data.toList k).1;have Au:Hd (∀(hk:k<s.size),nx s.data.toList k=(s[k].toNat:Int)):=HX.o k;have oI:Hd (nx s.data.toList k=34->(Except.bind (.ok k) fun i=>must s.data.toList i 34:Rs Nat)=.ok (k+1)):=fun h=>by
    show must s.data.toList k 34=_;unfold must;rw[if_pos h]
   obtain⟨x,hx⟩:=zN (nx s.data.toList k);rw[hx]at jk qG vK HXB Au oI hstr;have qH:Hd ((if x=34 then .ok (acc,k+1)
    else if x=92 then(match esc s.data.toList k with | .error e=>.error e | .ok (b,j)=>str s.data.toList f j (acc++b))
    else if x=-1\/gG x=true then .error (2,k)
    else if aJ s.data.toList k=0 then .error (2,k)
    else str s.data.toList f (k+aJ s.data.toList k) (acc++ag s.data.toList k (aJ s.data.toList k)))=G):=hstr
   clear hd hx hstr hok df
   by_cases h34:x=34
   ·rw[decide_eq_true h34]at jk;have aB:Hd (G=.ok (acc,k+1)):=by
     have:=qH.o;rw[if_pos h34]at this;exact this.symm
    have TE:=oI.o h34;have lT:Hd ((Except.bind (.ok k) fun i=>must s.data.toList i 34:Rs Nat)=.ok (k+1)):=TE;clear h34 TE;go_wp2_with (first|(go_at_call 52;refine(jk.o _ eU.o).mono ?_;rintro e w2 ⟨rfl,hg2⟩)|(go_at_call 56;refine(CM.o _ _ (eU.o.grow hg2)).mono ?_;rintro e w3 ⟨rfl,hd3,hg3⟩));refine bodyPost_ret (results_tmp (t:=2) rfl _ _ _) rfl ?_;rw[aB.o];rw[lT.o]at hd3;exact⟨fun t k hh=>(by cases hh;exact⟨rfl,hd3⟩),fun c p hh=>(by cases hh),dH (aF HG.o hg2) hg3⟩
   ·rw[decide_eq_false h34]at jk;go_wp2_with (go_at_call 52;refine(jk.o _ eU.o).mono ?_;rintro e w2 ⟨rfl,hg2⟩);have HD2:Hd (Dd w2 R s L O now de k 0 0):=HD.o.grow hg2;have HG2:Hd (w.grownBy w2 (some R)):=aF HG.o hg2;obtain⟨e0,e1,-,-,-,e5,-,-,ef⟩:=HD2.o.cells;have ef1:=ef 1;clear hg2 ef c0 c1 c5 df1
    by_cases hm1:x=-1
    ·have hge:=vK.o hm1;have hgd:decide ((s.size:Int)<=(k:Int))=true:=by simp;omega
     have aB:Hd (G=.error (2,k)):=by
      have:=qH.o;rw[if_neg h34,if_neg (by omega),if_pos (Or.inl hm1)]at this;exact this.symm
     clear h34 hm1;go_quiet (fail);go_wp2_with (go_at_call 82;refine(CF.o _ ?_).mono ?_;exact HD2.o;rintro e w3 ⟨rfl,hd3,hg3⟩);refine bodyPost_ret (results_tmp (t:=2) rfl _ _ _) rfl ?_;rw[aB.o];exact⟨fun t k hh=>(by cases hh),fun c p hh=>(by cases hh;exact⟨⟨[],by simp,rfl⟩,by decide,k,hk,hd3⟩),dH (w1:=w2) HG2.o ⟨hg3.os,hg3.tape,hg3.output,hg3.size,hg3.block⟩⟩
    ·have hkl:k<s.size:=qG.o (by have:=HXB.o;omega);have hgd:decide ((s.size:Int)<=(k:Int))=false:=by simp;omega
     have ni:¬(s.size:Int)<=(k:Int):=by omega
     have fM:Hd (x=(s[k].toNat:Int)):=Au.o hkl;have CC:Hd (∀w,Calls prog 84 #[.int .u8 (s[k].toNat:Int)] w fun e w'=>e=.returned (.bool (gG x))/\w'=w):=fun w=>by rw[fM.o];exact PU s[k] w
     obtain⟨bb,hbb⟩:∃b,gG x=b:=⟨_,rfl⟩;have BK:Hd (gG x=bb):=hbb;rw[hbb]at CC;clear hbb
     cases bb with
     | true =>
      have aB:Hd (G=.error (2,k)):=by
       have:=qH.o;rw[if_neg h34,if_neg (fun e=>by have:=BK.o;rw[e]at this;cases this),if_pos (Or.inr BK.o)]at this;exact this.symm
      clear h34 hm1;go_quiet (first|(go_at_call 84;exact Calls.quiet_of_same (CC.o _)));go_wp2_with (go_at_call 82;refine(CF.o _ ?_).mono ?_;exact HD2.o;rintro e w3 ⟨rfl,hd3,hg3⟩);refine bodyPost_ret (results_tmp (t:=2) rfl _ _ _) rfl ?_;rw[aB.o];exact⟨fun t k hh=>(by cases hh),fun c p hh=>(by cases hh;exact⟨⟨[],by simp,rfl⟩,by decide,k,hk,hd3⟩),dH (w1:=w2) HG2.o ⟨hg3.os,hg3.tape,hg3.output,hg3.size,hg3.block⟩⟩
     | false =>
      go_quiet (first|(go_at_call 84;exact Calls.quiet_of_same (CC.o _)));have HD3:Hd (Dd (w2.drewN nq) R s L O now de k 0 0):=HD2.o;have aO:Hd (w.grownBy (w2.drewN nq) (some R)):=au HG2.o nq;obtain⟨w3,hw3⟩:∃W,w2.drewN nq=W:=⟨_,rfl⟩;rw[hw3]at HD3 aO ⊢;obtain⟨f0,f1,-,-,-,f5,-,-,ff⟩:=HD3.o.cells;have ff1:=ff 1;clear hw3 ff e0 e1 e5 ef1
      by_cases h92:x=92
      ·have aa2:((s[k].toNat:Int) == 92)=true:=by rw[<-fM.o,h92];rfl
       have az:Hd ((match esc s.data.toList k with | .error e=>.error e | .ok (b,j)=>str s.data.toList f j (acc++b))=G):=by
        have:=qH.o;rw[if_neg h34,if_pos h92]at this;exact this
       have rP:Hd (∀w,Dd w R s L O now de k 0 0->Calls prog 160 #[.pointer (some ⟨R,0,none⟩)] w (mP 3 R s L O now de (esc s.data.toList k) w)):=fun w h=>CE.o k w h hkl
       have jK:Hd (∀b j,esc s.data.toList k=.ok (b,j)->b.length<=3/\k+2<=j/\j<=s.size):=fun b j h=>Jz.o k b j hkl h
       obtain⟨q,hq⟩:=zN (esc s.data.toList k);rw[hq]at az rP jK;clear h34 h92 hm1 hq;go_wp2;go_quiet (fail);go_wp2_with (go_at_call 160;refine(rP.o _ ?_).mono ?_;exact HD3.o);rintro e w4 ⟨h1,h2,hg4⟩;have dQ:Hd (w.grownBy w4 (some R)):=dH (w1:=w3) aO.o ⟨hg4.os,hg4.tape,hg4.output,hg4.size,hg4.block⟩;clear hg4
       match q,h1,h2,az,jK with
       | .error (c,p),_,h2,az,_ =>
        obtain⟨⟨t,ht,rfl⟩,hd4⟩:=h2 c p rfl;have HD4:Hd (Ds w4 R s L O now de (.error (c,p))):=hd4;have aB:Hd (G=.error (c,p)):=az.o.symm;have ka:∀wx,(Op.stringOp .add ⟨acc.toArray⟩ ⟨t.toArray⟩).run prog wx=.ok (.string ⟨(acc++t).toArray⟩) wx:=fun wx=>JM acc t wx (by omega)
        have HT:Hd ((acc++t).length<=3*s.size+3):=by
         show _<=_;rw[List.length_append];omega
        clear h2 hd4;go_wp2;refine⟨⟨.error (c,p),f,acc++t,rfl,HD4.o,fun k hk=>(by cases hk),fun c p hk=>(by cases hk;exact⟨aB.o,HT.o⟩),dQ.o⟩,?_⟩;obtain⟨hc,j,hj,hd⟩:=HD4.o;rw[HM.o,EO hd hc];omega
       | .ok (b,j),h1,_,az,jK =>
        obtain⟨rfl,hd4⟩:=h1 b j rfl;obtain⟨hb3,hj1,hj2⟩:=jK.o b j rfl;have HD4:Hd (Ds w4 R s L O now de (.ok j)):=hd4;have aB:Hd (str s.data.toList f j (acc++b)=G):=az.o;have ka:∀wx,(Op.stringOp .add ⟨acc.toArray⟩ ⟨b.toArray⟩).run prog wx=.ok (.string ⟨(acc++b).toArray⟩) wx:=fun wx=>JM acc b wx (by omega)
        have HT:Hd ((acc++b).length<=3*j):=by
         show _<=_;rw[List.length_append];omega
        clear h1 hd4;go_wp2;refine⟨⟨.ok j,f,acc++b,rfl,HD4.o,fun k hk=>(by cases hk;exact⟨by omega,aB.o,HT.o⟩),fun c p hk=>(by cases hk),dQ.o⟩,?_⟩;rw[HM.o,tX HD4.o.2];omega
      ·have aa2:((s[k].toNat:Int) == 92)=false:=by rw[<-fM.o];simpa using h92
       have oz:Hd ((if aJ s.data.toList k=0 then .error (2,k) else str s.data.toList f (k+aJ s.data.toList k) (acc++ag s.data.toList k (aJ s.data.toList k)))=G):=by
        have:=qH.o;rw[if_neg h34,if_neg h92,if_neg (by rintro(h|h);exact hm1 h;rw[BK.o]at h;cases h)]at this;exact this
       have TF:Hd (∀w,Calls prog 161 #[.string s,.int .i64 (k:Nat)] w fun e w'=>e=.returned (.int .i64 (aJ s.data.toList k:Nat))/\w'=w):=fun w=>CSq.o k w hkl
       have hso:=JA.o k hk;have Gt:Hd ((ag s.data.toList k (aJ s.data.toList k)).length<=3*aJ s.data.toList k):=iW.o k;obtain⟨n,hn⟩:=zN (aJ s.data.toList k);rw[hn]at oz TF hso Gt;clear h34 h92 hm1 hn;go_wp2;go_quiet (fail);have HD4:Hd (Dd (w3.drewN nq) R s L O now de k 0 0):=HD3.o;have dQ:Hd (w.grownBy (w3.drewN nq) (some R)):=au aO.o nq;obtain⟨w4,hw4⟩:∃W,w3.drewN nq=W:=⟨_,rfl⟩;rw[hw4]at HD4 dQ ⊢;obtain⟨g0,g1,-,-,-,g5,-,-,gg⟩:=HD4.o.cells;have gg1:=gg 1;clear hw4 gg f0 f1 f5 ff1;go_wp2;go_quiet (first|(go_at_call 161;exact Calls.quiet_of_same (TF.o _)));have HD5:Hd (Dd (w4.drewN nq) R s L O now de k 0 0):=HD4.o;have gQ:Hd (w.grownBy (w4.drewN nq) (some R)):=au dQ.o nq;obtain⟨w5,hw5⟩:∃W,w4.drewN nq=W:=⟨_,rfl⟩;rw[hw5]at HD5 gQ ⊢;obtain⟨k0,k1,-,-,-,k5,-,-,kf⟩:=HD5.o.cells;have kf1:=kf 1;clear hw5 kf g0 g1 g5 gg1
       by_cases hn0:n=0
       ·have hz:((n:Int) == 0)=true:=by simp[hn0]
        have aB:Hd (G=.error (2,k)):=by
         have:=oz.o;rw[if_pos hn0]at this;exact this.symm
        clear hn0;go_wp2_with (go_at_call 82;refine(CF.o _ HD5.o).mono ?_;rintro e w6 ⟨rfl,hd6,eu⟩);refine bodyPost_ret (results_tmp (t:=2) rfl _ _ _) rfl ?_;rw[aB.o];exact⟨fun t k hh=>(by cases hh),fun c p hh=>(by cases hh;exact⟨⟨[],by simp,rfl⟩,by decide,k,hk,hd6⟩),dH gQ.o eu⟩
       ·have hz:((n:Int) == 0)=false:=by rw[beq_eq_false_iff_ne];omega
        have aB:Hd (str s.data.toList f (k+n) (acc++ag s.data.toList k n)=G):=by
         have:=oz.o;rw[if_neg hn0]at this;exact this
        obtain⟨X,hX⟩:∃X:List UInt8,ag s.data.toList k n=X:=⟨_,rfl⟩;have hwr:IntKind.i64.wrap ((k:Int)+(n:Int))=(k:Int)+(n:Int):=by rw[IntKind.wrap_i64];omega
        have sl:∀wx,(Instr.slice 9 (.string s) (some (.int .i64 (k:Int))) (some (.int .i64 ((k:Int)+(n:Int)))) none).run prog wx=.ok (.string ⟨X.toArray⟩) wx:=fun wx=>by
         rw[<-hX];have:=kS s k (k+n) (by omega) hso wx;rw[show k+n-k=n by omega,show((k+n:Nat):Int)=(k:Int)+(n:Int) by omega]at this;exact this
        rw[hX]at aB Gt;have ka:∀wx,(Op.stringOp .add ⟨acc.toArray⟩ ⟨X.toArray⟩).run prog wx=.ok (.string ⟨(acc++X).toArray⟩) wx:=fun wx=>JM acc X wx (by have:=Gt.o;omega)
        have HT:Hd ((acc++X).length<=3*(k+n)):=by
         show _<=_;rw[List.length_append];have:=Gt.o;omega
        clear hX;go_wp2;go_quiet (fail);have HD6:Hd (Dd (w5.drewN nq) R s L O now de k 0 0):=HD5.o;have lK:Hd (w.grownBy (w5.drewN nq) (some R)):=au gQ.o nq;obtain⟨w6,hw6⟩:∃W,w5.drewN nq=W:=⟨_,rfl⟩;rw[hw6]at HD6 lK ⊢;obtain⟨m0,m1,-,-,-,m5,-,-,mf⟩:=HD6.o.cells;have mf1:=mf 1;clear hw6 mf k0 k1 k5 kf1;have HD7:Hd (Dd (w6.setCell ⟨R,1,none⟩ (.int .i64 ((k:Int)+(n:Int)))) R s L O now de (k+n) 0 0):=HD6.o.setI (k+n);go_wp2;refine⟨⟨.ok (k+n),f,acc++X,rfl,⟨hso,HD7.o⟩,fun k hk=>(by cases hk;exact⟨by omega,aB.o,HT.o⟩),fun c p hk=>(by cases hk),aV lK.o 1 _⟩,?_⟩;rw[HM.o,tX HD7.o];omega
open Go.RowKit Go.Joins
def Gu(i M R:Nat)(s:ByteArray)(L O:Value)(now de:Nat)(g:Rs (List UInt8 × Nat))(w:World)(e:Ending)(w':World):Prop:=(∀t j,g=.ok (t,j)->e=.returned (.tuple #[.string ⟨t.toArray⟩,.int .i64 (i:Nat)])/\Ds w' R s L O now de (.ok j))/\(∀c p,g=.error (c,p)->(∃t:List UInt8,t.length<=M/\e=.returned (.tuple #[.string ⟨t.toArray⟩,.int .i64 (i:Nat)]))/\Ds w' R s L O now de (.error (c,p)))/\w.grownBy w' (some R)
theorem aa3(l:List UInt8)(i:Nat)(h:nx l i=34):bW l i=str l (l.length+1) (i+1) []:=by unfold bW;rw[if_pos h]
theorem aa4(l:List UInt8)(i:Nat)(h:¬nx l i=34):bW l i=if toR aN l i=i then .error (2,i) else .ok (ag l i (toR aN l i-i),toR aN l i):=by unfold bW;rw[if_neg h]
theorem TG(R:Nat)(s:ByteArray)(L O:Value)(now de i:Nat)(w:World)(h:Dd w R s L O now de i 0 0)(hi:i<=s.size)(hs:s.size<=1048576) :
  Calls prog 79 #[.pointer (some ⟨R,0,none⟩)] w (Gu i (4*s.size+4) R s L O now de (bW s.data.toList i) w):=by
 have hl:s.data.toList.length=s.size:=by simp
 have CI:Hd (Calls prog 52 #[.pointer (some ⟨R,0,none⟩),.int .u8 34] w fun e w'=>e=.returned (.bool (decide (nx s.data.toList i=34)))/\w.grownBy w' none):=rG R s L O now de (.ok i) 34 (by decide) w ⟨hi,h⟩ hs;have HD:Hd (Dd w R s L O now de i 0 0):=h
 by_cases h34:nx s.data.toList i=34
 ·have HK:Hd (bW s.data.toList i=str s.data.toList (s.data.toList.length+1) (i+1) []):=aa3 _ _ h34;have hlt:i<s.size:=by rw[<-hl];exact bu (by omega)
  rw[decide_eq_true h34]at CI;have CQ:Hd (∀w,Dd w R s L O now de i 0 0->Calls prog 119 #[.pointer (some ⟨R,0,none⟩)] w (mP (4*s.size+4) R s L O now de (str s.data.toList (s.data.toList.length+1) (i+1) []) w)):=fun w h=>TC R s L O now de i w h hlt h34 hs
  rw[HK.o];obtain⟨G,hG⟩:=zN (str s.data.toList (s.data.toList.length+1) (i+1) []);rw[hG]at CQ ⊢;obtain⟨c0,c1,-⟩:=h.cells;clear h h34 hG HK;go_enter func79,ntmps79;go_wp2_with (first|(go_at_call 52;refine CI.o.mono ?_;rintro e w1 ⟨rfl,hg1⟩)|(go_at_call 119;refine(CQ.o _ (HD.o.grow hg1)).mono ?_));rintro e w2 ⟨h1,h2,hg2⟩;have HG2:Hd (w.grownBy w2 (some R)):=dH (aF (ak w (some R)) hg1) hg2;clear hg1 hg2
  match G,h1,h2 with
  | .error (c,p),_,h2 =>
   obtain⟨⟨t,ht,rfl⟩,hd⟩:=h2 c p rfl;have eY:Hd (Ds w2 R s L O now de (.error (c,p))):=hd;have HT:Hd (t.length<=4*s.size+4):=ht;clear h2 hd ht;go_wp2;refine bodyPost_ret (results_tmp2 (t:=2) (u:=3) rfl _ _ _) rfl ?_;exact⟨fun t k hh=>(by cases hh),fun c' p' hh=>(by injection hh with hh;injection hh with e1 e2;subst e1 e2;exact⟨⟨t,HT.o,rfl⟩,eY.o⟩),HG2.o⟩
  | .ok (t,j),h1,_ =>
   obtain⟨rfl,hd⟩:=h1 t j rfl;have eY:Hd (Ds w2 R s L O now de (.ok j)):=hd;clear h1 hd;go_wp2;refine bodyPost_ret (results_tmp2 (t:=2) (u:=3) rfl _ _ _) rfl ?_;exact⟨fun t' k' hh=>(by injection hh with hh;injection hh with e1 e2;subst e1 e2;exact⟨rfl,eY.o⟩),fun c' p' hh=>(by cases hh),HG2.o⟩
 ·have HK:Hd (bW s.data.toList i=if toR aN s.data.toList i=i then .error (2,i) else .ok (ag s.data.toList i (toR aN s.data.toList i-i),toR aN s.data.toList i)):=aa4 _ _ h34;rw[decide_eq_false h34]at CI;rw[HK.o];have HX:Hd (∀k (hk:k<s.size),nx s.data.toList k=(s[k].toNat:Int)):=byte_at s;have HST:Hd (∀k (hk:k<s.size),aN (s[k].toNat:Int)=true->toR aN s.data.toList k=toR aN s.data.toList (k+1)):=fun k hk hb=>ql aN _ k (by omega) (by rw[byte_at s k hk];exact hb)
  have jH:Hd (∀k (hk:k<s.size),aN (s[k].toNat:Int)=false->toR aN s.data.toList k=k):=fun k hk hb=>lG aN _ k (by rw[byte_at s k hk];exact hb)
  have qo:Hd (∀k,s.size<=k->toR aN s.data.toList k=k):=fun k hk=>zV aN _ k (by omega)
  obtain⟨J,hJ⟩:=zN (toR aN s.data.toList i);have HJ:Hd (toR aN s.data.toList i=J):=hJ;have hJ1:=oQ aN s.data.toList i (by omega);rw[hJ,hl]at hJ1;rw[hJ];obtain⟨G,hG⟩:∃G:Rs (List UInt8 × Nat),(if J=i then .error (2,i) else .ok (ag s.data.toList i (J-i),J))=G:=⟨_,rfl⟩;have uo:Hd ((if J=i then .error (2,i) else .ok (ag s.data.toList i (J-i),J):Rs (List UInt8 × Nat))=G):=hG;rw[hG];obtain⟨c0,c1,-⟩:=h.cells;clear h h34 hG HK hJ;go_enter func79,ntmps79;go_wp2_with (go_at_call 52;refine CI.o.mono ?_;rintro e w1 ⟨rfl,hg1⟩);have HD1:Hd (Dd w1 R s L O now de i 0 0):=HD.o.grow hg1;have ay:Hd (w.grownBy w1 (some R)):=aF (ak w (some R)) hg1;clear hg1 c0 c1;go_loopw [] (fun wr=>∃k:Nat,Dd wr R s L O now de k 0 0/\i<=k/\k<=s.size/\toR aN s.data.toList k=J/\w.grownBy wr (some R)) (fun wr=>s.size-dI wr R)
  case atStart=>exact⟨i,HD1.o,by omega,hi,HJ.o,ay.o⟩
  case round =>
   obtain⟨k,hd,hik,hk,hto,hg⟩:=hrel;have HDK:Hd (Dd wr R s L O now de k 0 0):=hd;have jI:Hd (w.grownBy wr (some R)):=hg;have gI:Hd (dI wr R=k):=uX hd;have l9:Hd (toR aN s.data.toList k=J):=hto;obtain⟨c0,c1,-,-,-,c5,-,-,df⟩:=hd.cells;have df1:=df 1;clear hd hg hto df
   by_cases hlt:k<s.size
   ·have hlt':decide ((k:Int)<(s.size:Int))=true:=by simp;omega
    have CB:Hd (∀w,Calls prog 120 #[.int .u8 (s[k].toNat:Int)] w fun e w'=>e=.returned (.bool (aN (s[k].toNat:Int)))/\w'=w):=Zx s[k];have H1:Hd (aN (s[k].toNat:Int)=true->toR aN s.data.toList k=toR aN s.data.toList (k+1)):=HST.o k hlt;have H2:Hd (aN (s[k].toNat:Int)=false->toR aN s.data.toList k=k):=jH.o k hlt;obtain⟨b,hb⟩:=zN (aN (s[k].toNat:Int));rw[hb]at CB H1 H2;clear hb
    cases b with
    | true =>
     have HN:Hd (toR aN s.data.toList (k+1)=J):=(H1.o rfl).symm.trans l9.o;go_wp2;go_quiet (first|(go_at_call 120;exact Calls.quiet_of_same (CB.o _)));have aC:Hd (Dd (wr.drewN nq) R s L O now de k 0 0):=HDK.o;have dO:Hd (w.grownBy (wr.drewN nq) (some R)):=au jI.o nq;obtain⟨wA,hwA⟩:∃W,wr.drewN nq=W:=⟨_,rfl⟩;rw[hwA]at aC dO ⊢;obtain⟨d0,d1,-,-,-,d5,-,-,dg⟩:=aC.o.cells;have dg1:=dg 1;have HS:=aC.o.setI (k+1);have jL:Hd (Dd (wA.setCell ⟨R,1,none⟩ (.int .i64 ((k:Int)+1))) R s L O now de (k+1) 0 0):=HS;clear hwA dg HS;go_wp2;refine⟨⟨k+1,jL.o,by omega,by omega,HN.o,aV dO.o 1 _⟩,?_⟩;rw[gI.o,uX jL.o];omega
    | false =>
     have BL:Hd (J=k):=l9.o.symm.trans (H2.o rfl);go_wp2;go_quiet (first|(go_at_call 120;exact Calls.quiet_of_same (CB.o _)));have aC:Hd (Dd (wr.drewN nq) R s L O now de k 0 0):=HDK.o;have dO:Hd (w.grownBy (wr.drewN nq) (some R)):=au jI.o nq;obtain⟨wA,hwA⟩:∃W,wr.drewN nq=W:=⟨_,rfl⟩;rw[hwA]at aC dO ⊢;obtain⟨d0,d1,-,-,-,d5,-,-,dg⟩:=aC.o.cells;clear hwA dg
     by_cases hki:k=i
     ·have hb:((k:Int) == (i:Int))=true:=by simp[hki]
      have aB:Hd (G=.error (2,i)):=by
       have:=uo.o;rw[if_pos (BL.o.trans hki)]at this;exact this.symm
      have CF:Hd (∀wx,Dd wx R s L O now de k 0 0->Calls prog 82 #[.pointer (some ⟨R,0,none⟩),.int .i64 2,.int .i64 (i:Nat)] wx fun en w'=>en=.returned (.tuple #[])/\Dd w' R s L O now de k 2 i/\wx.grownBy w' (some R)):=fun wx hg=>oV R s L O now de k 2 i wx hg
      have aa5:i<=k:=hik;have sl:∀wx,(Instr.slice 9 (.string s) (some (.int .i64 (i:Int))) (some (.int .i64 (k:Int))) none).run prog wx=.ok (.string ⟨(ag s.data.toList i (k-i)).toArray⟩) wx:=fun wx=>kS s i k hik hk wx
      have iW:Hd ((ag s.data.toList i (k-i)).length<=4*s.size+4):=by
       show _<=_;unfold ag;rw[List.length_take];omega
      obtain⟨X,hX⟩:=zN (ag s.data.toList i (k-i));rw[hX]at sl iW;clear hki hX;go_wp2_with (go_at_call 82;refine(CF.o _ aC.o).mono ?_;rintro e w2 ⟨rfl,hd2,hg2⟩;obtain⟨e0,e1,-⟩:=hd2.cells);go_quiet (fail);go_wp2;refine bodyPost_ret (results_tmp2 (t:=2) (u:=3) rfl _ _ _) rfl ?_;rw[aB.o];exact⟨fun t k hh=>(by cases hh),fun c p hh=>(by cases hh;exact⟨⟨X,iW.o,rfl⟩,by decide,k,hk,hd2⟩),au (dH dO.o hg2) _⟩
     ·have hb:((k:Int) == (i:Int))=false:=by rw[beq_eq_false_iff_ne];omega
      have aB:Hd (G=.ok (ag s.data.toList i (k-i),k)):=by
       have:=uo.o;rw[BL.o,if_neg hki]at this;exact this.symm
      have sl:∀wx,(Instr.slice 9 (.string s) (some (.int .i64 (i:Int))) (some (.int .i64 (k:Int))) none).run prog wx=.ok (.string ⟨(ag s.data.toList i (k-i)).toArray⟩) wx:=fun wx=>kS s i k hik hk wx
      obtain⟨X,hX⟩:=zN (ag s.data.toList i (k-i));rw[hX]at sl aB;clear hki hX;go_wp2;go_quiet (fail);go_wp2;refine bodyPost_ret (results_tmp2 (t:=2) (u:=3) rfl _ _ _) rfl ?_;rw[aB.o];exact⟨fun t j hh=>(by cases hh;exact⟨rfl,hk,aC.o⟩),fun c p hh=>(by cases hh),au dO.o _⟩
   ·have hge:decide ((k:Int)<(s.size:Int))=false:=by simp;omega
    have BL:Hd (J=k):=l9.o.symm.trans (qo.o k (by omega));go_wp2;go_quiet (fail);have aC:Hd (Dd (wr.drewN nq) R s L O now de k 0 0):=HDK.o;have dO:Hd (w.grownBy (wr.drewN nq) (some R)):=au jI.o nq;obtain⟨wA,hwA⟩:∃W,wr.drewN nq=W:=⟨_,rfl⟩;rw[hwA]at aC dO ⊢;obtain⟨d0,d1,-,-,-,d5,-,-,dg⟩:=aC.o.cells;clear hwA dg
    by_cases hki:k=i
    ·have hb:((k:Int) == (i:Int))=true:=by simp[hki]
     have aB:Hd (G=.error (2,i)):=by
      have:=uo.o;rw[if_pos (BL.o.trans hki)]at this;exact this.symm
     have CF:Hd (∀wx,Dd wx R s L O now de k 0 0->Calls prog 82 #[.pointer (some ⟨R,0,none⟩),.int .i64 2,.int .i64 (i:Nat)] wx fun en w'=>en=.returned (.tuple #[])/\Dd w' R s L O now de k 2 i/\wx.grownBy w' (some R)):=fun wx hg=>oV R s L O now de k 2 i wx hg
     have aa5:i<=k:=hik;have sl:∀wx,(Instr.slice 9 (.string s) (some (.int .i64 (i:Int))) (some (.int .i64 (k:Int))) none).run prog wx=.ok (.string ⟨(ag s.data.toList i (k-i)).toArray⟩) wx:=fun wx=>kS s i k hik hk wx
     have iW:Hd ((ag s.data.toList i (k-i)).length<=4*s.size+4):=by
      show _<=_;unfold ag;rw[List.length_take];omega
     obtain⟨X,hX⟩:=zN (ag s.data.toList i (k-i));rw[hX]at sl iW;clear hki hX;go_wp2_with (go_at_call 82;refine(CF.o _ aC.o).mono ?_;rintro e w2 ⟨rfl,hd2,hg2⟩;obtain⟨e0,e1,-⟩:=hd2.cells);go_quiet (fail);go_wp2;refine bodyPost_ret (results_tmp2 (t:=2) (u:=3) rfl _ _ _) rfl ?_;rw[aB.o];exact⟨fun t k hh=>(by cases hh),fun c p hh=>(by cases hh;exact⟨⟨X,iW.o,rfl⟩,by decide,k,hk,hd2⟩),au (dH dO.o hg2) _⟩
    ·have hb:((k:Int) == (i:Int))=false:=by rw[beq_eq_false_iff_ne];omega
     have aB:Hd (G=.ok (ag s.data.toList i (k-i),k)):=by
      have:=uo.o;rw[BL.o,if_neg hki]at this;exact this.symm
     have sl:∀wx,(Instr.slice 9 (.string s) (some (.int .i64 (i:Int))) (some (.int .i64 (k:Int))) none).run prog wx=.ok (.string ⟨(ag s.data.toList i (k-i)).toArray⟩) wx:=fun wx=>kS s i k hik hk wx
     obtain⟨X,hX⟩:=zN (ag s.data.toList i (k-i));rw[hX]at sl aB;clear hki hX;go_wp2;go_quiet (fail);go_wp2;refine bodyPost_ret (results_tmp2 (t:=2) (u:=3) rfl _ _ _) rfl ?_;rw[aB.o];exact⟨fun t j hh=>(by cases hh;exact⟨rfl,hk,aC.o⟩),fun c p hh=>(by cases hh),au dO.o _⟩
open Go.RowKit Go.Joins
def aa6(R:Nat)(s:ByteArray)(L O:Value)(now de:Nat)(g:Rs (Int × Nat))(w:World)(e:Ending)(w':World):Prop:=(∀n j,g=.ok (n,j)->e=.returned (.int .i64 n)/\Ds w' R s L O now de (.ok j))/\(∀c p,g=.error (c,p)->(∃n:Int,e=.returned (.int .i64 n))/\Ds w' R s L O now de (.error (c,p)))/\w.grownBy w' (some R)
def KX(l:List UInt8)(i a:Nat)(m:Bool):Rs (Int × Nat) :=
 if toR ax l a=a\/(1<toR ax l a-a/\nx l a=48) then .error (2,a)
 else if 18<toR ax l a-a then .error (3,i)
 else .ok (if m=true then -(gJ (ag l a (toR ax l a-a)) 0:Int) else(gJ (ag l a (toR ax l a-a)) 0:Int),toR ax l a)
theorem aa7(l:List UInt8)(i:Nat):iQ l i=KX l i (if ax (nx l i)=true then i else i+1) (decide (nx l i=45)):=by
 unfold iQ KX
 by_cases h:nx l i=45
 ·rw[decide_eq_true h];simp only[if_pos h,if_true]
 ·rw[decide_eq_false h];simp[if_neg h]
theorem TI(l:List UInt8)(a k:Nat)(ha:a<=k)(hk:k<l.length):ag l a (k+1-a)=ag l a (k-a)++[l[k]]:=by
 unfold ag;rw[show k+1-a=(k-a)+1 by omega,List.take_add_one,List.getElem?_drop,show a+(k-a)=k by omega,List.getElem?_eq_getElem hk];rfl
theorem aa8(l:List UInt8)(a k:Nat)(h:∀c∈ag l a (k-a),c.toNat<=57)(ha:a<=k)(hk:k<l.length)(hd:l[k].toNat<=57):∀c∈ag l a (k+1-a),c.toNat<=57:=by
 rw[TI l a k ha hk];intro c hc
 rcases List.mem_append.1 hc with h1|h1
 ·exact h c h1
 ·rw[List.mem_singleton.1 h1];exact hd
theorem aa9(l:List UInt8)(a k n:Nat)(h:iH (ag l a (k-a)) 0=n)(ha:a<=k)(hk:k<l.length):iH (ag l a (k+1-a)) 0=if n<=99999999999999999 then 10*n+(l[k].toNat - 48) else 1000000000000000000:=by
 rw[TI l a k ha hk,P8,h];rfl
theorem KZ(l:List UInt8)(a k:Nat)(ha:a<=k)(hk:k<=l.length):(ag l a (k-a)).length=k-a:=by
 unfold ag;rw[List.length_take,List.length_drop];omega
theorem TJ(l:List UInt8)(a k:Nat)(h:∀c∈ag l a (k-a),c.toNat<=57)(ha:a<=k)(hk:k<=l.length)(h18:k-a<=18):iH (ag l a (k-a)) 0=gJ (ag l a (k-a)) 0/\gJ (ag l a (k-a)) 0<=999999999999999999:=by
 have:=P6 (ag l a (k-a)) 0 0 h (by decide) (by rw[KZ l a k ha hk];omega);refine⟨this.1,?_⟩;have h2:=this.2;have h3:(10:Nat) ^ (0+(ag l a (k-a)).length)<=10 ^ 18:=Nat.pow_le_pow_right (by omega) (by rw[KZ l a k ha hk];omega);have e:(10:Nat) ^ 18=1000000000000000000:=by decide
 omega
theorem aba(l:List UInt8)(a k:Nat)(h:∀c∈ag l a (k-a),c.toNat<=57)(ha:a<=k)(hk:k<=l.length)(h18:18<k-a)(h49:49<=nx l a):iH (ag l a (k-a)) 0=1000000000000000000:=by
 have hal:a<l.length:=by omega
 have e:ag l a (k-a)=l[a] :: ag l (a+1) (k-(a+1)):=by
  unfold ag;rw[List.drop_eq_getElem_cons hal,show k-a=(k-(a+1))+1 by omega,List.take_succ_cons]
 rw[oP l a hal]at h49;have hlen:=KZ l (a+1) k (by omega) hk;rw[e]at h ⊢;have hc:=h l[a] (by simp);show iH (ag l (a+1) (k-(a+1))) (if 0<=99999999999999999 then 10*0+(l[a].toNat - 48) else 1000000000000000000)=_;rw[if_pos (by omega)];exact P7 _ _ 0 (fun c hc=>h c (by simp[hc])) (by show 1<=_;omega) (by omega) (by omega)
theorem abb(l:List UInt8)(a:Nat)(h:¬toR ax l a=a):48<=nx l a/\nx l a<=57:=by
 apply Classical.byContradiction;intro hn;exact h (lG ax l a (by unfold ax;exact decide_eq_false hn))
open Go.RowKit Go.Joins
theorem abd(R:Nat)(s:ByteArray)(L O:Value)(now de i:Nat)(w:World)(h:Dd w R s L O now de i 0 0)(hi:i<s.size)(hs:s.size<=1048576)(hx:nx s.data.toList i=43\/nx s.data.toList i=45\/ax (nx s.data.toList i)=true) :
  Calls prog 123 #[.pointer (some ⟨R,0,none⟩)] w (aa6 R s L O now de (iQ s.data.toList i) w):=by
 rw[aa7];have hl:s.data.toList.length=s.size:=by simp
 have CI:Hd (∀c w,0<=c->Ds w R s L O now de (.ok i)->Calls prog 52 #[.pointer (some ⟨R,0,none⟩),.int .u8 c] w fun e w'=>e=.returned (.bool (decide (nx s.data.toList i=c)))/\w.grownBy w' none):=fun c w h0 h1=>rG R s L O now de (.ok i) c h0 w h1 hs
 obtain⟨m,hm⟩:=zN (decide (nx s.data.toList i=45));obtain⟨m2,hm2⟩:=zN (decide (nx s.data.toList i=43));obtain⟨a,ha⟩:=zN ((if ax (nx s.data.toList i)=true then i else i+1));have nK:Hd ((m=true/\i+1=a)\/(m=false/\m2=true/\i+1=a)\/(m=false/\m2=false/\i=a)):=by
  by_cases h45:nx s.data.toList i=45
  ·exact Or.inl ⟨by rw[<-hm];exact decide_eq_true h45,by rw[<-ha,if_neg (by rw[h45];decide)]⟩
  ·by_cases h43:nx s.data.toList i=43
   ·exact Or.inr (Or.inl ⟨by rw[<-hm];exact decide_eq_false h45,by rw[<-hm2];exact decide_eq_true h43,by rw[<-ha,if_neg (by rw[h43];decide)]⟩)
   ·exact Or.inr (Or.inr ⟨by rw[<-hm];exact decide_eq_false h45,by rw[<-hm2];exact decide_eq_false h43,by rw[<-ha,if_pos (by rcases hx with h|h|h;exact(h43 h).elim;exact(h45 h).elim;exact h)]⟩)
 have abe:Hd (∀w,Ds w R s L O now de (.ok i)->Calls prog 52 #[.pointer (some ⟨R,0,none⟩),.int .u8 45] w fun e w'=>e=.returned (.bool m)/\w.grownBy w' none):=fun w h=>hm ▸ CI.o 45 w (by decide) h
 have TK:Hd (∀w,Ds w R s L O now de (.ok i)->Calls prog 52 #[.pointer (some ⟨R,0,none⟩),.int .u8 43] w fun e w'=>e=.returned (.bool m2)/\w.grownBy w' none):=fun w h=>hm2 ▸ CI.o 43 w (by decide) h
 have HD:Hd (Dd w R s L O now de i 0 0):=h;have hai:a<=s.size:=by have:=nK.o;omega
 have hai1:a<=i+1:=by have:=nK.o;omega
 obtain⟨p,hp⟩:=zN (i);rw[ha,hm];obtain⟨sg,hsg⟩:∃sg:Nat->Int,(fun n:Nat=>if m=true then -(n:Int) else(n:Int))=sg:=⟨_,rfl⟩;have yT:Hd (∀n:Nat,(if m=true then -(n:Int) else(n:Int))=sg n):=fun n=>by rw[<-hsg]
 obtain⟨G,hG⟩:=zN (KX s.data.toList i a m);rw[hG];have iV:Hd ((if toR ax s.data.toList a=a\/(1<toR ax s.data.toList a-a/\nx s.data.toList a=48) then .error (2,a)
  else if 18<toR ax s.data.toList a-a then .error (3,p)
  else .ok (sg (gJ (ag s.data.toList a (toR ax s.data.toList a-a)) 0),toR ax s.data.toList a))=G):=by rw[<-hsg,<-hp];exact hG
 obtain⟨c0,c1,-,-,-,c5,-,-,df⟩:=h.cells;have df1:=df 1;rw[hp]at c1;have HST:Hd (∀k (hk:k<s.size),ax (s[k].toNat:Int)=true->toR ax s.data.toList k=toR ax s.data.toList (k+1)):=fun k hk hb=>ql ax _ k (by omega) (by rw[byte_at s k hk];exact hb)
 have jH:Hd (∀k (hk:k<s.size),ax (s[k].toNat:Int)=false->toR ax s.data.toList k=k):=fun k hk hb=>lG ax _ k (by rw[byte_at s k hk];exact hb)
 have qo:Hd (∀k,s.size<=k->toR ax s.data.toList k=k):=fun k hk=>zV ax _ k (by omega)
 have jL:Hd (∀k n,iH (ag s.data.toList a (k-a)) 0=n->a<=k->(hk:k<s.size)->iH (ag s.data.toList a (k+1-a)) 0=if n<=99999999999999999 then 10*n+(s[k].toNat - 48) else 1000000000000000000):=fun k n h1 h2 h3=>aa9 s.data.toList a k n h1 h2 (by omega)
 have eU:Hd (∀k,(∀c∈ag s.data.toList a (k-a),c.toNat<=57)->a<=k->(hk:k<s.size)->s[k].toNat<=57->∀c∈ag s.data.toList a (k+1-a),c.toNat<=57):=fun k h1 h2 h3 h4=>aa8 s.data.toList a k h1 h2 (by omega) h4
 have BM:Hd (∀k,(∀c∈ag s.data.toList a (k-a),c.toNat<=57)->a<=k->k<=s.size->k-a<=18->iH (ag s.data.toList a (k-a)) 0=gJ (ag s.data.toList a (k-a)) 0/\gJ (ag s.data.toList a (k-a)) 0<=999999999999999999):=fun k h1 h2 h3 h4=>TJ s.data.toList a k h1 h2 (by omega) h4
 have HHI:Hd (∀k,(∀c∈ag s.data.toList a (k-a),c.toNat<=57)->a<=k->k<=s.size->18<k-a->49<=nx s.data.toList a->iH (ag s.data.toList a (k-a)) 0=1000000000000000000):=fun k h1 h2 h3 h4 h5=>aba s.data.toList a k h1 h2 (by omega) h4 h5
 have gX:Hd (¬toR ax s.data.toList a=a->48<=nx s.data.toList a/\nx s.data.toList a<=57):=abb s.data.toList a;have HXB:Hd (∀k (hk:k<s.size),nx s.data.toList k=(s[k].toNat:Int)):=byte_at s;have TL:Hd (Ds w R s L O now de (.ok i)):=⟨by omega,h⟩;clear h hG ha hm hm2 df hx hsg hp;go_enter func123,ntmps123;go_wp2_with (go_at_call 52;refine(abe.o _ TL.o).mono ?_)
 first|rintro e w1 rfl hg1|rintro e w1 ⟨rfl,hg1⟩
 have ay:Hd (w.grownBy w1 none):=hg1;clear hg1;have TM:Hd (Ds w1 R s L O now de (.ok i)):=TL.o.grow ay.o
 rcases nK.o with q1|q2|q3
 all_goals (
  clear nK
  first
   | (obtain⟨rfl,ha⟩:=q1
      have HG2:Hd (w.grownBy w1 none):=ay.o;obtain⟨w2,hw2⟩:=zN (w1);rw[hw2]at HG2 ⊢;clear hw2)
   | (obtain⟨rfl,rfl,ha⟩:=q2
      go_wp2_with (go_at_call 52;refine(TK.o _ TM.o).mono ?_)
      first|rintro e w2 rfl hg2|rintro e w2 ⟨rfl,hg2⟩
      have HG2:Hd (w.grownBy w2 none):=ai ay.o hg2;clear hg2)
   | (obtain⟨rfl,rfl,ha⟩:=q3
      go_wp2_with (go_at_call 52;refine(TK.o _ TM.o).mono ?_)
      first|rintro e w2 rfl hg2|rintro e w2 ⟨rfl,hg2⟩
      have HG2:Hd (w.grownBy w2 none):=ai ay.o hg2;clear hg2)
  obtain⟨e0,e1,-,-,-,e5,-,-,ef⟩:=(HD.o.grow HG2.o).cells;have ef1:=ef 1;clear ef;go_wp2
  first
   | (have ha':a=i:=ha.symm
      subst ha';have aC:Hd (Dd w2 R s L O now de a 0 0):=HD.o.grow HG2.o;have dO:Hd (w.grownBy w2 (some R)):=aF (ak w (some R)) HG2.o;obtain⟨wA,hwA⟩:∃W,w2=W:=⟨_,rfl⟩;rw[hwA]at aC dO ⊢;clear hwA)
   | (have aC:Hd (Dd (w2.setCell ⟨R,1,none⟩ (.int .i64 ((i:Int)+1))) R s L O now de (i+1) 0 0):=(HD.o.grow HG2.o).setI (i+1)
      have dO:Hd (w.grownBy (w2.setCell ⟨R,1,none⟩ (.int .i64 ((i:Int)+1))) (some R)):=aV (aF (ak w (some R)) HG2.o) 1 _;obtain⟨wA,hwA⟩:∃W,w2.setCell ⟨R,1,none⟩ (.int .i64 ((i:Int)+1))=W:=⟨_,rfl⟩;rw[hwA]at aC dO ⊢;rw[ha]at aC;have hcast:((i:Int)+1)=(a:Int):=by omega
      simp only[hcast];clear hwA hcast)
  try clear ha
  go_loopw [6] (fun vn wr=>∃k n:Nat,vn=.int .i64 (n:Nat)/\Dd wr R s L O now de k 0 0/\a<=k/\k<=s.size/\toR ax s.data.toList k=toR ax s.data.toList a/\iH (ag s.data.toList a (k-a)) 0=n/\n<=1000000000000000000/\(∀c∈ag s.data.toList a (k-a),c.toNat<=57)/\w.grownBy wr (some R)) (fun _ wr=>s.size-dI wr R)
  case atStart=>exact⟨a,0,rfl,aC.o,by omega,hai,rfl,by rw[Nat.sub_self];rfl,by omega,fun c hc=>(by rw[Nat.sub_self]at hc;unfold ag at hc;rw[List.take_zero]at hc;cases hc),dO.o⟩
  case round =>
   obtain⟨k,n,rfl,hd,hak,hk,hto,TP,afM,hall,hg⟩:=hrel;have HDK:Hd (Dd _ R s L O now de k 0 0):=hd;have jI:Hd (w.grownBy _ (some R)):=hg;have gI:Hd (dI _ R=k):=uX hd;have l9:Hd (toR ax s.data.toList k=toR ax s.data.toList a):=hto;have Gv:Hd (iH (ag s.data.toList a (k-a)) 0=n):=TP;have mV:Hd (∀c∈ag s.data.toList a (k-a),c.toNat<=57):=hall;obtain⟨c0,c1,-,-,-,c5,-,-,df⟩:=hd.cells;have df1:=df 1;clear hd hg hto TP hall df;have hst:(∃hlt:k<s.size,ax (s[k].toNat:Int)=true)\/(toR ax s.data.toList a=k/\((∃hlt:k<s.size,ax (s[k].toNat:Int)=false)\/¬k<s.size)):=by
    by_cases hlt:k<s.size
    ·cases hb:ax (s[k].toNat:Int) with
     | true=>exact Or.inl ⟨hlt,hb⟩
     | false=>exact Or.inr ⟨l9.o.symm.trans (jH.o k hlt hb),Or.inl ⟨hlt,hb⟩⟩
    ·exact Or.inr ⟨l9.o.symm.trans (qo.o k (by omega)),Or.inr hlt⟩
   rcases hst with⟨hlt,hb⟩|⟨hJ,e1|e2⟩
   ·have hlt':decide ((k:Int)<(s.size:Int))=true:=by simp;omega
    have CB:Hd (∀w,Calls prog 122 #[.int .u8 (s[k].toNat:Int)] w fun e w'=>e=.returned (.bool true)/\w'=w):=fun w=>by have:=yR s[k] w;rw[hb]at this;exact this
    have HN:Hd (toR ax s.data.toList (k+1)=toR ax s.data.toList a):=(HST.o k hlt hb).symm.trans l9.o;obtain⟨h48,h57⟩:48<=s[k].toNat/\s[k].toNat<=57:=by
     unfold ax at hb;have:=of_decide_eq_true hb;omega
    have TQ:Hd (∀c∈ag s.data.toList a (k+1-a),c.toNat<=57):=eU.o k mV.o hak hlt h57;have H4:Hd (iH (ag s.data.toList a (k+1-a)) 0=if n<=99999999999999999 then 10*n+(s[k].toNat - 48) else 1000000000000000000):=jL.o k n Gv.o hak hlt;clear hb;go_wp2;go_quiet (first|(go_at_call 122;exact Calls.quiet_of_same (CB.o _)));have aK:Hd (Dd (wr.drewN nq) R s L O now de k 0 0):=HDK.o;have aG:Hd (w.grownBy (wr.drewN nq) (some R)):=au jI.o nq;obtain⟨wB,hwB⟩:∃W,wr.drewN nq=W:=⟨_,rfl⟩;rw[hwB]at aK aG ⊢;obtain⟨d0,d1,-,-,-,d5,-,-,dg⟩:=aK.o.cells;have dg1:=dg 1;have TR:Hd (Dd (wB.setCell ⟨R,1,none⟩ (.int .i64 ((k:Int)+1))) R s L O now de (k+1) 0 0):=aK.o.setI (k+1);clear hwB dg
    by_cases hsm:n<=99999999999999999
    ·have abf:(n:Int)<=99999999999999999:=by omega
     have La:Hd (iH (ag s.data.toList a (k+1-a)) 0=10*n+(s[k].toNat - 48)):=by
      have:=H4.o;rw[if_pos hsm]at this;exact this
     have TS:Hd (10*(n:Int)+(s[k].toNat:Int)-48=((10*n+(s[k].toNat - 48):Nat):Int)):=by show _=_;omega
     go_wp2;go_quiet (fail);have dJ:Hd (Dd (wB.drewN nq) R s L O now de k 0 0):=aK.o;have bC:Hd (w.grownBy (wB.drewN nq) (some R)):=au aG.o nq;obtain⟨wC,fH⟩:∃W,wB.drewN nq=W:=⟨_,rfl⟩;rw[fH]at dJ bC ⊢;obtain⟨f0,f1,-,-,-,f5,-,-,fg⟩:=dJ.o.cells;have fg1:=fg 1;have TT:Hd (Dd (wC.setCell ⟨R,1,none⟩ (.int .i64 ((k:Int)+1))) R s L O now de (k+1) 0 0):=dJ.o.setI (k+1);clear fH fg;go_wp2;refine⟨⟨k+1,10*n+(s[k].toNat - 48),by first|rfl|rw[TS.o]|(congr 1;have:=TS.o;omega),TT.o,by omega,by omega,HN.o,La.o,by omega,TQ.o,aV bC.o 1 _⟩,?_⟩;rw[gI.o,uX TT.o];omega
    ·have abf:¬(n:Int)<=99999999999999999:=by omega
     have afN:(99999999999999999:Int)<(n:Int):=by omega
     have La:Hd (iH (ag s.data.toList a (k+1-a)) 0=1000000000000000000):=by
      have:=H4.o;rw[if_neg hsm]at this;exact this
     go_wp2;refine⟨⟨k+1,1000000000000000000,rfl,TR.o,by omega,by omega,HN.o,La.o,by omega,TQ.o,aV aG.o 1 _⟩,?_⟩;rw[gI.o,uX TR.o];omega
   all_goals (
    have HJ:Hd (toR ax s.data.toList a=k):=hJ;clear hJ
    first
     | (obtain⟨hlt,hb⟩:=e1
        have hlt':decide ((k:Int)<(s.size:Int))=true:=by simp;omega
        have CB:Hd (∀w,Calls prog 122 #[.int .u8 (s[k].toNat:Int)] w fun e w'=>e=.returned (.bool false)/\w'=w):=fun w=>by have:=yR s[k] w;rw[hb]at this;exact this
        clear hb;go_wp2;go_quiet (first|(go_at_call 122;exact Calls.quiet_of_same (CB.o _))))
     | (have hge:decide ((k:Int)<(s.size:Int))=false:=by have:=e2;simp;omega
        go_wp2;go_quiet (fail))
    have aK:Hd (Dd (wr.drewN nq) R s L O now de k 0 0):=HDK.o;have aG:Hd (w.grownBy (wr.drewN nq) (some R)):=au jI.o nq;obtain⟨wB,hwB⟩:∃W,wr.drewN nq=W:=⟨_,rfl⟩;rw[hwB]at aK aG ⊢;obtain⟨d0,d1,-,-,-,d5,-,-,dg⟩:=aK.o.cells;clear hwB dg;have BN:=iV.o;rw[HJ.o]at BN;have uo:Hd (_=G):=BN;have HNJ:Hd (¬k=a->48<=nx s.data.toList a/\nx s.data.toList a<=57):=fun hh=>gX.o (by rw[HJ.o];exact hh)
    have hsub:IntKind.i64.wrap ((k:Int)-(a:Int))=(k:Int)-(a:Int):=by rw[IntKind.wrap_i64];omega
    clear BN;have Lc:Hd (∀wx,Dd wx R s L O now de k 0 0->Calls prog 82 #[.pointer (some ⟨R,0,none⟩),.int .i64 2,.int .i64 (a:Nat)] wx fun en w'=>en=.returned (.tuple #[])/\Dd w' R s L O now de k 2 a/\wx.grownBy w' (some R)):=fun wx hg=>oV R s L O now de k 2 a wx hg
    have CF3:Hd (∀wx,Dd wx R s L O now de k 0 0->Calls prog 82 #[.pointer (some ⟨R,0,none⟩),.int .i64 3,.int .i64 (p:Nat)] wx fun en w'=>en=.returned (.tuple #[])/\Dd w' R s L O now de k 3 p/\wx.grownBy w' (some R)):=fun wx hg=>oV R s L O now de k 3 p wx hg
    have CFN:Hd (∀wx,Dd wx R s L O now de k 2 a->Calls prog 82 #[.pointer (some ⟨R,0,none⟩),.int .i64 3,.int .i64 (p:Nat)] wx fun en w'=>en=.returned (.tuple #[])/\w'=wx):=fun wx hg=>I5 R s L O now de k 2 a 3 p wx hg (by decide)
    by_cases hka:k=a
    ·have aB:Hd (G=.error (2,a)):=by
      have:=uo.o;rw[if_pos (Or.inl hka)]at this;exact this.symm
     have hn0:n=0:=by
      have:=Gv.o;rw[hka,Nat.sub_self]at this;unfold ag at this;rw[List.take_zero]at this;exact this.symm
     have hbk:((k:Int) == (a:Int))=true:=by simp[hka]
     have hmx:(n:Int)<=999999999999999999:=by omega
     clear hka hn0;go_wp2_with (go_at_call 82;refine(Lc.o _ aK.o).mono ?_;rintro e w3 ⟨rfl,hd3,hg3⟩);refine bodyPost_ret (results_tmp (t:=2) rfl _ _ _) rfl ?_;rw[aB.o];exact⟨fun n j hh=>(by cases hh),fun c p hh=>(by cases hh;exact⟨⟨_,rfl⟩,by decide,k,hk,hd3⟩),dH aG.o hg3⟩
    ·have hbk:((k:Int) == (a:Int))=false:=by rw[beq_eq_false_iff_ne];omega
     have hal:a<s.size:=by omega
     have hxa:=HXB.o a hal;obtain⟨hn1,hn2⟩:=HNJ.o hka
     by_cases hlz:1<k-a/\nx s.data.toList a=48
     ·have aB:Hd (G=.error (2,a)):=by
       have:=uo.o;rw[if_pos (Or.inr hlz)]at this;exact this.symm
      have h1k:(1:Int)<(k:Int)-(a:Int):=by omega
      have hb48:((s[a].toNat:Int) == 48)=true:=by rw[<-hxa,hlz.2];rfl
      clear hlz hxa hn1 hn2
      by_cases hmx:n<=999999999999999999
      ·have Le:(n:Int)<=999999999999999999:=by omega
       clear hka;go_wp2_with (go_at_call 82;refine(Lc.o _ aK.o).mono ?_;rintro e w3 ⟨rfl,hd3,hg3⟩);refine bodyPost_ret (results_tmp (t:=2) rfl _ _ _) rfl ?_;rw[aB.o];exact⟨fun n j hh=>(by cases hh),fun c p hh=>(by cases hh;exact⟨⟨_,rfl⟩,by decide,k,hk,hd3⟩),dH aG.o hg3⟩
      ·have Le:(999999999999999999:Int)<(n:Int):=by omega
       clear hka;go_wp2_with (go_at_call 82;refine(Lc.o _ aK.o).mono ?_)
       first|rintro e w3 rfl hd3 hg3|rintro e w3 ⟨rfl,hd3,hg3⟩
       have HD3:Hd (Dd w3 R s L O now de k 2 a):=hd3;have aO:Hd (w.grownBy w3 (some R)):=dH aG.o hg3;clear hd3 hg3;go_wp2_with (go_at_call 82;refine(CFN.o _ HD3.o).mono ?_)
       first|rintro e w' rfl rfl|rintro e w' ⟨rfl,rfl⟩
       go_wp2;refine bodyPost_ret (results_tmp (t:=2) rfl _ _ _) rfl ?_;rw[aB.o];exact⟨fun n j hh=>(by cases hh),fun c p hh=>(by cases hh;exact⟨⟨_,rfl⟩,by decide,k,hk,HD3.o⟩),aO.o⟩
     ·have hno:¬(k=a\/(1<k-a/\nx s.data.toList a=48)):=by rintro(h|h);exact hka h;exact hlz h
      have hgd:((1:Int)<(k:Int)-(a:Int))->((s[a].toNat:Int) == 48)=false:=fun hh=>by
       rw[beq_eq_false_iff_ne,<-hxa];intro e;exact hlz ⟨by omega,e⟩
      by_cases h18:18<k-a
      ·have aB:Hd (G=.error (3,p)):=by
        have:=uo.o;rw[if_neg hno,if_pos h18]at this;exact this.symm
       have hnn:n=1000000000000000000:=by rw[<-Gv.o];exact HHI.o k mV.o hak hk h18 (by
        have:¬nx s.data.toList a=48:=fun e=>hlz ⟨by omega,e⟩
        omega)
       have Le:(999999999999999999:Int)<(n:Int):=by omega
       have h1k:(1:Int)<(k:Int)-(a:Int):=by omega
       have hb48:=hgd h1k;clear hka hlz hno hgd h18 hnn hxa hn1 hn2;go_wp2_with (go_at_call 82;refine(CF3.o _ aK.o).mono ?_;rintro e w3 ⟨rfl,hd3,hg3⟩);refine bodyPost_ret (results_tmp (t:=2) rfl _ _ _) rfl ?_;rw[aB.o];exact⟨fun n j hh=>(by cases hh),fun c p hh=>(by cases hh;exact⟨⟨_,rfl⟩,by decide,k,hk,hd3⟩),dH aG.o hg3⟩
      ·obtain⟨hlo1,hlo2⟩:=BM.o k mV.o hak hk (by omega);have hnd:gJ (ag s.data.toList a (k-a)) 0=n:=hlo1.symm.trans Gv.o;have aB:Hd (G=.ok (sg n,k)):=by
        have:=uo.o;rw[if_neg hno,if_neg h18,hnd]at this;exact this.symm
       have Le:(n:Int)<=999999999999999999:=by omega
       by_cases h1k:(1:Int)<(k:Int)-(a:Int)
       ·have hb48:=hgd h1k;clear hka hlz hno hgd h18 hlo1 hlo2 hnd hxa hn1 hn2;go_wp2;refine bodyPost_ret (results_tmp (t:=2) rfl _ _ _) rfl ?_;rw[aB.o];exact⟨fun z j hh=>(by cases hh;exact⟨dB (yT.o n),hk,aK.o⟩),fun c p hh=>(by cases hh),aG.o⟩
       ·have h1l:(k:Int)-(a:Int)<=1:=by omega
        clear hka hlz hno hgd h18 hlo1 hlo2 hnd hxa hn1 hn2;go_wp2;refine bodyPost_ret (results_tmp (t:=2) rfl _ _ _) rfl ?_;rw[aB.o];exact⟨fun z j hh=>(by cases hh;exact⟨dB (yT.o n),hk,aK.o⟩),fun c p hh=>(by cases hh),aG.o⟩))
end Go.Proofs.YtnnbgjaphfhibaaGreatDoor
