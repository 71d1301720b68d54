import Derived.Test.YtnnbgjaphfhibaaGreatDoorE17
set_option linter.all false
set_option maxRecDepth 100000
set_option maxHeartbeats 0
open Go.Proofs.Tryz
namespace Go.Proofs.YtnnbgjaphfhibaaGreatDoor
open Go.RowKit Go.Joins
theorem ac9(R:Nat)(s:ByteArray)(L O:Value)(now de i:Nat)(w:World)(h:Dd w R s L O now de i 0 0)(hi:i<s.size)(hs:s.size<=1048576)(hn:i+1<s.size)(hx:nx s.data.toList (i+1)=34) :
  Calls prog 160 #[.pointer (some ⟨R,0,none⟩)] w (qj 3 R s L O now de (esc s.data.toList i) w):=by
 have hl:s.data.toList.length=s.size:=by simp
 have HS:Hd (Dd (w.setCell ⟨R,1,none⟩ (.int .i64 ((i:Int)+1))) R s L O now de (i+1) 0 0):=h.setI (i+1);have fD:Hd (w.grownBy (w.setCell ⟨R,1,none⟩ (.int .i64 ((i:Int)+1))) (some R)):=aS (au w (some R)) 1 _;obtain⟨c0,c1,-,-,-,-,-,-,df⟩:=h.cells;have df1:=df 1;have HE:=ae (abR _ _ hx);rw[HE.o];have fQ:Hd (∀(hj:i+1<s.size),nx s.data.toList (i+1)=(s[i+1].toNat:Int)):=byte_at s (i+1);clear h df;obtain⟨j,hj⟩:=zN (i+1);have hij:i+2=j+1:=by omega
 have hlt:j<s.size:=by omega
 have hge:decide ((s.size:Int)<=(j:Int))=false:=by simp;omega
 have lU:¬(s.size:Int)<=(j:Int):=by omega
 rw[hj]at HS hx fQ;rw[hij];have HX:=ae (fQ.o hlt);clear hj hij fQ hn HE;have q98:((s[j].toNat:Int) == 98)=false:=by rw[<-HX.o,hx];rfl
 have q116:((s[j].toNat:Int) == 116)=false:=by rw[<-HX.o,hx];rfl
 have q110:((s[j].toNat:Int) == 110)=false:=by rw[<-HX.o,hx];rfl
 have q102:((s[j].toNat:Int) == 102)=false:=by rw[<-HX.o,hx];rfl
 have q114:((s[j].toNat:Int) == 114)=false:=by rw[<-HX.o,hx];rfl
 have q34:((s[j].toNat:Int) == 34)=true:=by rw[<-HX.o,hx];rfl
 have hb:s[j].toNat=34:=by have:=HX.o;omega
 clear HX hx;go_enter func160,ntmps160;go_wp2;obtain⟨wA,hwA⟩:=zN (w.setCell ⟨R,1,none⟩ (.int .i64 ((i:Int)+1)));rw[hwA]at HS fD ⊢;obtain⟨d0,d1,-,-,-,-,-,-,dg⟩:=HS.o.cells;have dg1:=dg 1;clear hwA dg c0 c1 df1;go_quiet (fail);have aI:Hd (Dd (wA.drewN nq) R s L O now de j 0 0):=HS.o;have aH:=ae (ay fD.o nq);obtain⟨wB,hwB⟩:=zN (wA.drewN nq);rw[hwB]at aI aH ⊢;obtain⟨f0,f1,-,-,-,-,-,-,fg⟩:=aI.o.cells;have fg1:=fg 1;clear hwB fg d0 d1 dg1;go_wp2;go_quiet (fail);have dL:Hd (Dd (wB.drewN nq) R s L O now de j 0 0):=aI.o;have bf:=ae (ay aH.o nq);obtain⟨wC,fU⟩:=zN (wB.drewN nq);rw[fU]at dL bf ⊢;obtain⟨g0,g1,-,-,-,-,-,-,gg⟩:=dL.o.cells;have gg1:=gg 1;have fK:Hd (Dd (wC.setCell ⟨R,1,none⟩ (.int .i64 ((j:Int)+1))) R s L O now de (j+1) 0 0):=dL.o.setI (j+1);have gX:Hd (w.grownBy (wC.setCell ⟨R,1,none⟩ (.int .i64 ((j:Int)+1))) (some R)):=aS bf.o 1 _
 clear fU gg f0 f1 fg1;have HB:Hd (([UInt8.ofNat ((s[j].toNat:Int)).toNat]:List UInt8)=[34]):=by show _=_;simp[hb]
 have Ij:(s[j].toNat:Int)=34:=by omega
 have kd:=LW (wC.setCell ⟨R,1,none⟩ (.int .i64 ((j:Int)+1))) 34;rw[show(wC.setCell ⟨R,1,none⟩ (.int .i64 ((j:Int)+1))).heap.size=wC.heap.size by simp[World.setCell]]at kd;clear hb;go_wp2;go_ret;refine⟨fun t k hh=>?_,fun c p hh=>(by cases hh),aG gX.o (World.grownBy_alloc _ _ none)⟩
 cases hh
 exact⟨by first|exact Dp HB.o|rfl,⟨by omega,fK.o.grow (World.grownBy_alloc _ _ none)⟩⟩
theorem ada(R:Nat)(s:ByteArray)(L O:Value)(now de i:Nat)(w:World)(h:Dd w R s L O now de i 0 0)(hi:i<s.size)(hs:s.size<=1048576)(hn:i+1<s.size)(hx:nx s.data.toList (i+1)=92) :
  Calls prog 160 #[.pointer (some ⟨R,0,none⟩)] w (qj 3 R s L O now de (esc s.data.toList i) w):=by
 have hl:s.data.toList.length=s.size:=by simp
 have HS:Hd (Dd (w.setCell ⟨R,1,none⟩ (.int .i64 ((i:Int)+1))) R s L O now de (i+1) 0 0):=h.setI (i+1);have fD:Hd (w.grownBy (w.setCell ⟨R,1,none⟩ (.int .i64 ((i:Int)+1))) (some R)):=aS (au w (some R)) 1 _;obtain⟨c0,c1,-,-,-,-,-,-,df⟩:=h.cells;have df1:=df 1;have HE:=ae (abS _ _ hx);rw[HE.o];have fQ:Hd (∀(hj:i+1<s.size),nx s.data.toList (i+1)=(s[i+1].toNat:Int)):=byte_at s (i+1);clear h df;obtain⟨j,hj⟩:=zN (i+1);have hij:i+2=j+1:=by omega
 have hlt:j<s.size:=by omega
 have hge:decide ((s.size:Int)<=(j:Int))=false:=by simp;omega
 have lU:¬(s.size:Int)<=(j:Int):=by omega
 rw[hj]at HS hx fQ;rw[hij];have HX:=ae (fQ.o hlt);clear hj hij fQ hn HE;have q98:((s[j].toNat:Int) == 98)=false:=by rw[<-HX.o,hx];rfl
 have q116:((s[j].toNat:Int) == 116)=false:=by rw[<-HX.o,hx];rfl
 have q110:((s[j].toNat:Int) == 110)=false:=by rw[<-HX.o,hx];rfl
 have q102:((s[j].toNat:Int) == 102)=false:=by rw[<-HX.o,hx];rfl
 have q114:((s[j].toNat:Int) == 114)=false:=by rw[<-HX.o,hx];rfl
 have q34:((s[j].toNat:Int) == 34)=false:=by rw[<-HX.o,hx];rfl
 have q92:((s[j].toNat:Int) == 92)=true:=by rw[<-HX.o,hx];rfl
 have hb:s[j].toNat=92:=by have:=HX.o;omega
 clear HX hx;go_enter func160,ntmps160;go_wp2;obtain⟨wA,hwA⟩:=zN (w.setCell ⟨R,1,none⟩ (.int .i64 ((i:Int)+1)));rw[hwA]at HS fD ⊢;obtain⟨d0,d1,-,-,-,-,-,-,dg⟩:=HS.o.cells;have dg1:=dg 1;clear hwA dg c0 c1 df1;go_quiet (fail);have aI:Hd (Dd (wA.drewN nq) R s L O now de j 0 0):=HS.o;have aH:=ae (ay fD.o nq);obtain⟨wB,hwB⟩:=zN (wA.drewN nq);rw[hwB]at aI aH ⊢;obtain⟨f0,f1,-,-,-,-,-,-,fg⟩:=aI.o.cells;have fg1:=fg 1;clear hwB fg d0 d1 dg1;go_wp2;go_quiet (fail);have dL:Hd (Dd (wB.drewN nq) R s L O now de j 0 0):=aI.o;have bf:=ae (ay aH.o nq);obtain⟨wC,fU⟩:=zN (wB.drewN nq);rw[fU]at dL bf ⊢;obtain⟨g0,g1,-,-,-,-,-,-,gg⟩:=dL.o.cells;have gg1:=gg 1;have fK:Hd (Dd (wC.setCell ⟨R,1,none⟩ (.int .i64 ((j:Int)+1))) R s L O now de (j+1) 0 0):=dL.o.setI (j+1);have gX:Hd (w.grownBy (wC.setCell ⟨R,1,none⟩ (.int .i64 ((j:Int)+1))) (some R)):=aS bf.o 1 _
 clear fU gg f0 f1 fg1;have HB:Hd (([UInt8.ofNat ((s[j].toNat:Int)).toNat]:List UInt8)=[92]):=by show _=_;simp[hb]
 have Ij:(s[j].toNat:Int)=92:=by omega
 have kd:=LW (wC.setCell ⟨R,1,none⟩ (.int .i64 ((j:Int)+1))) 92;rw[show(wC.setCell ⟨R,1,none⟩ (.int .i64 ((j:Int)+1))).heap.size=wC.heap.size by simp[World.setCell]]at kd;clear hb;go_wp2;go_ret;refine⟨fun t k hh=>?_,fun c p hh=>(by cases hh),aG gX.o (World.grownBy_alloc _ _ none)⟩
 cases hh
 exact⟨by first|exact Dp HB.o|rfl,⟨by omega,fK.o.grow (World.grownBy_alloc _ _ none)⟩⟩
open Go.RowKit Go.Joins
theorem adb(R:Nat)(s:ByteArray)(L O:Value)(now de i:Nat)(w:World)(h:Dd w R s L O now de i 0 0)(hi:i<s.size)(hs:s.size<=1048576) :
  Calls prog 160 #[.pointer (some ⟨R,0,none⟩)] w (qj 3 R s L O now de (esc s.data.toList i) w):=by
 by_cases hn:i+1<s.size
 ·by_cases m98:nx s.data.toList (i+1)=98
  ·exact ac4 R s L O now de i w h hi hs hn m98
  by_cases m116:nx s.data.toList (i+1)=116
  ·exact ac5 R s L O now de i w h hi hs hn m116
  by_cases m110:nx s.data.toList (i+1)=110
  ·exact ac6 R s L O now de i w h hi hs hn m110
  by_cases m102:nx s.data.toList (i+1)=102
  ·exact ac7 R s L O now de i w h hi hs hn m102
  by_cases m114:nx s.data.toList (i+1)=114
  ·exact ac8 R s L O now de i w h hi hs hn m114
  by_cases m34:nx s.data.toList (i+1)=34
  ·exact ac9 R s L O now de i w h hi hs hn m34
  by_cases m92:nx s.data.toList (i+1)=92
  ·exact ada R s L O now de i w h hi hs hn m92
  by_cases m117:nx s.data.toList (i+1)=117
  ·exact ac3 R s L O now de i w h hi hs hn m117
  exact abU R s L O now de i w h hi hs hn m98 m116 m110 m102 m114 m34 m92 m117
 ·exact abT R s L O now de i w h hi hs (by omega)
open Go.RowKit Go.Joins
theorem Vj(R:Nat)(s:ByteArray)(L O:Value)(now de i:Nat)(w:World)(h:Dd w R s L O now de i 0 0)(hi:i<s.size)(hq:nx s.data.toList i=34)(hs:s.size<=1048576) :
  Calls prog 119 #[.pointer (some ⟨R,0,none⟩)] w (qj (4*s.size+4) R s L O now de (str s.data.toList (s.data.toList.length+1) (i+1) []) w):=by
 have hl:s.data.toList.length=s.size:=by simp
 have CM:=ae (fun q w (h:Ds w R s L O now de q)=>Ll R s L O now de q 34 (by decide) w h hs);have CI:=ae (fun q w (h:Ds w R s L O now de q)=>tH R s L O now de q 34 (by decide) w h hs);have CE:=ae (fun k w (h:Dd w R s L O now de k 0 0) (hk:k<s.size)=>adb R s L O now de k w h hk hs);have CSq:=ae (fun k w (hk:k<s.size)=>abE s k hk w hs);have HST:Hd (∀f i acc,str s.data.toList (f+1) i acc =
  if nx s.data.toList i=34 then .ok (acc,i+1)
  else if nx s.data.toList i=92 then(match esc s.data.toList i with | .error e=>.error e | .ok (b,j)=>str s.data.toList f j (acc++b))
  else if nx s.data.toList i=-1\/ji (nx s.data.toList i)=true then .error (2,i)
  else if aJ s.data.toList i=0 then .error (2,i)
  else str s.data.toList f (i+aJ s.data.toList i) (acc++aj s.data.toList i (aJ s.data.toList i))):=yN _
 have bP:Hd (∀k,0<=nx s.data.toList k->k<s.size):=fun k hb=>by rw[<-hl];exact aY hb
 have LM:Hd (∀k b j,k<s.size->esc s.data.toList k=.ok (b,j)->b.length<=3/\k+2<=j/\j<=s.size):=fun k b j hk he=>by
  rw[KZ]at he
  cases hN:nY s.data.toList k with
  | error e=>rw[hN]at he;cases he
  | ok q =>
   obtain⟨n,j'⟩:=q;rw[hN]at he;have:=LJ _ k n j' (by omega) hN;have e1:(Except.ok (iE n,j'):Rs (List UInt8 × Nat))=.ok (b,j):=he;injection e1 with e1
   injection e1 with e1 e2
   have:=He n;subst e1 e2;omega
 have LP:Hd (∀k,k<=s.size->k+aJ s.data.toList k<=s.size):=fun k hk=>by rw[<-hl];exact LK _ k (by omega)
 have iJ:Hd (∀k,(aj s.data.toList k (aJ s.data.toList k)).length<=3*aJ s.data.toList k):=fun k=>by
  have:(aj s.data.toList k (aJ s.data.toList k)).length<=aJ s.data.toList k:=by unfold aj;rw[List.length_take];omega
  show _<=_;omega
 have HX:Hd (∀k (hk:k<s.size),nx s.data.toList k=(s[k].toNat:Int)):=byte_at s;have uQ:Hd (∀k,nx s.data.toList k=-1->s.size<=k):=fun k hk=>by rw[<-hl];exact Cc hk
 obtain⟨G,hG⟩:=zN (str s.data.toList (s.data.toList.length+1) (i+1) []);have jl:=ae hG;have xC:Hd ((Except.bind (.ok i) fun i=>must s.data.toList i 34:Rs Nat)=.ok (i+1)):=by
  show must s.data.toList i 34=_;unfold must;rw[if_pos hq]
 rw[hG];have H0:Hd (Ds w R s L O now de (.ok i)):=⟨by omega,h⟩;clear h hG hq;go_enter func119,ntmps119;go_wp2_with (go_at_call 56;refine(CM.o _ _ H0.o).mono ?_;rintro e w1 ⟨rfl,hd1,hg1⟩);rw[xC.o]at hd1;have HD1:=ae hd1;have ax:=ae hg1;clear hd1 hg1 H0 xC;go_loopw [3] (fun vo wr=>∃(q:Rs Nat) (f:Nat) (acc:List UInt8),vo=.string ⟨acc.toArray⟩/\Ds wr R s L O now de q/\(∀k,q=.ok k->s.size-k<f/\str s.data.toList f k acc=G/\acc.length<=3*k)/\(∀c p,q=.error (c,p)->G=.error (c,p)/\acc.length<=3*s.size+3)/\w.grownBy wr (some R)) (fun _ wr=>dM wr R s)
 case atStart=>exact⟨.ok (i+1),s.data.toList.length+1,[],rfl,HD1.o,fun k hk=>(by cases hk;exact⟨by omega,jl.o,by simp⟩),fun c p hk=>(by cases hk),ax.o⟩
 case round =>
  obtain⟨q,f,acc,rfl,hds,hok,her,hg⟩:=hrel;have HG:Hd (w.grownBy _ (some R)):=hg;clear hg
  match q,hds,hok,her with
  | .error (c,p),hds,_,her =>
   obtain⟨Vk,hacc⟩:=her c p rfl;have gX:=ae Vk;obtain⟨hc,j,hj,hd⟩:=hds;obtain⟨-,-,-,-,-,c5,-⟩:=hd.cells;have hn:(c == 0)=false:=by simpa using hc
   have fG:Hd (Ds _ R s L O now de (.error (c,p))):=⟨hc,j,hj,hd⟩;have HAC:=ae hacc;clear hd her Vk hc hj hacc;go_wp2_with (go_at_call 56;refine(CM.o _ _ fG.o).mono ?_;rintro e w2 ⟨rfl,hd2,hg2⟩);refine bodyPost_ret (results_tmp (t:=2) rfl _ _ _) rfl ?_;rw[gX.o];exact⟨fun t k hh=>(by cases hh),fun c p hh=>(by cases hh;exact⟨⟨acc,by have:=HAC.o;omega,rfl⟩,hd2⟩),dK HG.o hg2⟩
  | .ok k,hds,hok,_ =>
   obtain⟨hf,hstr,hacc⟩:=hok k rfl;obtain⟨hk,hd⟩:=hds;obtain⟨f,rfl⟩:∃f',f=f'+1:=⟨f-1,by omega⟩;rw[HST.o]at hstr;obtain⟨c0,c1,-,-,-,c5,-,-,df⟩:=hd.cells;have df1:=df 1;have HD:Hd (Dd _ R s L O now de k 0 0):=hd;have fG:Hd (Ds _ R s L O now de (.ok k)):=⟨hk,hd⟩;have HM:Hd (dM _ R s=s.size-k+1):=uU hd;have jL:Hd (∀w,Ds w R s L O now de (.ok k)->Calls prog 52 #[.pointer (some ⟨R,0,none⟩),.int .u8 34] w fun e w'=>e=.returned (.bool (decide (nx s.data.toList k=34)))/\w.grownBy w' none):=fun w h=>CI.o (.ok k) w h
   have CF:=ae (fun wx (hg:Dd wx R s L O now de k 0 0)=>qg R s L O now de k 2 k wx hg);have rC:=ae (bP.o k);have xe:=ae (uQ.o k);have HXB:=ae ((Gv s.data.toList k).1);have Dn:=ae (HX.o k);have pz:Hd (nx s.data.toList k=34->(Except.bind (.ok k) fun i=>must s.data.toList i 34:Rs Nat)=.ok (k+1)):=fun h=>by
    show must s.data.toList k 34=_;unfold must;rw[if_pos h]
   obtain⟨x,hx⟩:=zN (nx s.data.toList k);rw[hx]at jL rC xe HXB Dn pz hstr;have uV:Hd ((if x=34 then .ok (acc,k+1)
    else if x=92 then(match esc s.data.toList k with | .error e=>.error e | .ok (b,j)=>str s.data.toList f j (acc++b))
    else if x=-1\/ji x=true then .error (2,k)
    else if aJ s.data.toList k=0 then .error (2,k)
    else str s.data.toList f (k+aJ s.data.toList k) (acc++aj s.data.toList k (aJ s.data.toList k)))=G):=hstr
   clear hd hx hstr hok df
   by_cases h34:x=34
   ·rw[decide_eq_true h34]at jL;have aC:Hd (G=.ok (acc,k+1)):=by
     have:=uV.o;rw[if_pos h34]at this;exact this.symm
    have Vl:=pz.o h34;have mM:=ae Vl;clear h34 Vl;go_wp2_with (first|(go_at_call 52;refine(jL.o _ fG.o).mono ?_;rintro e w2 ⟨rfl,hg2⟩)|(go_at_call 56;refine(CM.o _ _ (fG.o.grow hg2)).mono ?_;rintro e w3 ⟨rfl,hd3,hg3⟩));refine bodyPost_ret (results_tmp (t:=2) rfl _ _ _) rfl ?_;rw[aC.o];rw[mM.o]at hd3;exact⟨fun t k hh=>(by cases hh;exact⟨rfl,hd3⟩),fun c p hh=>(by cases hh),dK (aG HG.o hg2) hg3⟩
   ·rw[decide_eq_false h34]at jL;go_wp2_with (go_at_call 52;refine(jL.o _ fG.o).mono ?_;rintro e w2 ⟨rfl,hg2⟩);have HD2:=ae (HD.o.grow hg2);have HG2:=ae (aG HG.o hg2);obtain⟨e0,e1,-,-,-,e5,-,-,ef⟩:=HD2.o.cells;have ef1:=ef 1;clear hg2 ef c0 c1 c5 df1
    by_cases hm1:x=-1
    ·have hge:=xe.o hm1;have hgd:decide ((s.size:Int)<=(k:Int))=true:=by simp;omega
     have aC:Hd (G=.error (2,k)):=by
      have:=uV.o;rw[if_neg h34,if_neg (by omega),if_pos (Or.inl hm1)]at this;exact this.symm
     clear h34 hm1;go_quiet (fail);go_wp2_with (go_at_call 82;refine(CF.o _ ?_).mono ?_;exact HD2.o;rintro e w3 ⟨rfl,hd3,hg3⟩);refine bodyPost_ret (results_tmp (t:=2) rfl _ _ _) rfl ?_;rw[aC.o];exact⟨fun t k hh=>(by cases hh),fun c p hh=>(by cases hh;exact⟨⟨[],by simp,rfl⟩,by decide,k,hk,hd3⟩),dK (w1:=w2) HG2.o ⟨hg3.os,hg3.tape,hg3.output,hg3.size,hg3.block⟩⟩
    ·have hkl:=rC.o (by have:=HXB.o;omega);have hgd:decide ((s.size:Int)<=(k:Int))=false:=by simp;omega
     have nX:¬(s.size:Int)<=(k:Int):=by omega
     have gm:=ae (Dn.o hkl);have CC:Hd (∀w,Calls prog 84 #[.int .u8 (s[k].toNat:Int)] w fun e w'=>e=.returned (.bool (ji x))/\w'=w):=fun w=>by rw[gm.o];exact SB s[k] w
     obtain⟨bb,hbb⟩:=zN (ji x);have DZ:=ae hbb;rw[hbb]at CC;clear hbb
     cases bb with
     | true =>
      have aC:Hd (G=.error (2,k)):=by
       have:=uV.o;rw[if_neg h34,if_neg (fun e=>by have:=DZ.o;rw[e]at this;cases this),if_pos (Or.inr DZ.o)]at this;exact this.symm
      clear h34 hm1;go_quiet (first|(go_at_call 84;exact Calls.quiet_of_same (CC.o _)));go_wp2_with (go_at_call 82;refine(CF.o _ ?_).mono ?_;exact HD2.o;rintro e w3 ⟨rfl,hd3,hg3⟩);refine bodyPost_ret (results_tmp (t:=2) rfl _ _ _) rfl ?_;rw[aC.o];exact⟨fun t k hh=>(by cases hh),fun c p hh=>(by cases hh;exact⟨⟨[],by simp,rfl⟩,by decide,k,hk,hd3⟩),dK (w1:=w2) HG2.o ⟨hg3.os,hg3.tape,hg3.output,hg3.size,hg3.block⟩⟩
     | false =>
      go_quiet (first|(go_at_call 84;exact Calls.quiet_of_same (CC.o _)));have HD3:Hd (Dd (w2.drewN nq) R s L O now de k 0 0):=HD2.o;have aK:=ae (ay HG2.o nq);obtain⟨w3,hw3⟩:=zN (w2.drewN nq);rw[hw3]at HD3 aK ⊢;obtain⟨f0,f1,-,-,-,f5,-,-,ff⟩:=HD3.o.cells;have ff1:=ff 1;clear hw3 ff e0 e1 e5 ef1
      by_cases h92:x=92
      ·have adc:((s[k].toNat:Int) == 92)=true:=by rw[<-gm.o,h92];rfl
       have az:Hd ((match esc s.data.toList k with | .error e=>.error e | .ok (b,j)=>str s.data.toList f j (acc++b))=G):=by
        have:=uV.o;rw[if_neg h34,if_pos h92]at this;exact this
       have tJ:=ae (fun w (h:Dd w R s L O now de k 0 0)=>CE.o k w h hkl);have jC:=ae (fun b j (h:esc s.data.toList k=.ok (b,j))=>LM.o k b j hkl h);obtain⟨q,hq⟩:=zN (esc s.data.toList k);rw[hq]at az tJ jC;clear h34 h92 hm1 hq;go_wp2;go_quiet (fail);go_wp2_with (go_at_call 160;refine(tJ.o _ ?_).mono ?_;exact HD3.o);rintro e w4 ⟨h1,h2,hg4⟩;have eX:=ae (dK (w1:=w3) aK.o ⟨hg4.os,hg4.tape,hg4.output,hg4.size,hg4.block⟩);clear hg4
       match q,h1,h2,az,jC with
       | .error (c,p),_,h2,az,_ =>
        obtain⟨⟨t,ht,rfl⟩,hd4⟩:=h2 c p rfl;have HD4:=ae hd4;have aC:Hd (G=.error (c,p)):=az.o.symm;have ka:=fun wx=>LY acc t wx (by omega)
        have HT:Hd ((acc++t).length<=3*s.size+3):=by
         show _<=_;rw[List.length_append];omega
        clear h2 hd4;go_wp2;refine⟨⟨.error (c,p),f,acc++t,rfl,HD4.o,fun k hk=>(by cases hk),fun c p hk=>(by cases hk;exact⟨aC.o,HT.o⟩),eX.o⟩,?_⟩;obtain⟨hc,j,hj,hd⟩:=HD4.o;rw[HM.o,GM hd hc];omega
       | .ok (b,j),h1,_,az,jC =>
        obtain⟨rfl,hd4⟩:=h1 b j rfl;obtain⟨hb3,hj1,hj2⟩:=jC.o b j rfl;have HD4:=ae hd4;have aC:Hd (str s.data.toList f j (acc++b)=G):=az.o;have ka:=fun wx=>LY acc b wx (by omega)
        have HT:Hd ((acc++b).length<=3*j):=by
         show _<=_;rw[List.length_append];omega
        clear h1 hd4;go_wp2;refine⟨⟨.ok j,f,acc++b,rfl,HD4.o,fun k hk=>(by cases hk;exact⟨by omega,aC.o,HT.o⟩),fun c p hk=>(by cases hk),eX.o⟩,?_⟩;rw[HM.o,uU HD4.o.2];omega
      ·have adc:((s[k].toNat:Int) == 92)=false:=by rw[<-gm.o];simpa using h92
       have rD:Hd ((if aJ s.data.toList k=0 then .error (2,k) else str s.data.toList f (k+aJ s.data.toList k) (acc++aj s.data.toList k (aJ s.data.toList k)))=G):=by
        have:=uV.o;rw[if_neg h34,if_neg h92,if_neg (by rintro(h|h);exact hm1 h;rw[DZ.o]at h;cases h)]at this;exact this
       have Vm:=ae (fun w=>CSq.o k w hkl);have hso:=LP.o k hk;have Ik:=ae (iJ.o k);obtain⟨n,hn⟩:=zN (aJ s.data.toList k);rw[hn]at rD Vm hso Ik;clear h34 h92 hm1 hn;go_wp2;go_quiet (fail);have HD4:Hd (Dd (w3.drewN nq) R s L O now de k 0 0):=HD3.o;have eX:=ae (ay aK.o nq);obtain⟨w4,hw4⟩:=zN (w3.drewN nq);rw[hw4]at HD4 eX ⊢;obtain⟨g0,g1,-,-,-,g5,-,-,gg⟩:=HD4.o.cells;have gg1:=gg 1;clear hw4 gg f0 f1 f5 ff1;go_wp2;go_quiet (first|(go_at_call 161;exact Calls.quiet_of_same (Vm.o _)));have HD5:Hd (Dd (w4.drewN nq) R s L O now de k 0 0):=HD4.o;have iK:=ae (ay eX.o nq);obtain⟨w5,hw5⟩:=zN (w4.drewN nq);rw[hw5]at HD5 iK ⊢;obtain⟨k0,k1,-,-,-,k5,-,-,kf⟩:=HD5.o.cells;have kf1:=kf 1;clear hw5 kf g0 g1 g5 gg1
       by_cases hn0:n=0
       ·have hz:((n:Int) == 0)=true:=by simp[hn0]
        have aC:Hd (G=.error (2,k)):=by
         have:=rD.o;rw[if_pos hn0]at this;exact this.symm
        clear hn0;go_wp2_with (go_at_call 82;refine(CF.o _ HD5.o).mono ?_;rintro e w6 ⟨rfl,hd6,eY⟩);refine bodyPost_ret (results_tmp (t:=2) rfl _ _ _) rfl ?_;rw[aC.o];exact⟨fun t k hh=>(by cases hh),fun c p hh=>(by cases hh;exact⟨⟨[],by simp,rfl⟩,by decide,k,hk,hd6⟩),dK iK.o eY⟩
       ·have hz:((n:Int) == 0)=false:=by rw[beq_eq_false_iff_ne];omega
        have aC:Hd (str s.data.toList f (k+n) (acc++aj s.data.toList k n)=G):=by
         have:=rD.o;rw[if_neg hn0]at this;exact this
        obtain⟨X,hX⟩:∃X:List UInt8,aj s.data.toList k n=X:=⟨_,rfl⟩;have hwr:IntKind.i64.wrap ((k:Int)+(n:Int))=(k:Int)+(n:Int):=by rw[IntKind.wrap_i64];omega
        have sl:∀wx,(Instr.slice 9 (.string s) (some (.int .i64 (k:Int))) (some (.int .i64 ((k:Int)+(n:Int)))) none).run prog wx=.ok (.string ⟨X.toArray⟩) wx:=fun wx=>by
         rw[<-hX];have:=lM s k (k+n) (by omega) hso wx;rw[show k+n-k=n by omega,show((k+n:Nat):Int)=(k:Int)+(n:Int) by omega]at this;exact this
        rw[hX]at aC Ik;have ka:=fun wx=>LY acc X wx (by have:=Ik.o;omega)
        have HT:Hd ((acc++X).length<=3*(k+n)):=by
         show _<=_;rw[List.length_append];have:=Ik.o;omega
        clear hX;go_wp2;go_quiet (fail);have HD6:Hd (Dd (w5.drewN nq) R s L O now de k 0 0):=HD5.o;have mD:=ae (ay iK.o nq);obtain⟨w6,hw6⟩:=zN (w5.drewN nq);rw[hw6]at HD6 mD ⊢;obtain⟨m0,m1,-,-,-,m5,-,-,mf⟩:=HD6.o.cells;have mf1:=mf 1;clear hw6 mf k0 k1 k5 kf1;have HD7:Hd (Dd (w6.setCell ⟨R,1,none⟩ (.int .i64 ((k:Int)+(n:Int)))) R s L O now de (k+n) 0 0):=HD6.o.setI (k+n);go_wp2;refine⟨⟨.ok (k+n),f,acc++X,rfl,⟨hso,HD7.o⟩,fun k hk=>(by cases hk;exact⟨by omega,aC.o,HT.o⟩),fun c p hk=>(by cases hk),aS mD.o 1 _⟩,?_⟩;rw[HM.o,uU HD7.o];omega
open Go.RowKit Go.Joins
def Vo(i M R:Nat)(s:ByteArray)(L O:Value)(now de:Nat)(g:Rs (List UInt8 × Nat))(w:World)(e:Ending)(w':World):Prop:=(∀t j,g=.ok (t,j)->e=.returned (.tuple #[.string ⟨t.toArray⟩,.int .i64 (i:Nat)])/\Ds w' R s L O now de (.ok j))/\(∀c p,g=.error (c,p)->(∃t:List UInt8,t.length<=M/\e=.returned (.tuple #[.string ⟨t.toArray⟩,.int .i64 (i:Nat)]))/\Ds w' R s L O now de (.error (c,p)))/\w.grownBy w' (some R)
theorem ade(l:List UInt8)(i:Nat)(h:nx l i=34):dm l i=str l (l.length+1) (i+1) []:=by unfold dm;rw[if_pos h]
theorem adf(l:List UInt8)(i:Nat)(h:¬nx l i=34):dm l i=if toR bg l i=i then .error (2,i) else .ok (aj l i (toR bg l i-i),toR bg l i):=by unfold dm;rw[if_neg h]
theorem Vp(R:Nat)(s:ByteArray)(L O:Value)(now de i:Nat)(w:World)(h:Dd w R s L O now de i 0 0)(hi:i<=s.size)(hs:s.size<=1048576) :
  Calls prog 79 #[.pointer (some ⟨R,0,none⟩)] w (Vo i (4*s.size+4) R s L O now de (dm s.data.toList i) w):=by
 have hl:s.data.toList.length=s.size:=by simp
 have CI:Hd (Calls prog 52 #[.pointer (some ⟨R,0,none⟩),.int .u8 34] w fun e w'=>e=.returned (.bool (decide (nx s.data.toList i=34)))/\w.grownBy w' none):=tH R s L O now de (.ok i) 34 (by decide) w ⟨hi,h⟩ hs;have HD:=ae h
 by_cases h34:nx s.data.toList i=34
 ·have HK:=ae (ade _ _ h34);have hlt:i<s.size:=by rw[<-hl];exact aY (by omega)
  rw[decide_eq_true h34]at CI;have CQ:=ae (fun w (h:Dd w R s L O now de i 0 0)=>Vj R s L O now de i w h hlt h34 hs);rw[HK.o];obtain⟨G,hG⟩:=zN (str s.data.toList (s.data.toList.length+1) (i+1) []);rw[hG]at CQ ⊢;obtain⟨c0,c1,-⟩:=h.cells;clear h h34 hG HK;go_enter func79,ntmps79;go_wp2_with (first|(go_at_call 52;refine CI.o.mono ?_;rintro e w1 ⟨rfl,hg1⟩)|(go_at_call 119;refine(CQ.o _ (HD.o.grow hg1)).mono ?_));rintro e w2 ⟨h1,h2,hg2⟩;have HG2:=ae (dK (aG (au w (some R)) hg1) hg2);clear hg1 hg2
  match G,h1,h2 with
  | .error (c,p),_,h2 =>
   obtain⟨⟨t,ht,rfl⟩,hd⟩:=h2 c p rfl;have fK:=ae hd;have HT:=ae ht;clear h2 hd ht;go_wp2;refine bodyPost_ret (results_tmp2 (t:=2) (u:=3) rfl _ _ _) rfl ?_;exact⟨fun t k hh=>(by cases hh),fun c' p' hh=>(by injection hh with hh;injection hh with e1 e2;subst e1 e2;exact⟨⟨t,HT.o,rfl⟩,fK.o⟩),HG2.o⟩
  | .ok (t,j),h1,_ =>
   obtain⟨rfl,hd⟩:=h1 t j rfl;have fK:=ae hd;clear h1 hd;go_wp2;refine bodyPost_ret (results_tmp2 (t:=2) (u:=3) rfl _ _ _) rfl ?_;exact⟨fun t' k' hh=>(by injection hh with hh;injection hh with e1 e2;subst e1 e2;exact⟨rfl,fK.o⟩),fun c' p' hh=>(by cases hh),HG2.o⟩
 ·have HK:=ae (adf _ _ h34);rw[decide_eq_false h34]at CI;rw[HK.o];have HX:Hd (∀k (hk:k<s.size),nx s.data.toList k=(s[k].toNat:Int)):=byte_at s;have HST:Hd (∀k (hk:k<s.size),bg (s[k].toNat:Int)=true->toR bg s.data.toList k=toR bg s.data.toList (k+1)):=fun k hk hb=>qV bg _ k (by omega) (by rw[byte_at s k hk];exact hb)
  have kY:=ae (fun k (hk:k<s.size) (hb:bg (s[k].toNat:Int)=false)=>kX bg _ k (by rw[byte_at s k hk];exact hb));have qX:Hd (∀k,s.size<=k->toR bg s.data.toList k=k):=fun k hk=>Cb bg _ k (by omega)
  obtain⟨J,hJ⟩:=zN (toR bg s.data.toList i);have HJ:=ae hJ;have hJ1:=pY bg s.data.toList i (by omega);rw[hJ,hl]at hJ1;rw[hJ];obtain⟨G,hG⟩:∃G:Rs (List UInt8 × Nat),(if J=i then .error (2,i) else .ok (aj s.data.toList i (J-i),J))=G:=⟨_,rfl⟩;have vF:=ae hG;rw[hG];obtain⟨c0,c1,-⟩:=h.cells;clear h h34 hG HK hJ;go_enter func79,ntmps79;go_wp2_with (go_at_call 52;refine CI.o.mono ?_;rintro e w1 ⟨rfl,hg1⟩);have HD1:=ae (HD.o.grow hg1);have ax:=ae (aG (au w (some R)) hg1);clear hg1 c0 c1;go_loopw [] (fun wr=>∃k:Nat,Dd wr R s L O now de k 0 0/\i<=k/\k<=s.size/\toR bg s.data.toList k=J/\w.grownBy wr (some R)) (fun wr=>s.size-dI wr R)
  case atStart=>exact⟨i,HD1.o,by omega,hi,HJ.o,ax.o⟩
  case round =>
   obtain⟨k,hd,hik,hk,hto,hg⟩:=hrel;have HDK:=ae hd;have ku:=ae hg;have ig:=ae (wR hd);have mZ:=ae hto;obtain⟨c0,c1,-,-,-,c5,-,-,df⟩:=hd.cells;have df1:=df 1;clear hd hg hto df
   by_cases hlt:k<s.size
   ·have hlt':decide ((k:Int)<(s.size:Int))=true:=by simp;omega
    have CB:=ae (abq s[k]);have H1:=ae (HST.o k hlt);have H2:=ae (kY.o k hlt);obtain⟨b,hb⟩:=zN (bg (s[k].toNat:Int));rw[hb]at CB H1 H2;clear hb
    cases b with
    | true =>
     have HN:=ae ((H1.o rfl).symm.trans mZ.o);go_wp2;go_quiet (first|(go_at_call 120;exact Calls.quiet_of_same (CB.o _)));have aF:Hd (Dd (wr.drewN nq) R s L O now de k 0 0):=HDK.o;have dW:=ae (ay ku.o nq);obtain⟨wA,hwA⟩:=zN (wr.drewN nq);rw[hwA]at aF dW ⊢;obtain⟨d0,d1,-,-,-,d5,-,-,dg⟩:=aF.o.cells;have dg1:=dg 1;have HS:=aF.o.setI (k+1);have jr:Hd (Dd (wA.setCell ⟨R,1,none⟩ (.int .i64 ((k:Int)+1))) R s L O now de (k+1) 0 0):=HS;clear hwA dg HS;go_wp2;refine⟨⟨k+1,jr.o,by omega,by omega,HN.o,aS dW.o 1 _⟩,?_⟩;rw[ig.o,wR jr.o];omega
    | false =>
     have D5:=ae (mZ.o.symm.trans (H2.o rfl));go_wp2;go_quiet (first|(go_at_call 120;exact Calls.quiet_of_same (CB.o _)));have aF:Hd (Dd (wr.drewN nq) R s L O now de k 0 0):=HDK.o;have dW:=ae (ay ku.o nq);obtain⟨wA,hwA⟩:=zN (wr.drewN nq);rw[hwA]at aF dW ⊢;obtain⟨d0,d1,-,-,-,d5,-,-,dg⟩:=aF.o.cells;clear hwA dg
     by_cases hki:k=i
     ·have hb:((k:Int) == (i:Int))=true:=by simp[hki]
      have aC:Hd (G=.error (2,i)):=by
       have:=vF.o;rw[if_pos (D5.o.trans hki)]at this;exact this.symm
      have CF:=ae (fun wx (hg:Dd wx R s L O now de k 0 0)=>qg R s L O now de k 2 i wx hg);have adg:=hik;have sl:=fun wx=>lM s i k hik hk wx
      have iJ:Hd ((aj s.data.toList i (k-i)).length<=4*s.size+4):=by
       show _<=_;unfold aj;rw[List.length_take];omega
      obtain⟨X,hX⟩:=zN (aj s.data.toList i (k-i));rw[hX]at sl iJ;clear hki hX;go_wp2_with (go_at_call 82;refine(CF.o _ aF.o).mono ?_;rintro e w2 ⟨rfl,hd2,hg2⟩;obtain⟨e0,e1,-⟩:=hd2.cells);go_quiet (fail);go_wp2;refine bodyPost_ret (results_tmp2 (t:=2) (u:=3) rfl _ _ _) rfl ?_;rw[aC.o];exact⟨fun t k hh=>(by cases hh),fun c p hh=>(by cases hh;exact⟨⟨X,iJ.o,rfl⟩,by decide,k,hk,hd2⟩),ay (dK dW.o hg2) _⟩
     ·have hb:((k:Int) == (i:Int))=false:=by rw[beq_eq_false_iff_ne];omega
      have aC:Hd (G=.ok (aj s.data.toList i (k-i),k)):=by
       have:=vF.o;rw[D5.o,if_neg hki]at this;exact this.symm
      have sl:=fun wx=>lM s i k hik hk wx
      obtain⟨X,hX⟩:=zN (aj s.data.toList i (k-i));rw[hX]at sl aC;clear hki hX;go_wp2;go_quiet (fail);go_wp2;refine bodyPost_ret (results_tmp2 (t:=2) (u:=3) rfl _ _ _) rfl ?_;rw[aC.o];exact⟨fun t j hh=>(by cases hh;exact⟨rfl,hk,aF.o⟩),fun c p hh=>(by cases hh),ay dW.o _⟩
   ·have hge:decide ((k:Int)<(s.size:Int))=false:=by simp;omega
    have D5:=ae (mZ.o.symm.trans (qX.o k (by omega)));go_wp2;go_quiet (fail);have aF:Hd (Dd (wr.drewN nq) R s L O now de k 0 0):=HDK.o;have dW:=ae (ay ku.o nq);obtain⟨wA,hwA⟩:=zN (wr.drewN nq);rw[hwA]at aF dW ⊢;obtain⟨d0,d1,-,-,-,d5,-,-,dg⟩:=aF.o.cells;clear hwA dg
    by_cases hki:k=i
    ·have hb:((k:Int) == (i:Int))=true:=by simp[hki]
     have aC:Hd (G=.error (2,i)):=by
      have:=vF.o;rw[if_pos (D5.o.trans hki)]at this;exact this.symm
     have CF:=ae (fun wx (hg:Dd wx R s L O now de k 0 0)=>qg R s L O now de k 2 i wx hg);have adg:=hik;have sl:=fun wx=>lM s i k hik hk wx
     have iJ:Hd ((aj s.data.toList i (k-i)).length<=4*s.size+4):=by
      show _<=_;unfold aj;rw[List.length_take];omega
     obtain⟨X,hX⟩:=zN (aj s.data.toList i (k-i));rw[hX]at sl iJ;clear hki hX;go_wp2_with (go_at_call 82;refine(CF.o _ aF.o).mono ?_;rintro e w2 ⟨rfl,hd2,hg2⟩;obtain⟨e0,e1,-⟩:=hd2.cells);go_quiet (fail);go_wp2;refine bodyPost_ret (results_tmp2 (t:=2) (u:=3) rfl _ _ _) rfl ?_;rw[aC.o];exact⟨fun t k hh=>(by cases hh),fun c p hh=>(by cases hh;exact⟨⟨X,iJ.o,rfl⟩,by decide,k,hk,hd2⟩),ay (dK dW.o hg2) _⟩
    ·have hb:((k:Int) == (i:Int))=false:=by rw[beq_eq_false_iff_ne];omega
     have aC:Hd (G=.ok (aj s.data.toList i (k-i),k)):=by
      have:=vF.o;rw[D5.o,if_neg hki]at this;exact this.symm
     have sl:=fun wx=>lM s i k hik hk wx
     obtain⟨X,hX⟩:=zN (aj s.data.toList i (k-i));rw[hX]at sl aC;clear hki hX;go_wp2;go_quiet (fail);go_wp2;refine bodyPost_ret (results_tmp2 (t:=2) (u:=3) rfl _ _ _) rfl ?_;rw[aC.o];exact⟨fun t j hh=>(by cases hh;exact⟨rfl,hk,aF.o⟩),fun c p hh=>(by cases hh),ay dW.o _⟩
open Go.RowKit Go.Joins
def adh(R:Nat)(s:ByteArray)(L O:Value)(now de:Nat)(g:Rs (Int × Nat))(w:World)(e:Ending)(w':World):Prop:=(∀n j,g=.ok (n,j)->e=.returned (.int .i64 n)/\Ds w' R s L O now de (.ok j))/\(∀c p,g=.error (c,p)->(∃n:Int,e=.returned (.int .i64 n))/\Ds w' R s L O now de (.error (c,p)))/\w.grownBy w' (some R)
def Nq(l:List UInt8)(i a:Nat)(m:Bool):Rs (Int × Nat) :=
 if toR aA l a=a\/(1<toR aA l a-a/\nx l a=48) then .error (2,a)
 else if 18<toR aA l a-a then .error (3,i)
 else .ok (if m=true then -(ja (aj l a (toR aA l a-a)) 0:Int) else(ja (aj l a (toR aA l a-a)) 0:Int),toR aA l a)
theorem adi(l:List UInt8)(i:Nat):jc l i=Nq l i (if aA (nx l i)=true then i else i+1) (decide (nx l i=45)):=by
 unfold jc Nq
 by_cases h:nx l i=45
 ·rw[decide_eq_true h];simp only[if_pos h,if_true]
 ·rw[decide_eq_false h];simp[if_neg h]
theorem Vq(l:List UInt8)(a k:Nat)(ha:a<=k)(hk:k<l.length):aj l a (k+1-a)=aj l a (k-a)++[l[k]]:=by
 unfold aj;rw[show k+1-a=(k-a)+1 by omega,List.take_add_one,List.getElem?_drop,show a+(k-a)=k by omega,List.getElem?_eq_getElem hk];rfl
theorem adk(l:List UInt8)(a k:Nat)(h:∀c∈aj l a (k-a),c.toNat<=57)(ha:a<=k)(hk:k<l.length)(hd:l[k].toNat<=57):∀c∈aj l a (k+1-a),c.toNat<=57:=by
 rw[Vq l a k ha hk];intro c hc
 rcases List.mem_append.1 hc with h1|h1
 ·exact h c h1
 ·rw[List.mem_singleton.1 h1];exact hd
theorem adl(l:List UInt8)(a k n:Nat)(h:jB (aj l a (k-a)) 0=n)(ha:a<=k)(hk:k<l.length):jB (aj l a (k+1-a)) 0=if n<=99999999999999999 then 10*n+(l[k].toNat - 48) else 1000000000000000000:=by
 rw[Vq l a k ha hk,SX,h];rfl
theorem Nr(l:List UInt8)(a k:Nat)(ha:a<=k)(hk:k<=l.length):(aj l a (k-a)).length=k-a:=by
 unfold aj;rw[List.length_take,List.length_drop];omega
theorem Vr(l:List UInt8)(a k:Nat)(h:∀c∈aj l a (k-a),c.toNat<=57)(ha:a<=k)(hk:k<=l.length)(h18:k-a<=18):jB (aj l a (k-a)) 0=ja (aj l a (k-a)) 0/\ja (aj l a (k-a)) 0<=999999999999999999:=by
 have:=SS (aj l a (k-a)) 0 0 h (by decide) (by rw[Nr l a k ha hk];omega);refine⟨this.1,?_⟩;have h2:=this.2;have h3:(10:Nat) ^ (0+(aj l a (k-a)).length)<=10 ^ 18:=Nat.pow_le_pow_right (by omega) (by rw[Nr l a k ha hk];omega);have e:(10:Nat) ^ 18=1000000000000000000:=by decide
 omega
theorem adm(l:List UInt8)(a k:Nat)(h:∀c∈aj l a (k-a),c.toNat<=57)(ha:a<=k)(hk:k<=l.length)(h18:18<k-a)(h49:49<=nx l a):jB (aj l a (k-a)) 0=1000000000000000000:=by
 have hal:a<l.length:=by omega
 have e:aj l a (k-a)=l[a] :: aj l (a+1) (k-(a+1)):=by
  unfold aj;rw[List.drop_eq_getElem_cons hal,show k-a=(k-(a+1))+1 by omega,List.take_succ_cons]
 rw[pX l a hal]at h49;have hlen:=Nr l (a+1) k (by omega) hk;rw[e]at h ⊢;have hc:=h l[a] (by simp);show jB (aj l (a+1) (k-(a+1))) (if 0<=99999999999999999 then 10*0+(l[a].toNat - 48) else 1000000000000000000)=_;rw[if_pos (by omega)];exact SV _ _ 0 (fun c hc=>h c (by simp[hc])) (by show 1<=_;omega) (by omega) (by omega)
theorem adn(l:List UInt8)(a:Nat)(h:¬toR aA l a=a):48<=nx l a/\nx l a<=57:=by
 apply Classical.byContradiction;intro hn;exact h (kX aA l a (by unfold aA;exact decide_eq_false hn))
open Go.RowKit Go.Joins
theorem ado(R:Nat)(s:ByteArray)(L O:Value)(now de i:Nat)(w:World)(h:Dd w R s L O now de i 0 0)(hi:i<s.size)(hs:s.size<=1048576)(hx:nx s.data.toList i=43\/nx s.data.toList i=45\/aA (nx s.data.toList i)=true) :
  Calls prog 123 #[.pointer (some ⟨R,0,none⟩)] w (adh R s L O now de (jc s.data.toList i) w):=by
 rw[adi];have hl:s.data.toList.length=s.size:=by simp
 have CI:Hd (∀c w,0<=c->Ds w R s L O now de (.ok i)->Calls prog 52 #[.pointer (some ⟨R,0,none⟩),.int .u8 c] w fun e w'=>e=.returned (.bool (decide (nx s.data.toList i=c)))/\w.grownBy w' none):=fun c w h0 h1=>tH R s L O now de (.ok i) c h0 w h1 hs
 obtain⟨m,hm⟩:=zN (decide (nx s.data.toList i=45));obtain⟨m2,hm2⟩:=zN (decide (nx s.data.toList i=43));obtain⟨a,ha⟩:=zN ((if aA (nx s.data.toList i)=true then i else i+1));have oD:Hd ((m=true/\i+1=a)\/(m=false/\m2=true/\i+1=a)\/(m=false/\m2=false/\i=a)):=by
  by_cases h45:nx s.data.toList i=45
  ·exact Or.inl ⟨by rw[<-hm];exact decide_eq_true h45,by rw[<-ha,if_neg (by rw[h45];decide)]⟩
  ·by_cases h43:nx s.data.toList i=43
   ·exact Or.inr (Or.inl ⟨by rw[<-hm];exact decide_eq_false h45,by rw[<-hm2];exact decide_eq_true h43,by rw[<-ha,if_neg (by rw[h43];decide)]⟩)
   ·exact Or.inr (Or.inr ⟨by rw[<-hm];exact decide_eq_false h45,by rw[<-hm2];exact decide_eq_false h43,by rw[<-ha,if_pos (by rcases hx with h|h|h;exact(h43 h).elim;exact(h45 h).elim;exact h)]⟩)
 have adp:=ae (fun w (h:Ds w R s L O now de (.ok i))=>hm ▸ CI.o 45 w (by decide) h);have Vs:=ae (fun w (h:Ds w R s L O now de (.ok i))=>hm2 ▸ CI.o 43 w (by decide) h);have HD:=ae h;have hai:a<=s.size:=by have:=oD.o;omega
 have hai1:a<=i+1:=by have:=oD.o;omega
 obtain⟨p,hp⟩:=zN (i);rw[ha,hm];obtain⟨sg,hsg⟩:∃sg:Nat->Int,(fun n:Nat=>if m=true then -(n:Int) else(n:Int))=sg:=⟨_,rfl⟩;have Hq:Hd (∀n:Nat,(if m=true then -(n:Int) else(n:Int))=sg n):=fun n=>by rw[<-hsg]
 obtain⟨G,hG⟩:=zN (Nq s.data.toList i a m);rw[hG];have jl:Hd ((if toR aA s.data.toList a=a\/(1<toR aA s.data.toList a-a/\nx s.data.toList a=48) then .error (2,a)
  else if 18<toR aA s.data.toList a-a then .error (3,p)
  else .ok (sg (ja (aj s.data.toList a (toR aA s.data.toList a-a)) 0),toR aA s.data.toList a))=G):=by rw[<-hsg,<-hp];exact hG
 obtain⟨c0,c1,-,-,-,c5,-,-,df⟩:=h.cells;have df1:=df 1;rw[hp]at c1;have HST:Hd (∀k (hk:k<s.size),aA (s[k].toNat:Int)=true->toR aA s.data.toList k=toR aA s.data.toList (k+1)):=fun k hk hb=>qV aA _ k (by omega) (by rw[byte_at s k hk];exact hb)
 have kY:=ae (fun k (hk:k<s.size) (hb:aA (s[k].toNat:Int)=false)=>kX aA _ k (by rw[byte_at s k hk];exact hb));have qX:Hd (∀k,s.size<=k->toR aA s.data.toList k=k):=fun k hk=>Cb aA _ k (by omega)
 have jr:Hd (∀k n,jB (aj s.data.toList a (k-a)) 0=n->a<=k->(hk:k<s.size)->jB (aj s.data.toList a (k+1-a)) 0=if n<=99999999999999999 then 10*n+(s[k].toNat - 48) else 1000000000000000000):=fun k n h1 h2 h3=>adl s.data.toList a k n h1 h2 (by omega)
 have fG:Hd (∀k,(∀c∈aj s.data.toList a (k-a),c.toNat<=57)->a<=k->(hk:k<s.size)->s[k].toNat<=57->∀c∈aj s.data.toList a (k+1-a),c.toNat<=57):=fun k h1 h2 h3 h4=>adk s.data.toList a k h1 h2 (by omega) h4
 have D6:=ae (fun k (h1:(∀c∈aj s.data.toList a (k-a),c.toNat<=57)) (h2:a<=k) (h3:k<=s.size) (h4:k-a<=18)=>Vr s.data.toList a k h1 h2 (by omega) h4);have HHI:=ae (fun k (h1:(∀c∈aj s.data.toList a (k-a),c.toNat<=57)) (h2:a<=k) (h3:k<=s.size) (h4:18<k-a) (h5:49<=nx s.data.toList a)=>adm s.data.toList a k h1 h2 (by omega) h4 h5);have gq:=ae (adn s.data.toList a);have HXB:Hd (∀k (hk:k<s.size),nx s.data.toList k=(s[k].toNat:Int)):=byte_at s;have Vt:Hd (Ds w R s L O now de (.ok i)):=⟨by omega,h⟩;clear h hG ha hm hm2 df hx hsg hp;go_enter func123,ntmps123;go_wp2_with (go_at_call 52;refine(adp.o _ Vt.o).mono ?_)
 first|rintro e w1 rfl hg1|rintro e w1 ⟨rfl,hg1⟩
 have ax:=ae hg1;clear hg1;have Vu:=ae (Vt.o.grow ax.o)
 rcases oD.o with q1|q2|q3
 all_goals (
  clear oD
  first
   | (obtain⟨rfl,ha⟩:=q1
      have HG2:=ae ax.o;obtain⟨w2,hw2⟩:=zN (w1);rw[hw2]at HG2 ⊢;clear hw2)
   | (obtain⟨rfl,rfl,ha⟩:=q2
      go_wp2_with (go_at_call 52;refine(Vs.o _ Vu.o).mono ?_)
      first|rintro e w2 rfl hg2|rintro e w2 ⟨rfl,hg2⟩
      have HG2:=ae (ai ax.o hg2);clear hg2)
   | (obtain⟨rfl,rfl,ha⟩:=q3
      go_wp2_with (go_at_call 52;refine(Vs.o _ Vu.o).mono ?_)
      first|rintro e w2 rfl hg2|rintro e w2 ⟨rfl,hg2⟩
      have HG2:=ae (ai ax.o hg2);clear hg2)
  obtain⟨e0,e1,-,-,-,e5,-,-,ef⟩:=(HD.o.grow HG2.o).cells;have ef1:=ef 1;clear ef;go_wp2
  first
   | (have ha':a=i:=ha.symm
      subst ha';have aF:=ae (HD.o.grow HG2.o);have dW:=ae (aG (au w (some R)) HG2.o);obtain⟨wA,hwA⟩:=zN w2;rw[hwA]at aF dW ⊢;clear hwA)
   | (have aF:Hd (Dd (w2.setCell ⟨R,1,none⟩ (.int .i64 ((i:Int)+1))) R s L O now de (i+1) 0 0):=(HD.o.grow HG2.o).setI (i+1)
      have dW:Hd (w.grownBy (w2.setCell ⟨R,1,none⟩ (.int .i64 ((i:Int)+1))) (some R)):=aS (aG (au w (some R)) HG2.o) 1 _;obtain⟨wA,hwA⟩:=zN (w2.setCell ⟨R,1,none⟩ (.int .i64 ((i:Int)+1)));rw[hwA]at aF dW ⊢;rw[ha]at aF;have hcast:((i:Int)+1)=(a:Int):=by omega
      simp only[hcast];clear hwA hcast)
  try clear ha
  go_loopw [6] (fun vn wr=>∃k n:Nat,vn=.int .i64 (n:Nat)/\Dd wr R s L O now de k 0 0/\a<=k/\k<=s.size/\toR aA s.data.toList k=toR aA s.data.toList a/\jB (aj s.data.toList a (k-a)) 0=n/\n<=1000000000000000000/\(∀c∈aj s.data.toList a (k-a),c.toNat<=57)/\w.grownBy wr (some R)) (fun _ wr=>s.size-dI wr R)
  case atStart=>exact⟨a,0,rfl,aF.o,by omega,hai,rfl,by rw[Nat.sub_self];rfl,by omega,fun c hc=>(by rw[Nat.sub_self]at hc;unfold aj at hc;rw[List.take_zero]at hc;cases hc),dW.o⟩
  case round =>
   obtain⟨k,n,rfl,hd,hak,hk,hto,Vw,ajw,hall,hg⟩:=hrel;have HDK:Hd (Dd _ R s L O now de k 0 0):=hd;have ku:Hd (w.grownBy _ (some R)):=hg;have ig:Hd (dI _ R=k):=wR hd;have mZ:=ae hto;have Il:=ae Vw;have nM:=ae hall;obtain⟨c0,c1,-,-,-,c5,-,-,df⟩:=hd.cells;have df1:=df 1;clear hd hg hto Vw hall df;have hst:(∃hlt:k<s.size,aA (s[k].toNat:Int)=true)\/(toR aA s.data.toList a=k/\((∃hlt:k<s.size,aA (s[k].toNat:Int)=false)\/¬k<s.size)):=by
    by_cases hlt:k<s.size
    ·cases hb:aA (s[k].toNat:Int) with
     | true=>exact Or.inl ⟨hlt,hb⟩
     | false=>exact Or.inr ⟨mZ.o.symm.trans (kY.o k hlt hb),Or.inl ⟨hlt,hb⟩⟩
    ·exact Or.inr ⟨mZ.o.symm.trans (qX.o k (by omega)),Or.inr hlt⟩
   rcases hst with⟨hlt,hb⟩|⟨hJ,e1|e2⟩
   ·have hlt':decide ((k:Int)<(s.size:Int))=true:=by simp;omega
    have CB:Hd (∀w,Calls prog 122 #[.int .u8 (s[k].toNat:Int)] w fun e w'=>e=.returned (.bool true)/\w'=w):=fun w=>by have:=Af s[k] w;rw[hb]at this;exact this
    have HN:=ae ((HST.o k hlt hb).symm.trans mZ.o);obtain⟨h48,h57⟩:48<=s[k].toNat/\s[k].toNat<=57:=by
     unfold aA at hb;have:=of_decide_eq_true hb;omega
    have Vx:=ae (fG.o k nM.o hak hlt h57);have H4:=ae (jr.o k n Il.o hak hlt);clear hb;go_wp2;go_quiet (first|(go_at_call 122;exact Calls.quiet_of_same (CB.o _)));have aI:Hd (Dd (wr.drewN nq) R s L O now de k 0 0):=HDK.o;have aH:=ae (ay ku.o nq);obtain⟨wB,hwB⟩:=zN (wr.drewN nq);rw[hwB]at aI aH ⊢;obtain⟨d0,d1,-,-,-,d5,-,-,dg⟩:=aI.o.cells;have dg1:=dg 1;have Vy:Hd (Dd (wB.setCell ⟨R,1,none⟩ (.int .i64 ((k:Int)+1))) R s L O now de (k+1) 0 0):=aI.o.setI (k+1);clear hwB dg
    by_cases hsm:n<=99999999999999999
    ·have adq:(n:Int)<=99999999999999999:=by omega
     have Ns:Hd (jB (aj s.data.toList a (k+1-a)) 0=10*n+(s[k].toNat - 48)):=by
      have:=H4.o;rw[if_pos hsm]at this;exact this
     have Vz:Hd (10*(n:Int)+(s[k].toNat:Int)-48=((10*n+(s[k].toNat - 48):Nat):Int)):=by show _=_;omega
     go_wp2;go_quiet (fail);have dL:Hd (Dd (wB.drewN nq) R s L O now de k 0 0):=aI.o;have bf:=ae (ay aH.o nq);obtain⟨wC,fU⟩:=zN (wB.drewN nq);rw[fU]at dL bf ⊢;obtain⟨f0,f1,-,-,-,f5,-,-,fg⟩:=dL.o.cells;have fg1:=fg 1;have VA:Hd (Dd (wC.setCell ⟨R,1,none⟩ (.int .i64 ((k:Int)+1))) R s L O now de (k+1) 0 0):=dL.o.setI (k+1);clear fU fg;go_wp2;refine⟨⟨k+1,10*n+(s[k].toNat - 48),by first|rfl|rw[Vz.o]|(congr 1;have:=Vz.o;omega),VA.o,by omega,by omega,HN.o,Ns.o,by omega,Vx.o,aS bf.o 1 _⟩,?_⟩;rw[ig.o,wR VA.o];omega
    ·have adq:¬(n:Int)<=99999999999999999:=by omega
     have ajx:(99999999999999999:Int)<(n:Int):=by omega
     have Ns:Hd (jB (aj s.data.toList a (k+1-a)) 0=1000000000000000000):=by
      have:=H4.o;rw[if_neg hsm]at this;exact this
     go_wp2;refine⟨⟨k+1,1000000000000000000,rfl,Vy.o,by omega,by omega,HN.o,Ns.o,by omega,Vx.o,aS aH.o 1 _⟩,?_⟩;rw[ig.o,wR Vy.o];omega
   all_goals (
    have HJ:=ae hJ;clear hJ
    first
     | (obtain⟨hlt,hb⟩:=e1
        have hlt':decide ((k:Int)<(s.size:Int))=true:=by simp;omega
        have CB:Hd (∀w,Calls prog 122 #[.int .u8 (s[k].toNat:Int)] w fun e w'=>e=.returned (.bool false)/\w'=w):=fun w=>by have:=Af s[k] w;rw[hb]at this;exact this
        clear hb;go_wp2;go_quiet (first|(go_at_call 122;exact Calls.quiet_of_same (CB.o _))))
     | (have hge:decide ((k:Int)<(s.size:Int))=false:=by have:=e2;simp;omega
        go_wp2;go_quiet (fail))
    have aI:Hd (Dd (wr.drewN nq) R s L O now de k 0 0):=HDK.o;have aH:=ae (ay ku.o nq);obtain⟨wB,hwB⟩:=zN (wr.drewN nq);rw[hwB]at aI aH ⊢;obtain⟨d0,d1,-,-,-,d5,-,-,dg⟩:=aI.o.cells;clear hwB dg;have D7:=jl.o;rw[HJ.o]at D7;have vF:Hd (_=G):=D7;have HNJ:Hd (¬k=a->48<=nx s.data.toList a/\nx s.data.toList a<=57):=fun hh=>gq.o (by rw[HJ.o];exact hh)
    have hsub:IntKind.i64.wrap ((k:Int)-(a:Int))=(k:Int)-(a:Int):=by rw[IntKind.wrap_i64];omega
    clear D7;have Nu:=ae (fun wx (hg:Dd wx R s L O now de k 0 0)=>qg R s L O now de k 2 a wx hg);have CF3:=ae (fun wx (hg:Dd wx R s L O now de k 0 0)=>qg R s L O now de k 3 p wx hg);have CFN:=ae (fun wx (hg:Dd wx R s L O now de k 2 a)=>Lj R s L O now de k 2 a 3 p wx hg (by decide))
    by_cases hka:k=a
    ·have aC:Hd (G=.error (2,a)):=by
      have:=vF.o;rw[if_pos (Or.inl hka)]at this;exact this.symm
     have hn0:n=0:=by
      have:=Il.o;rw[hka,Nat.sub_self]at this;unfold aj at this;rw[List.take_zero]at this;exact this.symm
     have hbk:((k:Int) == (a:Int))=true:=by simp[hka]
     have hmx:(n:Int)<=999999999999999999:=by omega
     clear hka hn0;go_wp2_with (go_at_call 82;refine(Nu.o _ aI.o).mono ?_;rintro e w3 ⟨rfl,hd3,hg3⟩);refine bodyPost_ret (results_tmp (t:=2) rfl _ _ _) rfl ?_;rw[aC.o];exact⟨fun n j hh=>(by cases hh),fun c p hh=>(by cases hh;exact⟨⟨_,rfl⟩,by decide,k,hk,hd3⟩),dK aH.o hg3⟩
    ·have hbk:((k:Int) == (a:Int))=false:=by rw[beq_eq_false_iff_ne];omega
     have hal:a<s.size:=by omega
     have hxa:=HXB.o a hal;obtain⟨hn1,hn2⟩:=HNJ.o hka
     by_cases hlz:1<k-a/\nx s.data.toList a=48
     ·have aC:Hd (G=.error (2,a)):=by
       have:=vF.o;rw[if_pos (Or.inr hlz)]at this;exact this.symm
      have h1k:(1:Int)<(k:Int)-(a:Int):=by omega
      have hb48:((s[a].toNat:Int) == 48)=true:=by rw[<-hxa,hlz.2];rfl
      clear hlz hxa hn1 hn2
      by_cases hmx:n<=999999999999999999
      ·have Nv:(n:Int)<=999999999999999999:=by omega
       clear hka;go_wp2_with (go_at_call 82;refine(Nu.o _ aI.o).mono ?_;rintro e w3 ⟨rfl,hd3,hg3⟩);refine bodyPost_ret (results_tmp (t:=2) rfl _ _ _) rfl ?_;rw[aC.o];exact⟨fun n j hh=>(by cases hh),fun c p hh=>(by cases hh;exact⟨⟨_,rfl⟩,by decide,k,hk,hd3⟩),dK aH.o hg3⟩
      ·have Nv:(999999999999999999:Int)<(n:Int):=by omega
       clear hka;go_wp2_with (go_at_call 82;refine(Nu.o _ aI.o).mono ?_)
       first|rintro e w3 rfl hd3 hg3|rintro e w3 ⟨rfl,hd3,hg3⟩
       have HD3:=ae hd3;have aK:=ae (dK aH.o hg3);clear hd3 hg3;go_wp2_with (go_at_call 82;refine(CFN.o _ HD3.o).mono ?_)
       first|rintro e w' rfl rfl|rintro e w' ⟨rfl,rfl⟩
       go_wp2;refine bodyPost_ret (results_tmp (t:=2) rfl _ _ _) rfl ?_;rw[aC.o];exact⟨fun n j hh=>(by cases hh),fun c p hh=>(by cases hh;exact⟨⟨_,rfl⟩,by decide,k,hk,HD3.o⟩),aK.o⟩
     ·have hno:¬(k=a\/(1<k-a/\nx s.data.toList a=48)):=by rintro(h|h);exact hka h;exact hlz h
      have hgd:((1:Int)<(k:Int)-(a:Int))->((s[a].toNat:Int) == 48)=false:=fun hh=>by
       rw[beq_eq_false_iff_ne,<-hxa];intro e;exact hlz ⟨by omega,e⟩
      by_cases h18:18<k-a
      ·have aC:Hd (G=.error (3,p)):=by
        have:=vF.o;rw[if_neg hno,if_pos h18]at this;exact this.symm
       have hnn:n=1000000000000000000:=by rw[<-Il.o];exact HHI.o k nM.o hak hk h18 (by
        have:¬nx s.data.toList a=48:=fun e=>hlz ⟨by omega,e⟩
        omega)
       have Nv:(999999999999999999:Int)<(n:Int):=by omega
       have h1k:(1:Int)<(k:Int)-(a:Int):=by omega
       have hb48:=hgd h1k;clear hka hlz hno hgd h18 hnn hxa hn1 hn2;go_wp2_with (go_at_call 82;refine(CF3.o _ aI.o).mono ?_;rintro e w3 ⟨rfl,hd3,hg3⟩);refine bodyPost_ret (results_tmp (t:=2) rfl _ _ _) rfl ?_;rw[aC.o];exact⟨fun n j hh=>(by cases hh),fun c p hh=>(by cases hh;exact⟨⟨_,rfl⟩,by decide,k,hk,hd3⟩),dK aH.o hg3⟩
      ·obtain⟨hlo1,hlo2⟩:=D6.o k nM.o hak hk (by omega);have hnd:=hlo1.symm.trans Il.o;have aC:Hd (G=.ok (sg n,k)):=by
        have:=vF.o;rw[if_neg hno,if_neg h18,hnd]at this;exact this.symm
       have Nv:(n:Int)<=999999999999999999:=by omega
       by_cases h1k:(1:Int)<(k:Int)-(a:Int)
       ·have hb48:=hgd h1k;clear hka hlz hno hgd h18 hlo1 hlo2 hnd hxa hn1 hn2;go_wp2;refine bodyPost_ret (results_tmp (t:=2) rfl _ _ _) rfl ?_;rw[aC.o];exact⟨fun z j hh=>(by cases hh;exact⟨dB (Hq.o n),hk,aI.o⟩),fun c p hh=>(by cases hh),aH.o⟩
       ·have h1l:(k:Int)-(a:Int)<=1:=by omega
        clear hka hlz hno hgd h18 hlo1 hlo2 hnd hxa hn1 hn2;go_wp2;refine bodyPost_ret (results_tmp (t:=2) rfl _ _ _) rfl ?_;rw[aC.o];exact⟨fun z j hh=>(by cases hh;exact⟨dB (Hq.o n),hk,aI.o⟩),fun c p hh=>(by cases hh),aH.o⟩))
end Go.Proofs.YtnnbgjaphfhibaaGreatDoor
