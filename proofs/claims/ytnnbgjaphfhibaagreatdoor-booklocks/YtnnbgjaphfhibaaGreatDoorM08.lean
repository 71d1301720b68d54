import Derived.Test.YtnnbgjaphfhibaaGreatDoorM07
import Derived.Test.YtnnbgjaphfhibaaGreatDoorM06
set_option linter.unusedVariables false
set_option linter.unusedSimpArgs false
set_option maxRecDepth 100000
set_option maxHeartbeats 6400000
open Go.Proofs.Tryz
namespace Go.Proofs.YtnnbgjaphfhibaaGreatDoor
open Go.RowKit Go.Joins
theorem YM(R:Nat)(s:ByteArray)(L O:Value)(now de:Nat)(q:Rs Nat)(w:World)(h:Ds w R s L O now de q)(hs:s.size<=1048576) :
  Calls prog 162 #[.pointer (some ⟨R,0,none⟩)] w fun e w'=>e=.returned (.tuple #[])/\Ds w' R s L O now de (q.bind (gap s.data.toList (s.data.toList.length+1)))/\w.grownBy w' (some R):=by
 have hl:s.data.toList.length=s.size:=by simp
 have CI:Hd (∀q c w,0<=c->Ds w R s L O now de q->Calls prog 52 #[.pointer (some ⟨R,0,none⟩),.int .u8 c] w fun e w'=>e=.returned (.bool (eU s.data.toList q c))/\w.grownBy w' none):=fun q c w h0 h1=>rX R s L O now de q c h0 w h1 hs
 have CC:Hd (∀q w,Ds w R s L O now de q->Calls prog 55 #[.pointer (some ⟨R,0,none⟩)] w fun e w'=>e=.returned (.tuple #[])/\Ds w' R s L O now de (q.bind (gY s.data.toList))/\w.grownBy w' (some R)):=fun q w h=>QS R s L O now de q w h hs
 have cZ:Hd (∀k,0<=nx s.data.toList k->k<s.size):=fun k hb=>by rw[<-hl];exact bH hb
 have HX:Hd (∀k (hk:k<s.size),nx s.data.toList k=(s[k].toNat:Int)):=byte_at s;have jZ:Hd (∀f k,fM (nx s.data.toList k)=true->gap s.data.toList (f+1) k=gap s.data.toList (f+1) (k+1)):=fun f k hb=>(YI _ (f+1) k hb).resolve_right (by omega)
 have HE2:Hd (∀f k,nx s.data.toList k=10->gap s.data.toList (f+1) k=gap s.data.toList f (k+1)):=QL _;have J8:Hd (∀f k,nx s.data.toList k=35->gap s.data.toList (f+1) k=(gY s.data.toList k).bind (gap s.data.toList (f+1))):=YJ _;have FB:Hd (∀f k,fM (nx s.data.toList k)=false->¬nx s.data.toList k=10->¬nx s.data.toList k=35->gap s.data.toList (f+1) k=.ok k):=QM _;have YN:Hd (∀k j,nx s.data.toList k=35->gY s.data.toList k=.ok j->k<j/\j<=s.size):=fun k j h1 h2=>by rw[<-hl];exact YK _ k j h1 h2
 obtain⟨G,hG⟩:=zN (q.bind (gap s.data.toList (s.data.toList.length+1)));have jl:Hd (q.bind (gap s.data.toList (s.data.toList.length+1))=G):=hG;have H0:Hd (Ds w R s L O now de q):=h;rw[hG];have vS:Hd (∀k,q=.ok k->s.size-k<s.data.toList.length+1):=fun k _=>by omega
 clear h hG;go_enter func162,ntmps162;go_wp2;go_loopw [] (fun wr=>∃(q:Rs Nat) (f:Nat),Ds wr R s L O now de q/\(∀k,q=.ok k->s.size-k<f)/\q.bind (gap s.data.toList f)=G/\w.grownBy wr (some R)) (fun wr=>dM wr R s)
 case atStart=>exact⟨q,_,H0.o,vS.o,jl.o,ax _ _⟩
 case round =>
  obtain⟨q,f,hds,hf,nN,hg⟩:=hrel;have HG:Hd (w.grownBy wr (some R)):=hg;have fC:Hd (Ds wr R s L O now de q):=hds;have C1:Hd (∀c w,0<=c->Ds w R s L O now de q->Calls prog 52 #[.pointer (some ⟨R,0,none⟩),.int .u8 c] w fun e w'=>e=.returned (.bool (eU s.data.toList q c))/\w.grownBy w' none):=CI.o q;obtain⟨b1,hb1⟩:∃b,eU s.data.toList q 32=b:=⟨_,rfl⟩;obtain⟨b2,hb2⟩:∃b,eU s.data.toList q 9=b:=⟨_,rfl⟩;obtain⟨b3,hb3⟩:∃b,eU s.data.toList q 10=b:=⟨_,rfl⟩;obtain⟨b4,hb4⟩:∃b,eU s.data.toList q 35=b:=⟨_,rfl⟩;have xQ:Hd (∀w,Ds w R s L O now de q->Calls prog 52 #[.pointer (some ⟨R,0,none⟩),.int .u8 32] w fun e w'=>e=.returned (.bool b1)/\w.grownBy w' none):=fun w h=>by rw[<-hb1];exact C1.o 32 w (by decide) h
  have C9:Hd (∀w,Ds w R s L O now de q->Calls prog 52 #[.pointer (some ⟨R,0,none⟩),.int .u8 9] w fun e w'=>e=.returned (.bool b2)/\w.grownBy w' none):=fun w h=>by rw[<-hb2];exact C1.o 9 w (by decide) h
  have C10:Hd (∀w,Ds w R s L O now de q->Calls prog 52 #[.pointer (some ⟨R,0,none⟩),.int .u8 10] w fun e w'=>e=.returned (.bool b3)/\w.grownBy w' none):=fun w h=>by rw[<-hb3];exact C1.o 10 w (by decide) h
  have QV:Hd (∀w,Ds w R s L O now de q->Calls prog 52 #[.pointer (some ⟨R,0,none⟩),.int .u8 35] w fun e w'=>e=.returned (.bool b4)/\w.grownBy w' none):=fun w h=>by rw[<-hb4];exact C1.o 35 w (by decide) h
  clear hds hg C1 CI
  by_cases hor:b1=true\/b2=true\/b3=true\/b4=true
  ·-- it goes on
   obtain⟨k,hq⟩:∃k,q=.ok k:=by
    match q with
    | .ok k=>exact⟨k,rfl⟩
    | .error e =>
     exfalso;unfold eU at hb1 hb2 hb3 hb4;subst hb1 hb2 hb3 hb4;simp at hor
   rw[hq]at hb1 hb2 hb3 hb4 nN hf;obtain⟨x,hx⟩:=zN (nx s.data.toList k);have e1:decide (x=32)=b1:=by rw[<-hx];exact hb1
   have e2:decide (x=9)=b2:=by rw[<-hx];exact hb2
   have e3:decide (x=10)=b3:=by rw[<-hx];exact hb3
   have e4:decide (x=35)=b4:=by rw[<-hx];exact hb4
   have hfk:=hf k rfl;obtain⟨f,rfl⟩:∃f',f=f'+1:=⟨f-1,by omega⟩;have Bi:gap s.data.toList (f+1) k=G:=nN;have hd:k<=s.size/\Dd wr R s L O now de k 0 0:=by have:=fC.o;rw[hq]at this;exact this
   have hxo:x=32\/x=9\/x=10\/x=35:=by
    subst e1 e2 e3 e4;simpa using hor
   have hkl:k<s.size:=cZ.o k (by rw[hx];omega);have Bj:Hd (nx s.data.toList k=(s[k].toNat:Int)):=HX.o k hkl;have HD:Hd (Dd wr R s L O now de k 0 0):=hd.2;have HM:Hd (dM wr R s=s.size-k+1):=uj hd.2;clear hb1 hb2 hb3 hb4 hf hor FB
   by_cases h35:x=35
   ·-- a comment
    have hb:((s[k].toNat:Int) == 35)=true:=by rw[<-Bj.o,hx];simp[h35]
    have bJ:Hd ((gY s.data.toList k).bind (gap s.data.toList (f+1))=G):=by
     show _=_;rw[<-J8.o f k (by rw[hx,h35]),Bi]
    have QW:Hd (∀j,gY s.data.toList k=.ok j->k<j/\j<=s.size):=fun j=>YN.o k j (by rw[hx,h35])
    have YO:Hd (∀w',wr.grownBy w' none->Calls prog 55 #[.pointer (some ⟨R,0,none⟩)] w' fun e w''=>e=.returned (.tuple #[])/\Ds w'' R s L O now de (gY s.data.toList k)/\w'.grownBy w'' (some R)):=fun w' hg=>CC.o (.ok k) w' ⟨hd.1,hd.2.grow hg⟩
    obtain rfl:b1=false:=by rw[<-e1,h35];rfl
    obtain rfl:b2=false:=by rw[<-e2,h35];rfl
    obtain rfl:b3=false:=by rw[<-e3,h35];rfl
    obtain rfl:b4=true:=by rw[<-e4,h35];rfl
    clear e1 e2 e3 e4 hx hxo h35 nN Bi hq hd;go_wp2_with (go_at_call 52;refine(xQ.o _ fC.o).mono ?_)
    first|rintro e w1 rfl hg1|rintro e w1 ⟨rfl,hg1⟩
    have ay:Hd (wr.grownBy w1 none):=hg1;clear hg1;go_wp2_with (go_at_call 52;refine(C9.o _ (fC.o.grow ay.o)).mono ?_)
    first|rintro e w2 rfl hg2|rintro e w2 ⟨rfl,hg2⟩
    have HG2:Hd (wr.grownBy w2 none):=ah ay.o hg2;clear hg2;go_wp2_with (go_at_call 52;refine(C10.o _ (fC.o.grow HG2.o)).mono ?_)
    first|rintro e w3 rfl hg3|rintro e w3 ⟨rfl,hg3⟩
    have aK:Hd (wr.grownBy w3 none):=ah HG2.o hg3;clear hg3;go_wp2_with (go_at_call 52;refine(QV.o _ (fC.o.grow aK.o)).mono ?_)
    first|rintro e w4 rfl hg4|rintro e w4 ⟨rfl,hg4⟩
    have dS:Hd (wr.grownBy w4 none):=ah aK.o hg4;obtain⟨c0,c1,-⟩:=(HD.o.grow dS.o).cells;clear hg4;go_wp2;go_quiet (fail);go_wp2_with (go_at_call 55;refine(YO.o _ ?_).mono ?_;exact aj dS.o _;rintro e w5 ⟨rfl,hd5,hg5⟩);have iy:Hd (w.grownBy w5 (some R)):=dH (aG HG.o dS.o) ⟨hg5.os,hg5.tape,hg5.output,hg5.size,hg5.block⟩;have HD5:Hd (Ds w5 R s L O now de (gY s.data.toList k)):=hd5;obtain⟨u,hu⟩:=zN (gY s.data.toList k);rw[hu]at HD5 QW bJ;clear hd5 hg5 hu;go_wp2
    match u,HD5.o,QW.o,bJ.o with
    | .error (c,p),hh,_,hgc =>
     obtain⟨hc,j,hj,hd⟩:=hh;refine⟨⟨.error (c,p),f+1,⟨hc,j,hj,hd⟩,fun _ hh=>(by cases hh),hgc,iy.o⟩,?_⟩;rw[HM.o,Fz hd hc];omega
    | .ok j,hh,hlc,hgc =>
     have:=hlc j rfl;refine⟨⟨.ok j,f+1,hh,fun _ hh=>(by cases hh;omega),hgc,iy.o⟩,?_⟩;rw[HM.o,uj hh.2];omega
   ·have hb:((s[k].toNat:Int) == 35)=false:=by rw[<-Bj.o,hx];simpa using h35
    have J5:Hd (∃f',s.size-(k+1)<f'/\gap s.data.toList f' (k+1)=G):=by
     by_cases h10:x=10
     ·exact⟨f,by omega,by rw[<-HE2.o f k (by rw[hx,h10])];exact Bi⟩
     ·refine⟨f+1,by omega,?_⟩;rw[<-jZ.o f k (by rw[hx];unfold fM;simp;omega)];exact Bi
    have fin:∀wx:World,wr.grownBy wx none->(∃(q:Rs Nat) (f:Nat),Ds (wx.setCell ⟨R,1,none⟩ (.int .i64 ((k:Int)+1))) R s L O now de q/\(∀k,q=.ok k->s.size-k<f)/\q.bind (gap s.data.toList f)=G/\w.grownBy (wx.setCell ⟨R,1,none⟩ (.int .i64 ((k:Int)+1))) (some R))/\dM (wx.setCell ⟨R,1,none⟩ (.int .i64 ((k:Int)+1))) R s<dM wr R s:=fun wx hg=>by
     obtain⟨f',hf',hgg⟩:=J5.o;have hdd:=(HD.o.grow hg).setI (k+1);refine⟨⟨.ok (k+1),f',⟨by omega,hdd⟩,fun _ hh=>(by cases hh;omega),hgg,aQ (aG HG.o hg) 1 _⟩,?_⟩;have e1:=uj hdd;have e2:(wx.setCell ⟨R,1,none⟩ (.int .i64 ((k+1:Nat):Int)))=wx.setCell ⟨R,1,none⟩ (.int .i64 ((k:Int)+1)):=rfl;rw[e2]at e1;rw[e1,HM.o];omega
    have Bl:Hd (∀wx:World,wr.grownBy wx none->(∃(q:Rs Nat) (f:Nat),Ds (wx.setCell ⟨R,1,none⟩ (.int .i64 ((k:Int)+1))) R s L O now de q/\(∀k,q=.ok k->s.size-k<f)/\q.bind (gap s.data.toList f)=G/\w.grownBy (wx.setCell ⟨R,1,none⟩ (.int .i64 ((k:Int)+1))) (some R))/\dM (wx.setCell ⟨R,1,none⟩ (.int .i64 ((k:Int)+1))) R s<dM wr R s):=fin;clear fin;have FH:Hd (b1=true\/(b1=false/\b2=true)\/(b1=false/\b2=false/\b3=true)):=by
     show _\/_;subst e1 e2 e3
     rcases hxo with h|h|h|h
     ·left;simp[h]
     ·right;left;simp[h]
     ·right;right;simp[h]
     ·exact(h35 h).elim
    clear e1 e2 e3 e4 hx hxo h35 nN Bi hq hd;go_wp2_with (go_at_call 52;refine(xQ.o _ fC.o).mono ?_)
    first|rintro e w1 rfl hg1|rintro e w1 ⟨rfl,hg1⟩
    have ay:Hd (wr.grownBy w1 none):=hg1;clear hg1
    rcases FH.o with rfl|⟨rfl,rfl⟩|⟨rfl,rfl,rfl⟩
    ·obtain⟨c0,c1,-,-,-,-,-,-,df⟩:=(HD.o.grow ay.o).cells;have df1:=df 1;clear df;go_wp2;go_quiet (fail);go_wp2;exact Bl.o _ (ah ay.o ⟨rfl,rfl,rfl,Nat.le_refl _,fun _ _ _=>rfl⟩)
    ·go_wp2_with (go_at_call 52;refine(C9.o _ (fC.o.grow ay.o)).mono ?_)
     first|rintro e w2 rfl hg2|rintro e w2 ⟨rfl,hg2⟩
     have HG2:Hd (wr.grownBy w2 none):=ah ay.o hg2;obtain⟨c0,c1,-,-,-,-,-,-,df⟩:=(HD.o.grow HG2.o).cells;have df1:=df 1;clear df hg2;go_wp2;go_quiet (fail);go_wp2;exact Bl.o _ (ah HG2.o ⟨rfl,rfl,rfl,Nat.le_refl _,fun _ _ _=>rfl⟩)
    ·go_wp2_with (go_at_call 52;refine(C9.o _ (fC.o.grow ay.o)).mono ?_)
     first|rintro e w2 rfl hg2|rintro e w2 ⟨rfl,hg2⟩
     have HG2:Hd (wr.grownBy w2 none):=ah ay.o hg2;clear hg2;go_wp2_with (go_at_call 52;refine(C10.o _ (fC.o.grow HG2.o)).mono ?_)
     first|rintro e w3 rfl hg3|rintro e w3 ⟨rfl,hg3⟩
     have aK:Hd (wr.grownBy w3 none):=ah HG2.o hg3;obtain⟨c0,c1,-,-,-,-,-,-,df⟩:=(HD.o.grow aK.o).cells;have df1:=df 1;clear df hg3;go_wp2;go_quiet (fail);go_wp2;exact Bl.o _ (ah aK.o ⟨rfl,rfl,rfl,Nat.le_refl _,fun _ _ _=>rfl⟩)
  ·-- nothing of the kind
   have YP:Hd (q=G):=by
    show q=G;rw[<-nN]
    match q with
    | .error e=>rfl
    | .ok k =>
     have hfk:=hf k rfl;obtain⟨f,rfl⟩:∃f',f=f'+1:=⟨f-1,by omega⟩;unfold eU at hb1 hb2 hb3 hb4;subst hb1 hb2 hb3 hb4;simp only[decide_eq_true_eq,not_or]at hor;refine(FB.o f k ?_ hor.2.2.1 hor.2.2.2).symm;unfold fM;simp[hor.1,hor.2.1]
   obtain rfl:b1=false:=by cases b1<;>simp at hor ⊢
   obtain rfl:b2=false:=by cases b2<;>simp at hor ⊢
   obtain rfl:b3=false:=by cases b3<;>simp at hor ⊢
   obtain rfl:b4=false:=by cases b4<;>simp at hor ⊢
   clear hb1 hb2 hb3 hb4 hf hor nN;go_wp2_with (go_at_call 52;refine(xQ.o _ fC.o).mono ?_)
   first|rintro e w1 rfl hg1|rintro e w1 ⟨rfl,hg1⟩
   have ay:Hd (wr.grownBy w1 none):=hg1;clear hg1;go_wp2_with (go_at_call 52;refine(C9.o _ (fC.o.grow ay.o)).mono ?_)
   first|rintro e w2 rfl hg2|rintro e w2 ⟨rfl,hg2⟩
   have HG2:Hd (wr.grownBy w2 none):=ah ay.o hg2;clear hg2;go_wp2_with (go_at_call 52;refine(C10.o _ (fC.o.grow HG2.o)).mono ?_)
   first|rintro e w3 rfl hg3|rintro e w3 ⟨rfl,hg3⟩
   have aK:Hd (wr.grownBy w3 none):=ah HG2.o hg3;clear hg3;go_wp2_with (go_at_call 52;refine(QV.o _ (fC.o.grow aK.o)).mono ?_)
   first|rintro e w4 rfl hg4|rintro e w4 ⟨rfl,hg4⟩
   have dS:Hd (wr.grownBy w4 none):=ah aK.o hg4;clear hg4;go_wp2;refine bodyPost_end (results_none rfl _ _ _) rfl ⟨rfl,?_,aG HG.o dS.o⟩;rw[<-YP.o];exact fC.o.grow dS.o
open Go.RowKit Go.Joins
theorem yX(c:UInt8)(w:World):Calls prog 122 #[.int .u8 (c.toNat:Int)] w fun e w'=>e=.returned (.bool (au (c.toNat:Int)))/\w'=w:=by
 have:=c.toNat_lt;go_enter func122,ntmps122;go_wp2
 all_goals go_ret
 all_goals (refine⟨bV ?_,rfl⟩;rw[Bool.eq_iff_iff];unfold au;simp;try omega)
theorem YQ(c:UInt8)(w:World):Calls prog 120 #[.int .u8 (c.toNat:Int)] w fun e w'=>e=.returned (.bool (aO (c.toNat:Int)))/\w'=w:=by
 have hc:=c.toNat_lt;have CD:Hd (∀w,Calls prog 122 #[.int .u8 (c.toNat:Int)] w fun e w'=>e=.returned (.bool (au (c.toNat:Int)))/\w'=w):=yX c;have HB:Hd (aO (c.toNat:Int)=(decide (97<=(c.toNat:Int)/\(c.toNat:Int)<=122) || decide (65<=(c.toNat:Int)/\(c.toNat:Int)<=90) || au (c.toNat:Int) || decide ((c.toNat:Int)=95) || decide ((c.toNat:Int)=45))):=rfl;obtain⟨b,hb⟩:=zN (au (c.toNat:Int));obtain⟨r,hr⟩:=zN (aO (c.toNat:Int));rw[hb]at CD HB;rw[hr]at HB ⊢;clear hb hr;obtain⟨x,hx⟩:∃x:Int,(c.toNat:Int)=x:=⟨_,rfl⟩;have hx0:0<=x:=by omega
 rw[hx]at CD HB ⊢;clear hx hc
 cases b with
 | true =>
  go_enter func120,ntmps120;go_wp2_with (go_at_call 122;refine(CD.o _).mono ?_;rintro e w' ⟨rfl,rfl⟩)
  all_goals go_ret
  all_goals (refine⟨bV ?_,rfl⟩;rw[HB.o,Bool.eq_iff_iff];simp;try omega)
 | false =>
  go_enter func120,ntmps120;go_wp2_with (go_at_call 122;refine(CD.o _).mono ?_;rintro e w' ⟨rfl,rfl⟩)
  all_goals go_ret
  all_goals (refine⟨bV ?_,rfl⟩;rw[HB.o,Bool.eq_iff_iff];simp;try omega)
def yY(c:Int):Int:=if 48<=c/\c<=57 then c-48 else if 97<=c/\c<=102 then c-87 else -1
theorem YR(c:Int)(h0:0<=c)(h1:c<256)(w:World):Calls prog 126 #[.int .u8 c] w fun e w'=>e=.returned (.int .i64 (yY c))/\w'=w:=by
 obtain⟨r,hr⟩:=zN (yY c);have HR:Hd ((if 48<=c/\c<=57 then c-48 else if 97<=c/\c<=102 then c-87 else -1)=r):=hr;rw[hr];clear hr;go_enter func126,ntmps126;go_wp2
 all_goals go_ret
 all_goals (refine⟨dD ?_,rfl⟩;rw[<-HR.o];repeat' split)
 all_goals (first|rfl|omega)
theorem kW(s:ByteArray)(i:Nat)(lo hi:Int)(hlo:0<=lo)(w:World)(hs:s.size<=1048576) :
  Calls prog 203 #[.string s,.int .i64 (i:Nat),.int .u8 lo,.int .u8 hi] w fun e w'=>e=.returned (.bool (dF s.data.toList i lo hi))/\w'=w:=by
 have hl:s.data.toList.length=s.size:=by simp
 by_cases hlt:i<s.size
 ·have HG:Hd (dF s.data.toList i lo hi=decide (lo<=(s[i].toNat:Int)/\(s[i].toNat:Int)<=hi)):=by
   show _=_;unfold dF;rw[byte_at s i hlt]
  obtain⟨r,hr⟩:=zN (dF s.data.toList i lo hi);rw[hr]at HG ⊢;clear hr;go_enter func203,ntmps203;go_wp2
  all_goals go_ret
  all_goals (refine⟨bV ?_,rfl⟩;rw[HG.o,Bool.eq_iff_iff];simp;try omega)
 ·have HG:Hd (dF s.data.toList i lo hi=false):=by
   show _=_;unfold dF;rw[jG _ _ (by omega),decide_eq_false (by omega)]
  rw[HG.o];go_enter func203,ntmps203;go_wp2
  all_goals go_ret
  all_goals exact⟨rfl,rfl⟩
theorem qN(l:List UInt8)(i:Nat)(x:Int)(hx:nx l i=x):aJ l i=if x<0 then 0 else if x<128 then 1 else if x<194\/244<x then 0 else if dF l (i+1) (if x=224 then 160 else if x=240 then 144 else 128) (if x=237 then 159 else if x=244 then 143 else 191)=false then 0 else if x<224 then 2 else if dF l (i+2) 128 191=false then 0 else if x<240 then 3 else if dF l (i+3) 128 191=false then 0 else 4:=by
 subst hx;rfl
theorem YS(s:ByteArray)(i:Nat)(hi:i<s.size)(w:World)(hs:s.size<=1048576)(x:Int)(hx:(s[i].toNat:Int)=x)(h0:0<=x)(hc:x<128) :
  Calls prog 161 #[.string s,.int .i64 (i:Nat)] w fun e w'=>e=.returned (.int .i64 (aJ s.data.toList i:Nat))/\w'=w:=by
 have hv:=qN s.data.toList i x ((byte_at s i hi).trans hx);have t0:decide (x<128)=true:=by simp;omega
 have p0:x<128:=by omega
 have t1:decide (x<194)=true:=by simp;omega
 have p1:x<194:=by omega
 have t2:decide (244<x)=false:=by simp;omega
 have p2:¬244<x:=by omega
 have t3:decide (224<=x)=false:=by simp;omega
 have p3:¬224<=x:=by omega
 have t4:decide (240<=x)=false:=by simp;omega
 have p4:¬240<=x:=by omega
 have t5:(x == 224)=false:=by simp;omega
 have p5:¬x=224:=by omega
 have t6:(x == 237)=false:=by simp;omega
 have p6:¬x=237:=by omega
 have t7:(x == 240)=false:=by simp;omega
 have p7:¬x=240:=by omega
 have t8:(x == 244)=false:=by simp;omega
 have p8:¬x=244:=by omega
 rw[if_neg (by omega),if_pos p0]at hv;rw[hv];have hk:s[i].toNat=x.toNat:=by omega
 clear hv hc;go_enter func161,ntmps161;go_wp2;go_ret;exact⟨rfl,rfl⟩
theorem YT(s:ByteArray)(i:Nat)(hi:i<s.size)(w:World)(hs:s.size<=1048576)(x:Int)(hx:(s[i].toNat:Int)=x)(h0:0<=x)(hc:128<=x/\x<194) :
  Calls prog 161 #[.string s,.int .i64 (i:Nat)] w fun e w'=>e=.returned (.int .i64 (aJ s.data.toList i:Nat))/\w'=w:=by
 have hv:=qN s.data.toList i x ((byte_at s i hi).trans hx);have t0:decide (x<128)=false:=by simp;omega
 have p0:¬x<128:=by omega
 have t1:decide (x<194)=true:=by simp;omega
 have p1:x<194:=by omega
 have t2:decide (244<x)=false:=by simp;omega
 have p2:¬244<x:=by omega
 have t3:decide (224<=x)=false:=by simp;omega
 have p3:¬224<=x:=by omega
 have t4:decide (240<=x)=false:=by simp;omega
 have p4:¬240<=x:=by omega
 have t5:(x == 224)=false:=by simp;omega
 have p5:¬x=224:=by omega
 have t6:(x == 237)=false:=by simp;omega
 have p6:¬x=237:=by omega
 have t7:(x == 240)=false:=by simp;omega
 have p7:¬x=240:=by omega
 have t8:(x == 244)=false:=by simp;omega
 have p8:¬x=244:=by omega
 rw[if_neg (by omega),if_neg p0,if_pos (by omega)]at hv;rw[hv];have hk:s[i].toNat=x.toNat:=by omega
 clear hv hc;go_enter func161,ntmps161;go_wp2;go_ret;exact⟨rfl,rfl⟩
theorem YU(s:ByteArray)(i:Nat)(hi:i<s.size)(w:World)(hs:s.size<=1048576)(x:Int)(hx:(s[i].toNat:Int)=x)(h0:0<=x)(hc:244<x) :
  Calls prog 161 #[.string s,.int .i64 (i:Nat)] w fun e w'=>e=.returned (.int .i64 (aJ s.data.toList i:Nat))/\w'=w:=by
 have hv:=qN s.data.toList i x ((byte_at s i hi).trans hx);have t0:decide (x<128)=false:=by simp;omega
 have p0:¬x<128:=by omega
 have t1:decide (x<194)=false:=by simp;omega
 have p1:¬x<194:=by omega
 have t2:decide (244<x)=true:=by simp;omega
 have p2:244<x:=by omega
 have t3:decide (224<=x)=true:=by simp;omega
 have p3:224<=x:=by omega
 have t4:decide (240<=x)=true:=by simp;omega
 have p4:240<=x:=by omega
 have t5:(x == 224)=false:=by simp;omega
 have p5:¬x=224:=by omega
 have t6:(x == 237)=false:=by simp;omega
 have p6:¬x=237:=by omega
 have t7:(x == 240)=false:=by simp;omega
 have p7:¬x=240:=by omega
 have t8:(x == 244)=false:=by simp;omega
 have p8:¬x=244:=by omega
 rw[if_neg (by omega),if_neg p0,if_pos (by omega)]at hv;rw[hv];have hk:s[i].toNat=x.toNat:=by omega
 clear hv hc;go_enter func161,ntmps161;go_wp2;go_ret;exact⟨rfl,rfl⟩
theorem YV(s:ByteArray)(i:Nat)(hi:i<s.size)(w:World)(hs:s.size<=1048576)(x:Int)(hx:(s[i].toNat:Int)=x)(h0:0<=x)(hc:194<=x/\x<224) :
  Calls prog 161 #[.string s,.int .i64 (i:Nat)] w fun e w'=>e=.returned (.int .i64 (aJ s.data.toList i:Nat))/\w'=w:=by
 have hv:=qN s.data.toList i x ((byte_at s i hi).trans hx);have t0:decide (x<128)=false:=by simp;omega
 have p0:¬x<128:=by omega
 have t1:decide (x<194)=false:=by simp;omega
 have p1:¬x<194:=by omega
 have t2:decide (244<x)=false:=by simp;omega
 have p2:¬244<x:=by omega
 have t3:decide (224<=x)=false:=by simp;omega
 have p3:¬224<=x:=by omega
 have t4:decide (240<=x)=false:=by simp;omega
 have p4:¬240<=x:=by omega
 have t5:(x == 224)=false:=by simp;omega
 have p5:¬x=224:=by omega
 have t6:(x == 237)=false:=by simp;omega
 have p6:¬x=237:=by omega
 have t7:(x == 240)=false:=by simp;omega
 have p7:¬x=240:=by omega
 have t8:(x == 244)=false:=by simp;omega
 have p8:¬x=244:=by omega
 rw[if_neg (by omega),if_neg p0,if_neg (by omega)]at hv;rw[if_neg p5,if_neg p7,if_neg p6,if_neg p8]at hv;rw[if_pos (show x<224 by omega)]at hv;have C1:Hd (∀w,Calls prog 203 #[.string s,.int .i64 ((i:Int)+1),.int .u8 128,.int .u8 191] w fun e w'=>e=.returned (.bool (dF s.data.toList (i+1) 128 191))/\w'=w):=fun w=>kW s (i+1) 128 191 (by decide) w hs
 obtain⟨b1,hb1⟩:∃b,dF s.data.toList (i+1) 128 191=b:=⟨_,rfl⟩;rw[hb1]at C1 hv;rw[hv];clear hv hc hb1
 cases b1 with
 | false =>
  go_enter func161,ntmps161;go_wp2_with (go_at_call 203;refine(C1.o _).mono ?_;rintro e w' ⟨rfl,rfl⟩);go_ret;exact⟨rfl,rfl⟩
 | true =>
  go_enter func161,ntmps161;go_wp2_with (go_at_call 203;refine(C1.o _).mono ?_;rintro e w' ⟨rfl,rfl⟩);refine wp_loop_rounds 1 ?_;rw[rounds_succ];go_wp2;go_ret;exact⟨rfl,rfl⟩
theorem YW(s:ByteArray)(i:Nat)(hi:i<s.size)(w:World)(hs:s.size<=1048576)(x:Int)(hx:(s[i].toNat:Int)=x)(h0:0<=x)(hc:x=224) :
  Calls prog 161 #[.string s,.int .i64 (i:Nat)] w fun e w'=>e=.returned (.int .i64 (aJ s.data.toList i:Nat))/\w'=w:=by
 have hv:=qN s.data.toList i x ((byte_at s i hi).trans hx);have t0:decide (x<128)=false:=by simp;omega
 have p0:¬x<128:=by omega
 have t1:decide (x<194)=false:=by simp;omega
 have p1:¬x<194:=by omega
 have t2:decide (244<x)=false:=by simp;omega
 have p2:¬244<x:=by omega
 have t3:decide (224<=x)=true:=by simp;omega
 have p3:224<=x:=by omega
 have t4:decide (240<=x)=false:=by simp;omega
 have p4:¬240<=x:=by omega
 have t5:(x == 224)=true:=by simp;omega
 have p5:x=224:=by omega
 have t6:(x == 237)=false:=by simp;omega
 have p6:¬x=237:=by omega
 have t7:(x == 240)=false:=by simp;omega
 have p7:¬x=240:=by omega
 have t8:(x == 244)=false:=by simp;omega
 have p8:¬x=244:=by omega
 rw[if_neg (by omega),if_neg p0,if_neg (by omega)]at hv;rw[if_pos p5,if_neg p6,if_neg p8]at hv;rw[if_neg (show ¬x<224 by omega),if_pos (show x<240 by omega)]at hv;have C1:Hd (∀w,Calls prog 203 #[.string s,.int .i64 ((i:Int)+1),.int .u8 160,.int .u8 191] w fun e w'=>e=.returned (.bool (dF s.data.toList (i+1) 160 191))/\w'=w):=fun w=>kW s (i+1) 160 191 (by decide) w hs
 have C2:Hd (∀w,Calls prog 203 #[.string s,.int .i64 ((i:Int)+2),.int .u8 128,.int .u8 191] w fun e w'=>e=.returned (.bool (dF s.data.toList (i+2) 128 191))/\w'=w):=fun w=>kW s (i+2) 128 191 (by decide) w hs
 obtain⟨b1,hb1⟩:∃b,dF s.data.toList (i+1) 160 191=b:=⟨_,rfl⟩;obtain⟨b2,hb2⟩:∃b,dF s.data.toList (i+2) 128 191=b:=⟨_,rfl⟩;rw[hb1]at C1 hv;rw[hb2]at C2 hv;rw[hv];clear hv hc hb1 hb2
 cases b1 with
 | false =>
  go_enter func161,ntmps161;go_wp2_with (go_at_call 203;refine(C1.o _).mono ?_;rintro e w' ⟨rfl,rfl⟩);go_ret;exact⟨rfl,rfl⟩
 | true =>
  cases b2 with
  | false =>
   go_enter func161,ntmps161;go_wp2_with (go_at_call 203;refine(C1.o _).mono ?_;rintro e w' ⟨rfl,rfl⟩);refine wp_loop_rounds 1 ?_;rw[rounds_succ];go_wp2_with (go_at_call 203;refine(C2.o _).mono ?_;rintro e w' ⟨rfl,rfl⟩);go_ret;exact⟨rfl,rfl⟩
  | true =>
   go_enter func161,ntmps161;go_wp2_with (go_at_call 203;refine(C1.o _).mono ?_;rintro e w' ⟨rfl,rfl⟩);refine wp_loop_rounds 2 ?_;rw[rounds_succ];go_wp2_with (go_at_call 203;refine(C2.o _).mono ?_;rintro e w' ⟨rfl,rfl⟩);rw[rounds_succ];go_wp2;go_ret;exact⟨rfl,rfl⟩
theorem YX(s:ByteArray)(i:Nat)(hi:i<s.size)(w:World)(hs:s.size<=1048576)(x:Int)(hx:(s[i].toNat:Int)=x)(h0:0<=x)(hc:225<=x/\x<=236) :
  Calls prog 161 #[.string s,.int .i64 (i:Nat)] w fun e w'=>e=.returned (.int .i64 (aJ s.data.toList i:Nat))/\w'=w:=by
 have hv:=qN s.data.toList i x ((byte_at s i hi).trans hx);have t0:decide (x<128)=false:=by simp;omega
 have p0:¬x<128:=by omega
 have t1:decide (x<194)=false:=by simp;omega
 have p1:¬x<194:=by omega
 have t2:decide (244<x)=false:=by simp;omega
 have p2:¬244<x:=by omega
 have t3:decide (224<=x)=true:=by simp;omega
 have p3:224<=x:=by omega
 have t4:decide (240<=x)=false:=by simp;omega
 have p4:¬240<=x:=by omega
 have t5:(x == 224)=false:=by simp;omega
 have p5:¬x=224:=by omega
 have t6:(x == 237)=false:=by simp;omega
 have p6:¬x=237:=by omega
 have t7:(x == 240)=false:=by simp;omega
 have p7:¬x=240:=by omega
 have t8:(x == 244)=false:=by simp;omega
 have p8:¬x=244:=by omega
 rw[if_neg (by omega),if_neg p0,if_neg (by omega)]at hv;rw[if_neg p5,if_neg p7,if_neg p6,if_neg p8]at hv;rw[if_neg (show ¬x<224 by omega),if_pos (show x<240 by omega)]at hv;have C1:Hd (∀w,Calls prog 203 #[.string s,.int .i64 ((i:Int)+1),.int .u8 128,.int .u8 191] w fun e w'=>e=.returned (.bool (dF s.data.toList (i+1) 128 191))/\w'=w):=fun w=>kW s (i+1) 128 191 (by decide) w hs
 have C2:Hd (∀w,Calls prog 203 #[.string s,.int .i64 ((i:Int)+2),.int .u8 128,.int .u8 191] w fun e w'=>e=.returned (.bool (dF s.data.toList (i+2) 128 191))/\w'=w):=fun w=>kW s (i+2) 128 191 (by decide) w hs
 obtain⟨b1,hb1⟩:∃b,dF s.data.toList (i+1) 128 191=b:=⟨_,rfl⟩;obtain⟨b2,hb2⟩:∃b,dF s.data.toList (i+2) 128 191=b:=⟨_,rfl⟩;rw[hb1]at C1 hv;rw[hb2]at C2 hv;rw[hv];clear hv hc hb1 hb2
 cases b1 with
 | false =>
  go_enter func161,ntmps161;go_wp2_with (go_at_call 203;refine(C1.o _).mono ?_;rintro e w' ⟨rfl,rfl⟩);go_ret;exact⟨rfl,rfl⟩
 | true =>
  cases b2 with
  | false =>
   go_enter func161,ntmps161;go_wp2_with (go_at_call 203;refine(C1.o _).mono ?_;rintro e w' ⟨rfl,rfl⟩);refine wp_loop_rounds 1 ?_;rw[rounds_succ];go_wp2_with (go_at_call 203;refine(C2.o _).mono ?_;rintro e w' ⟨rfl,rfl⟩);go_ret;exact⟨rfl,rfl⟩
  | true =>
   go_enter func161,ntmps161;go_wp2_with (go_at_call 203;refine(C1.o _).mono ?_;rintro e w' ⟨rfl,rfl⟩);refine wp_loop_rounds 2 ?_;rw[rounds_succ];go_wp2_with (go_at_call 203;refine(C2.o _).mono ?_;rintro e w' ⟨rfl,rfl⟩);rw[rounds_succ];go_wp2;go_ret;exact⟨rfl,rfl⟩
theorem YY(s:ByteArray)(i:Nat)(hi:i<s.size)(w:World)(hs:s.size<=1048576)(x:Int)(hx:(s[i].toNat:Int)=x)(h0:0<=x)(hc:x=237) :
  Calls prog 161 #[.string s,.int .i64 (i:Nat)] w fun e w'=>e=.returned (.int .i64 (aJ s.data.toList i:Nat))/\w'=w:=by
 have hv:=qN s.data.toList i x ((byte_at s i hi).trans hx);have t0:decide (x<128)=false:=by simp;omega
 have p0:¬x<128:=by omega
 have t1:decide (x<194)=false:=by simp;omega
 have p1:¬x<194:=by omega
 have t2:decide (244<x)=false:=by simp;omega
 have p2:¬244<x:=by omega
 have t3:decide (224<=x)=true:=by simp;omega
 have p3:224<=x:=by omega
 have t4:decide (240<=x)=false:=by simp;omega
 have p4:¬240<=x:=by omega
 have t5:(x == 224)=false:=by simp;omega
 have p5:¬x=224:=by omega
 have t6:(x == 237)=true:=by simp;omega
 have p6:x=237:=by omega
 have t7:(x == 240)=false:=by simp;omega
 have p7:¬x=240:=by omega
 have t8:(x == 244)=false:=by simp;omega
 have p8:¬x=244:=by omega
 rw[if_neg (by omega),if_neg p0,if_neg (by omega)]at hv;rw[if_neg p5,if_neg p7,if_pos p6]at hv;rw[if_neg (show ¬x<224 by omega),if_pos (show x<240 by omega)]at hv;have C1:Hd (∀w,Calls prog 203 #[.string s,.int .i64 ((i:Int)+1),.int .u8 128,.int .u8 159] w fun e w'=>e=.returned (.bool (dF s.data.toList (i+1) 128 159))/\w'=w):=fun w=>kW s (i+1) 128 159 (by decide) w hs
 have C2:Hd (∀w,Calls prog 203 #[.string s,.int .i64 ((i:Int)+2),.int .u8 128,.int .u8 191] w fun e w'=>e=.returned (.bool (dF s.data.toList (i+2) 128 191))/\w'=w):=fun w=>kW s (i+2) 128 191 (by decide) w hs
 obtain⟨b1,hb1⟩:∃b,dF s.data.toList (i+1) 128 159=b:=⟨_,rfl⟩;obtain⟨b2,hb2⟩:∃b,dF s.data.toList (i+2) 128 191=b:=⟨_,rfl⟩;rw[hb1]at C1 hv;rw[hb2]at C2 hv;rw[hv];clear hv hc hb1 hb2
 cases b1 with
 | false =>
  go_enter func161,ntmps161;go_wp2_with (go_at_call 203;refine(C1.o _).mono ?_;rintro e w' ⟨rfl,rfl⟩);go_ret;exact⟨rfl,rfl⟩
 | true =>
  cases b2 with
  | false =>
   go_enter func161,ntmps161;go_wp2_with (go_at_call 203;refine(C1.o _).mono ?_;rintro e w' ⟨rfl,rfl⟩);refine wp_loop_rounds 1 ?_;rw[rounds_succ];go_wp2_with (go_at_call 203;refine(C2.o _).mono ?_;rintro e w' ⟨rfl,rfl⟩);go_ret;exact⟨rfl,rfl⟩
  | true =>
   go_enter func161,ntmps161;go_wp2_with (go_at_call 203;refine(C1.o _).mono ?_;rintro e w' ⟨rfl,rfl⟩);refine wp_loop_rounds 2 ?_;rw[rounds_succ];go_wp2_with (go_at_call 203;refine(C2.o _).mono ?_;rintro e w' ⟨rfl,rfl⟩);rw[rounds_succ];go_wp2;go_ret;exact⟨rfl,rfl⟩
theorem YZ(s:ByteArray)(i:Nat)(hi:i<s.size)(w:World)(hs:s.size<=1048576)(x:Int)(hx:(s[i].toNat:Int)=x)(h0:0<=x)(hc:238<=x/\x<=239) :
  Calls prog 161 #[.string s,.int .i64 (i:Nat)] w fun e w'=>e=.returned (.int .i64 (aJ s.data.toList i:Nat))/\w'=w:=by
 have hv:=qN s.data.toList i x ((byte_at s i hi).trans hx);have t0:decide (x<128)=false:=by simp;omega
 have p0:¬x<128:=by omega
 have t1:decide (x<194)=false:=by simp;omega
 have p1:¬x<194:=by omega
 have t2:decide (244<x)=false:=by simp;omega
 have p2:¬244<x:=by omega
 have t3:decide (224<=x)=true:=by simp;omega
 have p3:224<=x:=by omega
 have t4:decide (240<=x)=false:=by simp;omega
 have p4:¬240<=x:=by omega
 have t5:(x == 224)=false:=by simp;omega
 have p5:¬x=224:=by omega
 have t6:(x == 237)=false:=by simp;omega
 have p6:¬x=237:=by omega
 have t7:(x == 240)=false:=by simp;omega
 have p7:¬x=240:=by omega
 have t8:(x == 244)=false:=by simp;omega
 have p8:¬x=244:=by omega
 rw[if_neg (by omega),if_neg p0,if_neg (by omega)]at hv;rw[if_neg p5,if_neg p7,if_neg p6,if_neg p8]at hv;rw[if_neg (show ¬x<224 by omega),if_pos (show x<240 by omega)]at hv;have C1:Hd (∀w,Calls prog 203 #[.string s,.int .i64 ((i:Int)+1),.int .u8 128,.int .u8 191] w fun e w'=>e=.returned (.bool (dF s.data.toList (i+1) 128 191))/\w'=w):=fun w=>kW s (i+1) 128 191 (by decide) w hs
 have C2:Hd (∀w,Calls prog 203 #[.string s,.int .i64 ((i:Int)+2),.int .u8 128,.int .u8 191] w fun e w'=>e=.returned (.bool (dF s.data.toList (i+2) 128 191))/\w'=w):=fun w=>kW s (i+2) 128 191 (by decide) w hs
 obtain⟨b1,hb1⟩:∃b,dF s.data.toList (i+1) 128 191=b:=⟨_,rfl⟩;obtain⟨b2,hb2⟩:∃b,dF s.data.toList (i+2) 128 191=b:=⟨_,rfl⟩;rw[hb1]at C1 hv;rw[hb2]at C2 hv;rw[hv];clear hv hc hb1 hb2
 cases b1 with
 | false =>
  go_enter func161,ntmps161;go_wp2_with (go_at_call 203;refine(C1.o _).mono ?_;rintro e w' ⟨rfl,rfl⟩);go_ret;exact⟨rfl,rfl⟩
 | true =>
  cases b2 with
  | false =>
   go_enter func161,ntmps161;go_wp2_with (go_at_call 203;refine(C1.o _).mono ?_;rintro e w' ⟨rfl,rfl⟩);refine wp_loop_rounds 1 ?_;rw[rounds_succ];go_wp2_with (go_at_call 203;refine(C2.o _).mono ?_;rintro e w' ⟨rfl,rfl⟩);go_ret;exact⟨rfl,rfl⟩
  | true =>
   go_enter func161,ntmps161;go_wp2_with (go_at_call 203;refine(C1.o _).mono ?_;rintro e w' ⟨rfl,rfl⟩);refine wp_loop_rounds 2 ?_;rw[rounds_succ];go_wp2_with (go_at_call 203;refine(C2.o _).mono ?_;rintro e w' ⟨rfl,rfl⟩);rw[rounds_succ];go_wp2;go_ret;exact⟨rfl,rfl⟩
theorem Y0(s:ByteArray)(i:Nat)(hi:i<s.size)(w:World)(hs:s.size<=1048576)(x:Int)(hx:(s[i].toNat:Int)=x)(h0:0<=x)(hc:x=240) :
  Calls prog 161 #[.string s,.int .i64 (i:Nat)] w fun e w'=>e=.returned (.int .i64 (aJ s.data.toList i:Nat))/\w'=w:=by
 have hv:=qN s.data.toList i x ((byte_at s i hi).trans hx);have t0:decide (x<128)=false:=by simp;omega
 have p0:¬x<128:=by omega
 have t1:decide (x<194)=false:=by simp;omega
 have p1:¬x<194:=by omega
 have t2:decide (244<x)=false:=by simp;omega
 have p2:¬244<x:=by omega
 have t3:decide (224<=x)=true:=by simp;omega
 have p3:224<=x:=by omega
 have t4:decide (240<=x)=true:=by simp;omega
 have p4:240<=x:=by omega
 have t5:(x == 224)=false:=by simp;omega
 have p5:¬x=224:=by omega
 have t6:(x == 237)=false:=by simp;omega
 have p6:¬x=237:=by omega
 have t7:(x == 240)=true:=by simp;omega
 have p7:x=240:=by omega
 have t8:(x == 244)=false:=by simp;omega
 have p8:¬x=244:=by omega
 rw[if_neg (by omega),if_neg p0,if_neg (by omega)]at hv;rw[if_neg p5,if_pos p7,if_neg p6,if_neg p8]at hv;rw[if_neg (show ¬x<224 by omega),if_neg (show ¬x<240 by omega)]at hv;have C1:Hd (∀w,Calls prog 203 #[.string s,.int .i64 ((i:Int)+1),.int .u8 144,.int .u8 191] w fun e w'=>e=.returned (.bool (dF s.data.toList (i+1) 144 191))/\w'=w):=fun w=>kW s (i+1) 144 191 (by decide) w hs
 have C2:Hd (∀w,Calls prog 203 #[.string s,.int .i64 ((i:Int)+2),.int .u8 128,.int .u8 191] w fun e w'=>e=.returned (.bool (dF s.data.toList (i+2) 128 191))/\w'=w):=fun w=>kW s (i+2) 128 191 (by decide) w hs
 have C3:Hd (∀w,Calls prog 203 #[.string s,.int .i64 ((i:Int)+3),.int .u8 128,.int .u8 191] w fun e w'=>e=.returned (.bool (dF s.data.toList (i+3) 128 191))/\w'=w):=fun w=>kW s (i+3) 128 191 (by decide) w hs
 obtain⟨b1,hb1⟩:∃b,dF s.data.toList (i+1) 144 191=b:=⟨_,rfl⟩;obtain⟨b2,hb2⟩:∃b,dF s.data.toList (i+2) 128 191=b:=⟨_,rfl⟩;obtain⟨b3,hb3⟩:∃b,dF s.data.toList (i+3) 128 191=b:=⟨_,rfl⟩;rw[hb1]at C1 hv;rw[hb2]at C2 hv;rw[hb3]at C3 hv;rw[hv];clear hv hc hb1 hb2 hb3
 cases b1 with
 | false =>
  go_enter func161,ntmps161;go_wp2_with (go_at_call 203;refine(C1.o _).mono ?_;rintro e w' ⟨rfl,rfl⟩);go_ret;exact⟨rfl,rfl⟩
 | true =>
  cases b2 with
  | false =>
   go_enter func161,ntmps161;go_wp2_with (go_at_call 203;refine(C1.o _).mono ?_;rintro e w' ⟨rfl,rfl⟩);refine wp_loop_rounds 1 ?_;rw[rounds_succ];go_wp2_with (go_at_call 203;refine(C2.o _).mono ?_;rintro e w' ⟨rfl,rfl⟩);go_ret;exact⟨rfl,rfl⟩
  | true =>
   cases b3 with
   | false =>
    go_enter func161,ntmps161;go_wp2_with (go_at_call 203;refine(C1.o _).mono ?_;rintro e w' ⟨rfl,rfl⟩);refine wp_loop_rounds 2 ?_;rw[rounds_succ];go_wp2_with (go_at_call 203;refine(C2.o _).mono ?_;rintro e w' ⟨rfl,rfl⟩);rw[rounds_succ];go_wp2_with (go_at_call 203;refine(C3.o _).mono ?_;rintro e w' ⟨rfl,rfl⟩);go_ret;exact⟨rfl,rfl⟩
   | true =>
    go_enter func161,ntmps161;go_wp2_with (go_at_call 203;refine(C1.o _).mono ?_;rintro e w' ⟨rfl,rfl⟩);refine wp_loop_rounds 3 ?_;rw[rounds_succ];go_wp2_with (go_at_call 203;refine(C2.o _).mono ?_;rintro e w' ⟨rfl,rfl⟩);rw[rounds_succ];go_wp2_with (go_at_call 203;refine(C3.o _).mono ?_;rintro e w' ⟨rfl,rfl⟩);rw[rounds_succ];go_wp2;go_ret;exact⟨rfl,rfl⟩
theorem Y1(s:ByteArray)(i:Nat)(hi:i<s.size)(w:World)(hs:s.size<=1048576)(x:Int)(hx:(s[i].toNat:Int)=x)(h0:0<=x)(hc:241<=x/\x<=243) :
  Calls prog 161 #[.string s,.int .i64 (i:Nat)] w fun e w'=>e=.returned (.int .i64 (aJ s.data.toList i:Nat))/\w'=w:=by
 have hv:=qN s.data.toList i x ((byte_at s i hi).trans hx);have t0:decide (x<128)=false:=by simp;omega
 have p0:¬x<128:=by omega
 have t1:decide (x<194)=false:=by simp;omega
 have p1:¬x<194:=by omega
 have t2:decide (244<x)=false:=by simp;omega
 have p2:¬244<x:=by omega
 have t3:decide (224<=x)=true:=by simp;omega
 have p3:224<=x:=by omega
 have t4:decide (240<=x)=true:=by simp;omega
 have p4:240<=x:=by omega
 have t5:(x == 224)=false:=by simp;omega
 have p5:¬x=224:=by omega
 have t6:(x == 237)=false:=by simp;omega
 have p6:¬x=237:=by omega
 have t7:(x == 240)=false:=by simp;omega
 have p7:¬x=240:=by omega
 have t8:(x == 244)=false:=by simp;omega
 have p8:¬x=244:=by omega
 rw[if_neg (by omega),if_neg p0,if_neg (by omega)]at hv;rw[if_neg p5,if_neg p7,if_neg p6,if_neg p8]at hv;rw[if_neg (show ¬x<224 by omega),if_neg (show ¬x<240 by omega)]at hv;have C1:Hd (∀w,Calls prog 203 #[.string s,.int .i64 ((i:Int)+1),.int .u8 128,.int .u8 191] w fun e w'=>e=.returned (.bool (dF s.data.toList (i+1) 128 191))/\w'=w):=fun w=>kW s (i+1) 128 191 (by decide) w hs
 have C2:Hd (∀w,Calls prog 203 #[.string s,.int .i64 ((i:Int)+2),.int .u8 128,.int .u8 191] w fun e w'=>e=.returned (.bool (dF s.data.toList (i+2) 128 191))/\w'=w):=fun w=>kW s (i+2) 128 191 (by decide) w hs
 have C3:Hd (∀w,Calls prog 203 #[.string s,.int .i64 ((i:Int)+3),.int .u8 128,.int .u8 191] w fun e w'=>e=.returned (.bool (dF s.data.toList (i+3) 128 191))/\w'=w):=fun w=>kW s (i+3) 128 191 (by decide) w hs
 obtain⟨b1,hb1⟩:∃b,dF s.data.toList (i+1) 128 191=b:=⟨_,rfl⟩;obtain⟨b2,hb2⟩:∃b,dF s.data.toList (i+2) 128 191=b:=⟨_,rfl⟩;obtain⟨b3,hb3⟩:∃b,dF s.data.toList (i+3) 128 191=b:=⟨_,rfl⟩;rw[hb1]at C1 hv;rw[hb2]at C2 hv;rw[hb3]at C3 hv;rw[hv];clear hv hc hb1 hb2 hb3
 cases b1 with
 | false =>
  go_enter func161,ntmps161;go_wp2_with (go_at_call 203;refine(C1.o _).mono ?_;rintro e w' ⟨rfl,rfl⟩);go_ret;exact⟨rfl,rfl⟩
 | true =>
  cases b2 with
  | false =>
   go_enter func161,ntmps161;go_wp2_with (go_at_call 203;refine(C1.o _).mono ?_;rintro e w' ⟨rfl,rfl⟩);refine wp_loop_rounds 1 ?_;rw[rounds_succ];go_wp2_with (go_at_call 203;refine(C2.o _).mono ?_;rintro e w' ⟨rfl,rfl⟩);go_ret;exact⟨rfl,rfl⟩
  | true =>
   cases b3 with
   | false =>
    go_enter func161,ntmps161;go_wp2_with (go_at_call 203;refine(C1.o _).mono ?_;rintro e w' ⟨rfl,rfl⟩);refine wp_loop_rounds 2 ?_;rw[rounds_succ];go_wp2_with (go_at_call 203;refine(C2.o _).mono ?_;rintro e w' ⟨rfl,rfl⟩);rw[rounds_succ];go_wp2_with (go_at_call 203;refine(C3.o _).mono ?_;rintro e w' ⟨rfl,rfl⟩);go_ret;exact⟨rfl,rfl⟩
   | true =>
    go_enter func161,ntmps161;go_wp2_with (go_at_call 203;refine(C1.o _).mono ?_;rintro e w' ⟨rfl,rfl⟩);refine wp_loop_rounds 3 ?_;rw[rounds_succ];go_wp2_with (go_at_call 203;refine(C2.o _).mono ?_;rintro e w' ⟨rfl,rfl⟩);rw[rounds_succ];go_wp2_with (go_at_call 203;refine(C3.o _).mono ?_;rintro e w' ⟨rfl,rfl⟩);rw[rounds_succ];go_wp2;go_ret;exact⟨rfl,rfl⟩
theorem Y2(s:ByteArray)(i:Nat)(hi:i<s.size)(w:World)(hs:s.size<=1048576)(x:Int)(hx:(s[i].toNat:Int)=x)(h0:0<=x)(hc:x=244) :
  Calls prog 161 #[.string s,.int .i64 (i:Nat)] w fun e w'=>e=.returned (.int .i64 (aJ s.data.toList i:Nat))/\w'=w:=by
 have hv:=qN s.data.toList i x ((byte_at s i hi).trans hx);have t0:decide (x<128)=false:=by simp;omega
 have p0:¬x<128:=by omega
 have t1:decide (x<194)=false:=by simp;omega
 have p1:¬x<194:=by omega
 have t2:decide (244<x)=false:=by simp;omega
 have p2:¬244<x:=by omega
 have t3:decide (224<=x)=true:=by simp;omega
 have p3:224<=x:=by omega
 have t4:decide (240<=x)=true:=by simp;omega
 have p4:240<=x:=by omega
 have t5:(x == 224)=false:=by simp;omega
 have p5:¬x=224:=by omega
 have t6:(x == 237)=false:=by simp;omega
 have p6:¬x=237:=by omega
 have t7:(x == 240)=false:=by simp;omega
 have p7:¬x=240:=by omega
 have t8:(x == 244)=true:=by simp;omega
 have p8:x=244:=by omega
 rw[if_neg (by omega),if_neg p0,if_neg (by omega)]at hv;rw[if_neg p5,if_neg p7,if_neg p6,if_pos p8]at hv;rw[if_neg (show ¬x<224 by omega),if_neg (show ¬x<240 by omega)]at hv;have C1:Hd (∀w,Calls prog 203 #[.string s,.int .i64 ((i:Int)+1),.int .u8 128,.int .u8 143] w fun e w'=>e=.returned (.bool (dF s.data.toList (i+1) 128 143))/\w'=w):=fun w=>kW s (i+1) 128 143 (by decide) w hs
 have C2:Hd (∀w,Calls prog 203 #[.string s,.int .i64 ((i:Int)+2),.int .u8 128,.int .u8 191] w fun e w'=>e=.returned (.bool (dF s.data.toList (i+2) 128 191))/\w'=w):=fun w=>kW s (i+2) 128 191 (by decide) w hs
 have C3:Hd (∀w,Calls prog 203 #[.string s,.int .i64 ((i:Int)+3),.int .u8 128,.int .u8 191] w fun e w'=>e=.returned (.bool (dF s.data.toList (i+3) 128 191))/\w'=w):=fun w=>kW s (i+3) 128 191 (by decide) w hs
 obtain⟨b1,hb1⟩:∃b,dF s.data.toList (i+1) 128 143=b:=⟨_,rfl⟩;obtain⟨b2,hb2⟩:∃b,dF s.data.toList (i+2) 128 191=b:=⟨_,rfl⟩;obtain⟨b3,hb3⟩:∃b,dF s.data.toList (i+3) 128 191=b:=⟨_,rfl⟩;rw[hb1]at C1 hv;rw[hb2]at C2 hv;rw[hb3]at C3 hv;rw[hv];clear hv hc hb1 hb2 hb3
 cases b1 with
 | false =>
  go_enter func161,ntmps161;go_wp2_with (go_at_call 203;refine(C1.o _).mono ?_;rintro e w' ⟨rfl,rfl⟩);go_ret;exact⟨rfl,rfl⟩
 | true =>
  cases b2 with
  | false =>
   go_enter func161,ntmps161;go_wp2_with (go_at_call 203;refine(C1.o _).mono ?_;rintro e w' ⟨rfl,rfl⟩);refine wp_loop_rounds 1 ?_;rw[rounds_succ];go_wp2_with (go_at_call 203;refine(C2.o _).mono ?_;rintro e w' ⟨rfl,rfl⟩);go_ret;exact⟨rfl,rfl⟩
  | true =>
   cases b3 with
   | false =>
    go_enter func161,ntmps161;go_wp2_with (go_at_call 203;refine(C1.o _).mono ?_;rintro e w' ⟨rfl,rfl⟩);refine wp_loop_rounds 2 ?_;rw[rounds_succ];go_wp2_with (go_at_call 203;refine(C2.o _).mono ?_;rintro e w' ⟨rfl,rfl⟩);rw[rounds_succ];go_wp2_with (go_at_call 203;refine(C3.o _).mono ?_;rintro e w' ⟨rfl,rfl⟩);go_ret;exact⟨rfl,rfl⟩
   | true =>
    go_enter func161,ntmps161;go_wp2_with (go_at_call 203;refine(C1.o _).mono ?_;rintro e w' ⟨rfl,rfl⟩);refine wp_loop_rounds 3 ?_;rw[rounds_succ];go_wp2_with (go_at_call 203;refine(C2.o _).mono ?_;rintro e w' ⟨rfl,rfl⟩);rw[rounds_succ];go_wp2_with (go_at_call 203;refine(C3.o _).mono ?_;rintro e w' ⟨rfl,rfl⟩);rw[rounds_succ];go_wp2;go_ret;exact⟨rfl,rfl⟩
theorem Y3(s:ByteArray)(i:Nat)(hi:i<s.size)(w:World)(hs:s.size<=1048576) :
  Calls prog 161 #[.string s,.int .i64 (i:Nat)] w fun e w'=>e=.returned (.int .i64 (aJ s.data.toList i:Nat))/\w'=w:=by
 obtain⟨x,hx⟩:∃x:Int,(s[i].toNat:Int)=x:=⟨_,rfl⟩;have h0:0<=x:=by omega
 have hor:x<128\/(128<=x/\x<194)\/244<x\/(194<=x/\x<224)\/x=224\/(225<=x/\x<=236)\/x=237\/(238<=x/\x<=239)\/x=240\/(241<=x/\x<=243)\/x=244:=by omega
 rcases hor with h|h|h|h|h|h|h|h|h|h|h
 ·exact YS s i hi w hs x hx h0 h
 ·exact YT s i hi w hs x hx h0 h
 ·exact YU s i hi w hs x hx h0 h
 ·exact YV s i hi w hs x hx h0 h
 ·exact YW s i hi w hs x hx h0 h
 ·exact YX s i hi w hs x hx h0 h
 ·exact YY s i hi w hs x hx h0 h
 ·exact YZ s i hi w hs x hx h0 h
 ·exact Y0 s i hi w hs x hx h0 h
 ·exact Y1 s i hi w hs x hx h0 h
 ·exact Y2 s i hi w hs x hx h0 h
open Go.RowKit Go.Joins
theorem QX(c:Int)(w:World):Calls prog 106 #[.int .i64 c] w fun e w'=>e=.returned (.bool (aO c))/\w'=w:=by
 have CS:Hd (∀w,Calls prog 150 #[.int .i64 c] w fun e w'=>e=.returned (.bool (bi c))/\w'=w):=fun w=>QB c w
 have CD:Hd (∀w,Calls prog 151 #[.int .i64 c] w fun e w'=>e=.returned (.bool (au c))/\w'=w):=fun w=>Ff c w
 have HB:Hd (aO c=(bi c || decide (65<=c/\c<=90) || au c || decide (c=95) || decide (c=45))):=rfl;obtain⟨b,hb⟩:=zN (bi c);obtain⟨d,hd⟩:=zN (au c);rw[hb]at CS HB;rw[hd]at CD HB;clear hb hd
 cases b with
 | true =>
  go_enter func106,ntmps106;go_wp2_with (first|(go_at_call 150;refine(CS.o _).mono ?_;rintro e w' ⟨rfl,rfl⟩)|(go_at_call 151;refine(CD.o _).mono ?_;rintro e w' ⟨rfl,rfl⟩));go_ret;refine⟨bV ?_,rfl⟩;rw[HB.o];rfl
 | false =>
  cases d with
  | true =>
   go_enter func106,ntmps106;go_wp2_with (first|(go_at_call 150;refine(CS.o _).mono ?_;rintro e w' ⟨rfl,rfl⟩)|(go_at_call 151;refine(CD.o _).mono ?_;rintro e w' ⟨rfl,rfl⟩))
   all_goals go_ret
   all_goals (refine⟨bV ?_,rfl⟩;rw[HB.o,Bool.eq_iff_iff];simp;try omega)
  | false =>
   go_enter func106,ntmps106;go_wp2_with (first|(go_at_call 150;refine(CS.o _).mono ?_;rintro e w' ⟨rfl,rfl⟩)|(go_at_call 151;refine(CD.o _).mono ?_;rintro e w' ⟨rfl,rfl⟩))
   all_goals go_ret
   all_goals (refine⟨bV ?_,rfl⟩;rw[HB.o,Bool.eq_iff_iff];simp;try omega)
theorem FI(c:Int):-1<=hexV c/\hexV c<16:=by
 unfold hexV au;simp only[decide_eq_true_eq]
 repeat' split
 all_goals omega
theorem Y4(c:Int)(hc:-1<=c/\c<256)(w:World):Calls prog 237 #[.int .i64 c] w fun e w'=>e=.returned (.int .i64 (hexV c))/\w'=w:=by
 have CD:Hd (∀w,Calls prog 151 #[.int .i64 c] w fun e w'=>e=.returned (.bool (au c))/\w'=w):=fun w=>Ff c w
 have HX:Hd (hexV c=if au c=true then c-48 else if 97<=c/\c<=102 then c-87 else if 65<=c/\c<=70 then c-55 else -1):=rfl;obtain⟨d,hd⟩:=zN (au c);rw[hd]at CD HX;clear hd;obtain⟨h1,h2⟩:=hc;obtain⟨y,hy⟩:=zN (hexV c);rw[hy]at HX ⊢;clear hy
 cases d with
 | true =>
  go_enter func237,ntmps237;go_wp2_with (go_at_call 151;refine(CD.o _).mono ?_;rintro e w' ⟨rfl,rfl⟩);go_ret;refine⟨dD ?_,rfl⟩;rw[HX.o];simp
 | false =>
  go_enter func237,ntmps237;go_wp2_with (go_at_call 151;refine(CD.o _).mono ?_;rintro e w' ⟨rfl,rfl⟩)
  all_goals go_ret
  all_goals (refine⟨dD ?_,rfl⟩;rw[HX.o];simp;try omega)
open Go.RowKit Go.Joins
structure Es(w:World)(E:Int->TypeId × Value):Prop where
 te:w.cell? ⟨6,0,none⟩=some (.iface (E 2).1 (E 2).2)
 ra:w.cell? ⟨1,0,none⟩=some (.iface (E 3).1 (E 3).2)
 ma:w.cell? ⟨2,0,none⟩=some (.iface (E 4).1 (E 4).2)
 tw:w.cell? ⟨3,0,none⟩=some (.iface (E 5).1 (E 5).2)
structure Far(R:Nat):Prop where
 te:¬R=6
 ra:¬R=1
 ma:¬R=2
 tw:¬R=3
theorem Es.grow{w w':World}{E:Int->TypeId × Value}{R:Nat}(h:Es w E)(hR:Far R)(hg:w.grownBy w' (some R)):Es w' E :=
 ⟨hg.cell h.te (by simp;exact fun e=>hR.te e.symm),hg.cell h.ra (by simp;exact fun e=>hR.ra e.symm),hg.cell h.ma (by simp;exact fun e=>hR.ma e.symm),hg.cell h.tw (by simp;exact fun e=>hR.tw e.symm)⟩
def aV(w:World)(v:Value)(E:Int->TypeId × Value)(c:Int)(p:Nat):Prop:=FaultV w v p (E c).1 (E c).2
def Bo(R:Nat)(s:ByteArray)(T:Nat)(E:Int->TypeId × Value)(g:Rs (Int × Nat))(w:World)(e:Ending)(w':World):Prop:=(∀n j,g=.ok (n,j)->e=.returned (.tuple #[.int .i64 n,.nilIface])/\Rd w' R s j T)/\(∀c p,g=.error (c,p)->∃v,e=.returned (.tuple #[.int .i64 0,v])/\aV w' v E c p/\∃j,Rd w' R s j T)/\w.grownBy w' (some R)
theorem FK(l:List UInt8)(i:Nat):kU l i=if ag l i (toR bi l i-i)=[116,114,117,101] then .ok (1,toR bi l i) else if ag l i (toR bi l i-i)=[102,97,108,115,101] then .ok (0,toR bi l i) else .error (2,i):=rfl
theorem Y5(R:Nat)(s:ByteArray)(i T:Nat)(E:Int->TypeId × Value)(w:World)(h:Rd w R s i T)(hi:i<=s.size)(hs:s.size<=1048576)(he:Es w E)(hR:Far R) :
  Calls prog 198 #[.pointer (some ⟨R,0,none⟩)] w (Bo R s T E (kU s.data.toList i) w):=by
 have CN:Hd (∀k w,Rd w R s k T->k<=s.size->Calls prog 104 #[.pointer (some ⟨R,0,none⟩)] w fun e w'=>e=.returned (.int .i64 (nx s.data.toList k))/\w.grownBy w' none):=fun k w h1 h2=>mV R s k T w h1 h2 hs
 have CB:Hd (∀c w,Calls prog 150 #[.int .i64 c] w fun e w'=>e=.returned (.bool (bi c))/\w'=w):=QB;have CW:Hd (∀w,Calls prog 195 #[.iface (E 2).1 (E 2).2,.int .i64 (i:Nat)] w fun e w'=>(∃v,e=.returned v/\FaultV w' v i (E 2).1 (E 2).2)/\w.grownBy w' none):=fun w=>rV i _ _ w
 have lI:Hd (∀w',w.grownBy w' (some R)->w'.cell? ⟨6,0,none⟩=some (.iface (E 2).1 (E 2).2)):=fun w' hg=>(he.grow hR hg).te
 have dP:Hd (∀w' v,FaultV w' v i (E 2).1 (E 2).2->aV w' v E 2 i):=fun _ _ h=>h
 obtain⟨ty,hty⟩:=zN ((E 2).1);obtain⟨pv,hpv⟩:=zN ((E 2).2);rw[hty,hpv]at CW lI dP;have hl:s.data.toList.length=s.size:=by simp
 have HST:Hd (∀k,k<s.size->bi (nx s.data.toList k)=true->toR bi s.data.toList k=toR bi s.data.toList (k+1)):=fun k hk hb=>qH bi _ k (by omega) hb
 have jO:Hd (∀k,bi (nx s.data.toList k)=false->toR bi s.data.toList k=k):=fun k hb=>lX bi _ k hb
 have cZ:Hd (∀k,k<=s.size->bi (nx s.data.toList k)=true->k<s.size):=fun k hk hb=>by
  apply Classical.byContradiction;intro hn;rw[jG _ _ (by omega)]at hb;exact absurd hb (by decide)
 have kM:Hd (kU s.data.toList i=if ag s.data.toList i (toR bi s.data.toList i-i)=[116,114,117,101] then .ok (1,toR bi s.data.toList i) else if ag s.data.toList i (toR bi s.data.toList i-i)=[102,97,108,115,101] then .ok (0,toR bi s.data.toList i) else .error (2,i)):=FK _ i;have hij:=pI bi s.data.toList i (by omega);rw[hl]at hij;obtain⟨J,hJ⟩:=zN (toR bi s.data.toList i);have HJ:Hd (toR bi s.data.toList i=J):=hJ;obtain⟨G,hG⟩:=zN (kU s.data.toList i);rw[hJ]at kM hij;rw[hG]at kM ⊢;obtain⟨hij1,hij2⟩:=hij;have H0:Hd (Rd w R s i T):=h;obtain⟨X,hX⟩:∃X:ByteArray,X=⟨(ag s.data.toList i (J-i)).toArray⟩:=⟨_,rfl⟩;have s1:∀wx,(Instr.slice 9 (.string s) (some (.int .i64 (i:Int))) (some (.int .i64 (J:Int))) none).run prog wx=.ok (.string X) wx:=fun wx=>by rw[hX];exact lC s i J hij1 hij2 wx
 have uk:Hd (X.toList=ag s.data.toList i (J-i)):=by show _=_;rw[hX,ByteArray.toList_eq]
 obtain⟨c0,c1,-,-⟩:=h.cells;clear h hJ hG hX hty hpv he;go_enter func198,ntmps198;go_wp2;go_loopw [] (fun wr=>∃k:Nat,Rd wr R s k T/\k<=s.size/\toR bi s.data.toList k=J/\w.grownBy wr (some R)) (fun wr=>s.size-(match wr.cell? ⟨R,1,none⟩ with|some (.int _ k)=>k.toNat|_=>0))
 case atStart=>exact⟨i,H0.o,hi,HJ.o,ax _ _⟩
 case round =>
  obtain⟨k,hrd,hk,hbl,hg⟩:=hrel;have dB:Hd (Rd wr R s k T):=hrd;have fQ:Hd (toR bi s.data.toList k=J):=hbl;have HG:Hd (w.grownBy wr (some R)):=hg;have C1:Hd (Calls prog 104 #[.pointer (some ⟨R,0,none⟩)] wr fun e w'=>e=.returned (.int .i64 (nx s.data.toList k))/\wr.grownBy w' none):=CN.o k wr hrd hk;have hme:(match wr.cell? ⟨R,1,none⟩ with|some (.int _ k)=>k.toNat|_=>0)=k:=by rw[hrd.cells.2.1];simp
  have gK:Hd ((match wr.cell? ⟨R,1,none⟩ with|some (.int _ k)=>k.toNat|_=>0)=k):=hme;have dZ:Hd (bi (nx s.data.toList k)=true->toR bi s.data.toList k=toR bi s.data.toList (k+1)):=fun hb=>HST.o k (cZ.o k hk hb) hb
  have HS2:Hd (bi (nx s.data.toList k)=false->toR bi s.data.toList k=k):=jO.o k;have HL2:Hd (bi (nx s.data.toList k)=true->k<s.size):=cZ.o k hk;obtain⟨c,hc⟩:=zN (nx s.data.toList k);rw[hc]at C1 dZ HS2 HL2;have iK:Hd (∀w,Calls prog 150 #[.int .i64 c] w fun e w'=>e=.returned (.bool (bi c))/\w'=w):=fun w=>CB.o c w
  obtain⟨b,hb⟩:=zN (bi c);rw[hb]at iK dZ HS2 HL2;clear hrd hbl hg hme hc hb c0 c1
  cases b with
  | false =>
   have uh:Hd (k=J):=(HS2.o (by trivial)).symm.trans fQ.o;go_wp2_with (first|(go_at_call 104;refine C1.o.mono ?_;rintro e w2 ⟨rfl,hg2⟩)|(go_at_call 150;refine(iK.o _).mono ?_;rintro e w' ⟨rfl,rfl⟩));have HR2:Hd (Rd w' R s J T):=by rw[<-uh.o];exact dB.o.grow hg2
   have HG2:Hd (w.grownBy w' (some R)):=aG HG.o hg2;obtain⟨d0,d1,-,-⟩:=HR2.o.cells;have dte:=lI.o _ HG2.o;clear hg2;have J9:Hd (G=if X.toList=[116,114,117,101] then .ok (1,J) else if X.toList=[102,97,108,115,101] then .ok (0,J) else .error (2,i)):=by show _=_;rw[uk.o];exact kM.o
   by_cases h1:X.toList=[116,114,117,101]
   ·have hb:(X.toList == [116,114,117,101])=true:=by simp[h1]
    have aA:Hd (G=.ok (1,J)):=by show G=_;rw[J9.o,if_pos h1]
    clear h1;go_quiet (fail);go_wp2;refine bodyPost_ret (results_tmp2 (t:=2) (u:=3) rfl _ _ _) rfl ?_;rw[aA.o];exact⟨fun n j hh=>(by cases hh;exact⟨rfl,HR2.o⟩),fun c p hh=>(by cases hh),aj HG2.o _⟩
   ·have hb:(X.toList == [116,114,117,101])=false:=by simp[h1]
    by_cases h2:X.toList=[102,97,108,115,101]
    ·have hb2:(X.toList == [102,97,108,115,101])=true:=by simp[h2]
     have aA:Hd (G=.ok (0,J)):=by show G=_;rw[J9.o,if_neg h1,if_pos h2]
     clear h1 h2;go_quiet (fail);go_wp2;refine bodyPost_ret (results_tmp2 (t:=2) (u:=3) rfl _ _ _) rfl ?_;rw[aA.o];exact⟨fun n j hh=>(by cases hh;exact⟨rfl,HR2.o⟩),fun c p hh=>(by cases hh),aj HG2.o _⟩
    ·have hb2:(X.toList == [102,97,108,115,101])=false:=by simp[h2]
     have aA:Hd (G=.error (2,i)):=by show G=_;rw[J9.o,if_neg h1,if_neg h2]
     clear h1 h2;go_quiet (fail);go_wp2_with (go_at_call 195;refine(CW.o _).mono ?_;rintro e w3 ⟨⟨v,rfl,hv⟩,hg3⟩);refine bodyPost_ret (results_tmp2 (t:=2) (u:=3) rfl _ _ _) rfl ?_;rw[aA.o];exact⟨fun n j hh=>(by cases hh),fun c p hh=>(by cases hh;exact⟨v,rfl,dP.o _ _ hv,J,Rd.grow (w:=World.drewN w' _) HR2.o hg3⟩),aG (aj HG2.o _) hg3⟩
  | true =>
   have hkl:k<s.size:=HL2.o (by trivial);have HN:Hd (toR bi s.data.toList (k+1)=J):=(dZ.o (by trivial)).symm.trans fQ.o;go_wp2_with (first|(go_at_call 104;refine C1.o.mono ?_;rintro e w2 ⟨rfl,hg2⟩;obtain⟨-,d1,-,df⟩:=(dB.o.grow hg2).cells;have df1:=df 1)|(go_at_call 150;refine(iK.o _).mono ?_;rintro e w' ⟨rfl,rfl⟩));have jH:Hd (Rd (w'.setCell ⟨R,1,none⟩ (.int .i64 ((k:Int)+1))) R s (k+1) T):=(dB.o.grow hg2).set (k+1);refine⟨⟨k+1,jH.o,by omega,HN.o,aQ (aG HG.o hg2) 1 _⟩,?_⟩;rw[gK.o,jH.o.cells.2.1];simp;omega
end Go.Proofs.YtnnbgjaphfhibaaGreatDoor
