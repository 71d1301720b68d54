import Derived.Test.YtnnbgjaphfhibaaGreatDoorE07
import Derived.Test.YtnnbgjaphfhibaaGreatDoorE06
import Derived.Laws.BytesString
set_option linter.all false
set_option maxRecDepth 100000
set_option maxHeartbeats 0
open Go.Proofs.Tryz
namespace Go.Proofs.YtnnbgjaphfhibaaGreatDoor
open Go.RowKit Go.Joins
theorem abp(R:Nat)(s:ByteArray)(L O:Value)(now de:Nat)(q:Rs Nat)(w:World)(h:Ds w R s L O now de q)(hs:s.size<=1048576) :
  Calls prog 162 #[.pointer (some ⟨R,0,none⟩)] w fun e w'=>e=.returned (.tuple #[])/\Ds w' R s L O now de (q.bind (gap s.data.toList (s.data.toList.length+1)))/\w.grownBy w' (some R):=by
 have hl:s.data.toList.length=s.size:=by simp
 have CI:=ae (fun q c w (h0:0<=c) (h1:Ds w R s L O now de q)=>tH R s L O now de q c h0 w h1 hs);have CC:=ae (fun q w (h:Ds w R s L O now de q)=>S9 R s L O now de q w h hs);have bP:Hd (∀k,0<=nx s.data.toList k->k<s.size):=fun k hb=>by rw[<-hl];exact aY hb
 have HX:Hd (∀k (hk:k<s.size),nx s.data.toList k=(s[k].toNat:Int)):=byte_at s;have jC:=ae (fun f k (hb:eU (nx s.data.toList k)=true)=>(aaR _ (f+1) k hb).resolve_right (by omega));have HE2:Hd (∀f k,nx s.data.toList k=10->gap s.data.toList (f+1) k=gap s.data.toList f (k+1)):=SH _;have Lm:Hd (∀f k,nx s.data.toList k=35->gap s.data.toList (f+1) k=(jo s.data.toList k).bind (gap s.data.toList (f+1))):=aaS _;have GN:Hd (∀f k,eU (nx s.data.toList k)=false->¬nx s.data.toList k=10->¬nx s.data.toList k=35->gap s.data.toList (f+1) k=.ok k):=SK _;have Hm:Hd (∀k j,nx s.data.toList k=35->jo s.data.toList k=.ok j->k<j/\j<=s.size):=fun k j h1 h2=>by rw[<-hl];exact aaT _ k j h1 h2
 obtain⟨G,hG⟩:=zN (q.bind (gap s.data.toList (s.data.toList.length+1)));have jl:=ae hG;have H0:=ae h;rw[hG];have wX:Hd (∀k,q=.ok k->s.size-k<s.data.toList.length+1):=fun k _=>by omega
 clear h hG;go_enter func162,ntmps162;go_wp2;go_loopw [] (fun wr=>∃(q:Rs Nat) (f:Nat),Ds wr R s L O now de q/\(∀k,q=.ok k->s.size-k<f)/\q.bind (gap s.data.toList f)=G/\w.grownBy wr (some R)) (fun wr=>dM wr R s)
 case atStart=>exact⟨q,_,H0.o,wX.o,jl.o,au _ _⟩
 case round =>
  obtain⟨q,f,hds,hf,nX,hg⟩:=hrel;have HG:=ae hg;have fG:=ae hds;have C1:=ae (CI.o q);obtain⟨b1,hb1⟩:=zN (iU s.data.toList q 32);obtain⟨b2,hb2⟩:=zN (iU s.data.toList q 9);obtain⟨b3,hb3⟩:=zN (iU s.data.toList q 10);obtain⟨b4,hb4⟩:=zN (iU s.data.toList q 35);have yK:Hd (∀w,Ds w R s L O now de q->Calls prog 52 #[.pointer (some ⟨R,0,none⟩),.int .u8 32] w fun e w'=>e=.returned (.bool b1)/\w.grownBy w' none):=fun w h=>by rw[<-hb1];exact C1.o 32 w (by decide) h
  have C9:Hd (∀w,Ds w R s L O now de q->Calls prog 52 #[.pointer (some ⟨R,0,none⟩),.int .u8 9] w fun e w'=>e=.returned (.bool b2)/\w.grownBy w' none):=fun w h=>by rw[<-hb2];exact C1.o 9 w (by decide) h
  have C10:Hd (∀w,Ds w R s L O now de q->Calls prog 52 #[.pointer (some ⟨R,0,none⟩),.int .u8 10] w fun e w'=>e=.returned (.bool b3)/\w.grownBy w' none):=fun w h=>by rw[<-hb3];exact C1.o 10 w (by decide) h
  have TP:Hd (∀w,Ds w R s L O now de q->Calls prog 52 #[.pointer (some ⟨R,0,none⟩),.int .u8 35] w fun e w'=>e=.returned (.bool b4)/\w.grownBy w' none):=fun w h=>by rw[<-hb4];exact C1.o 35 w (by decide) h
  clear hds hg C1 CI
  by_cases hor:b1=true\/b2=true\/b3=true\/b4=true
  ·-- it goes on
   obtain⟨k,hq⟩:∃k,q=.ok k:=by
    match q with
    | .ok k=>exact⟨k,rfl⟩
    | .error e =>
     exfalso;unfold iU at hb1 hb2 hb3 hb4;subst hb1 hb2 hb3 hb4;simp at hor
   rw[hq]at hb1 hb2 hb3 hb4 nX hf;obtain⟨x,hx⟩:=zN (nx s.data.toList k);have e1:decide (x=32)=b1:=by rw[<-hx];exact hb1
   have e2:decide (x=9)=b2:=by rw[<-hx];exact hb2
   have e3:decide (x=10)=b3:=by rw[<-hx];exact hb3
   have e4:decide (x=35)=b4:=by rw[<-hx];exact hb4
   have hfk:=hf k rfl;obtain⟨f,rfl⟩:∃f',f=f'+1:=⟨f-1,by omega⟩;have Dl:gap s.data.toList (f+1) k=G:=nX;have hd:k<=s.size/\Dd wr R s L O now de k 0 0:=by have:=fG.o;rw[hq]at this;exact this
   have hxo:x=32\/x=9\/x=10\/x=35:=by
    subst e1 e2 e3 e4;simpa using hor
   have hkl:=bP.o k (by rw[hx];omega);have Dn:=ae (HX.o k hkl);have HD:=ae hd.2;have HM:=ae (uU hd.2);clear hb1 hb2 hb3 hb4 hf hor GN
   by_cases h35:x=35
   ·-- a comment
    have hb:((s[k].toNat:Int) == 35)=true:=by rw[<-Dn.o,hx];simp[h35]
    have bf:Hd ((jo s.data.toList k).bind (gap s.data.toList (f+1))=G):=by
     show _=_;rw[<-Lm.o f k (by rw[hx,h35]),Dl]
    have TQ:=ae (fun j=>Hm.o k j (by rw[hx,h35]));have CCk:Hd (∀w',wr.grownBy w' none->Calls prog 55 #[.pointer (some ⟨R,0,none⟩)] w' fun e w''=>e=.returned (.tuple #[])/\Ds w'' R s L O now de (jo s.data.toList k)/\w'.grownBy w'' (some R)):=fun w' hg=>CC.o (.ok k) w' ⟨hd.1,hd.2.grow hg⟩
    obtain rfl:b1=false:=by rw[<-e1,h35];rfl
    obtain rfl:b2=false:=by rw[<-e2,h35];rfl
    obtain rfl:b3=false:=by rw[<-e3,h35];rfl
    obtain rfl:b4=true:=by rw[<-e4,h35];rfl
    clear e1 e2 e3 e4 hx hxo h35 nX Dl hq hd;go_wp2_with (go_at_call 52;refine(yK.o _ fG.o).mono ?_)
    first|rintro e w1 rfl hg1|rintro e w1 ⟨rfl,hg1⟩
    have ax:=ae hg1;clear hg1;go_wp2_with (go_at_call 52;refine(C9.o _ (fG.o.grow ax.o)).mono ?_)
    first|rintro e w2 rfl hg2|rintro e w2 ⟨rfl,hg2⟩
    have HG2:=ae (ai ax.o hg2);clear hg2;go_wp2_with (go_at_call 52;refine(C10.o _ (fG.o.grow HG2.o)).mono ?_)
    first|rintro e w3 rfl hg3|rintro e w3 ⟨rfl,hg3⟩
    have aK:=ae (ai HG2.o hg3);clear hg3;go_wp2_with (go_at_call 52;refine(TP.o _ (fG.o.grow aK.o)).mono ?_)
    first|rintro e w4 rfl hg4|rintro e w4 ⟨rfl,hg4⟩
    have eX:=ae (ai aK.o hg4);obtain⟨c0,c1,-⟩:=(HD.o.grow eX.o).cells;clear hg4;go_wp2;go_quiet (fail);go_wp2_with (go_at_call 55;refine(CCk.o _ ?_).mono ?_;exact ay eX.o _;rintro e w5 ⟨rfl,hd5,hg5⟩);have iK:=ae (dK (aG HG.o eX.o) ⟨hg5.os,hg5.tape,hg5.output,hg5.size,hg5.block⟩);have HD5:=ae hd5;obtain⟨u,hu⟩:=zN (jo s.data.toList k);rw[hu]at HD5 TQ bf;clear hd5 hg5 hu;go_wp2
    match u,HD5.o,TQ.o,bf.o with
    | .error (c,p),hh,_,hgc =>
     obtain⟨hc,j,hj,hd⟩:=hh;refine⟨⟨.error (c,p),f+1,⟨hc,j,hj,hd⟩,fun _ hh=>(by cases hh),hgc,iK.o⟩,?_⟩;rw[HM.o,GM hd hc];omega
    | .ok j,hh,hlc,hgc =>
     have:=hlc j rfl;refine⟨⟨.ok j,f+1,hh,fun _ hh=>(by cases hh;omega),hgc,iK.o⟩,?_⟩;rw[HM.o,uU hh.2];omega
   ·have hb:((s[k].toNat:Int) == 35)=false:=by rw[<-Dn.o,hx];simpa using h35
    have KN:Hd (∃f',s.size-(k+1)<f'/\gap s.data.toList f' (k+1)=G):=by
     by_cases h10:x=10
     ·exact⟨f,by omega,by rw[<-HE2.o f k (by rw[hx,h10])];exact Dl⟩
     ·refine⟨f+1,by omega,?_⟩;rw[<-jC.o f k (by rw[hx];unfold eU;simp;omega)];exact Dl
    have fin:∀wx:World,wr.grownBy wx none->(∃(q:Rs Nat) (f:Nat),Ds (wx.setCell ⟨R,1,none⟩ (.int .i64 ((k:Int)+1))) R s L O now de q/\(∀k,q=.ok k->s.size-k<f)/\q.bind (gap s.data.toList f)=G/\w.grownBy (wx.setCell ⟨R,1,none⟩ (.int .i64 ((k:Int)+1))) (some R))/\dM (wx.setCell ⟨R,1,none⟩ (.int .i64 ((k:Int)+1))) R s<dM wr R s:=fun wx hg=>by
     obtain⟨f',hf',hgg⟩:=KN.o;have hdd:=(HD.o.grow hg).setI (k+1);refine⟨⟨.ok (k+1),f',⟨by omega,hdd⟩,fun _ hh=>(by cases hh;omega),hgg,aS (aG HG.o hg) 1 _⟩,?_⟩;have e1:=uU hdd;have e2:(wx.setCell ⟨R,1,none⟩ (.int .i64 ((k+1:Nat):Int)))=wx.setCell ⟨R,1,none⟩ (.int .i64 ((k:Int)+1)):=rfl;rw[e2]at e1;rw[e1,HM.o];omega
    have wY:=ae fin;clear fin;have Ae:Hd (b1=true\/(b1=false/\b2=true)\/(b1=false/\b2=false/\b3=true)):=by
     show _\/_;subst e1 e2 e3
     rcases hxo with h|h|h|h
     ·left;simp[h]
     ·right;left;simp[h]
     ·right;right;simp[h]
     ·exact(h35 h).elim
    clear e1 e2 e3 e4 hx hxo h35 nX Dl hq hd;go_wp2_with (go_at_call 52;refine(yK.o _ fG.o).mono ?_)
    first|rintro e w1 rfl hg1|rintro e w1 ⟨rfl,hg1⟩
    have ax:=ae hg1;clear hg1
    rcases Ae.o with rfl|⟨rfl,rfl⟩|⟨rfl,rfl,rfl⟩
    ·obtain⟨c0,c1,-,-,-,-,-,-,df⟩:=(HD.o.grow ax.o).cells;have df1:=df 1;clear df;go_wp2;go_quiet (fail);go_wp2;exact wY.o _ (ai ax.o ⟨rfl,rfl,rfl,Nat.le_refl _,fun _ _ _=>rfl⟩)
    ·go_wp2_with (go_at_call 52;refine(C9.o _ (fG.o.grow ax.o)).mono ?_)
     first|rintro e w2 rfl hg2|rintro e w2 ⟨rfl,hg2⟩
     have HG2:=ae (ai ax.o hg2);obtain⟨c0,c1,-,-,-,-,-,-,df⟩:=(HD.o.grow HG2.o).cells;have df1:=df 1;clear df hg2;go_wp2;go_quiet (fail);go_wp2;exact wY.o _ (ai HG2.o ⟨rfl,rfl,rfl,Nat.le_refl _,fun _ _ _=>rfl⟩)
    ·go_wp2_with (go_at_call 52;refine(C9.o _ (fG.o.grow ax.o)).mono ?_)
     first|rintro e w2 rfl hg2|rintro e w2 ⟨rfl,hg2⟩
     have HG2:=ae (ai ax.o hg2);clear hg2;go_wp2_with (go_at_call 52;refine(C10.o _ (fG.o.grow HG2.o)).mono ?_)
     first|rintro e w3 rfl hg3|rintro e w3 ⟨rfl,hg3⟩
     have aK:=ae (ai HG2.o hg3);obtain⟨c0,c1,-,-,-,-,-,-,df⟩:=(HD.o.grow aK.o).cells;have df1:=df 1;clear df hg3;go_wp2;go_quiet (fail);go_wp2;exact wY.o _ (ai aK.o ⟨rfl,rfl,rfl,Nat.le_refl _,fun _ _ _=>rfl⟩)
  ·-- nothing of the kind
   have HQG:Hd (q=G):=by
    show q=G;rw[<-nX]
    match q with
    | .error e=>rfl
    | .ok k =>
     have hfk:=hf k rfl;obtain⟨f,rfl⟩:∃f',f=f'+1:=⟨f-1,by omega⟩;unfold iU at hb1 hb2 hb3 hb4;subst hb1 hb2 hb3 hb4;simp only[decide_eq_true_eq,not_or]at hor;refine(GN.o f k ?_ hor.2.2.1 hor.2.2.2).symm;unfold eU;simp[hor.1,hor.2.1]
   obtain rfl:b1=false:=by cases b1<;>simp at hor ⊢
   obtain rfl:b2=false:=by cases b2<;>simp at hor ⊢
   obtain rfl:b3=false:=by cases b3<;>simp at hor ⊢
   obtain rfl:b4=false:=by cases b4<;>simp at hor ⊢
   clear hb1 hb2 hb3 hb4 hf hor nX;go_wp2_with (go_at_call 52;refine(yK.o _ fG.o).mono ?_)
   first|rintro e w1 rfl hg1|rintro e w1 ⟨rfl,hg1⟩
   have ax:=ae hg1;clear hg1;go_wp2_with (go_at_call 52;refine(C9.o _ (fG.o.grow ax.o)).mono ?_)
   first|rintro e w2 rfl hg2|rintro e w2 ⟨rfl,hg2⟩
   have HG2:=ae (ai ax.o hg2);clear hg2;go_wp2_with (go_at_call 52;refine(C10.o _ (fG.o.grow HG2.o)).mono ?_)
   first|rintro e w3 rfl hg3|rintro e w3 ⟨rfl,hg3⟩
   have aK:=ae (ai HG2.o hg3);clear hg3;go_wp2_with (go_at_call 52;refine(TP.o _ (fG.o.grow aK.o)).mono ?_)
   first|rintro e w4 rfl hg4|rintro e w4 ⟨rfl,hg4⟩
   have eX:=ae (ai aK.o hg4);clear hg4;go_wp2;refine bodyPost_end (results_none rfl _ _ _) rfl ⟨rfl,?_,aG HG.o eX.o⟩;rw[<-HQG.o];exact fG.o.grow eX.o
open Go.RowKit Go.Joins
theorem Af(c:UInt8)(w:World):Calls prog 122 #[.int .u8 (c.toNat:Int)] w fun e w'=>e=.returned (.bool (aA (c.toNat:Int)))/\w'=w:=by
 have:=c.toNat_lt;go_enter func122,ntmps122;go_wp2
 all_goals go_ret
 all_goals (refine⟨bJ ?_,rfl⟩;rw[Bool.eq_iff_iff];unfold aA;simp;try omega)
theorem abq(c:UInt8)(w:World):Calls prog 120 #[.int .u8 (c.toNat:Int)] w fun e w'=>e=.returned (.bool (bg (c.toNat:Int)))/\w'=w:=by
 have hc:=c.toNat_lt;have CD:=ae (Af c);have HB:Hd (bg (c.toNat:Int)=(decide (97<=(c.toNat:Int)/\(c.toNat:Int)<=122) || decide (65<=(c.toNat:Int)/\(c.toNat:Int)<=90) || aA (c.toNat:Int) || decide ((c.toNat:Int)=95) || decide ((c.toNat:Int)=45))):=rfl;obtain⟨b,hb⟩:=zN (aA (c.toNat:Int));obtain⟨r,hr⟩:=zN (bg (c.toNat:Int));rw[hb]at CD HB;rw[hr]at HB ⊢;clear hb hr;obtain⟨x,hx⟩:∃x:Int,(c.toNat:Int)=x:=⟨_,rfl⟩;have hx0:0<=x:=by omega
 rw[hx]at CD HB ⊢;clear hx hc
 cases b with
 | true =>
  go_enter func120,ntmps120;go_wp2_with (go_at_call 122;refine(CD.o _).mono ?_;rintro e w' ⟨rfl,rfl⟩)
  all_goals go_ret
  all_goals (refine⟨bJ ?_,rfl⟩;rw[HB.o,Bool.eq_iff_iff];simp;try omega)
 | false =>
  go_enter func120,ntmps120;go_wp2_with (go_at_call 122;refine(CD.o _).mono ?_;rintro e w' ⟨rfl,rfl⟩)
  all_goals go_ret
  all_goals (refine⟨bJ ?_,rfl⟩;rw[HB.o,Bool.eq_iff_iff];simp;try omega)
def Ho(c:Int):Int:=if 48<=c/\c<=57 then c-48 else if 97<=c/\c<=102 then c-87 else -1
theorem abr(c:Int)(h0:0<=c)(h1:c<256)(w:World):Calls prog 126 #[.int .u8 c] w fun e w'=>e=.returned (.int .i64 (Ho c))/\w'=w:=by
 obtain⟨r,hr⟩:=zN (Ho c);have HR:Hd ((if 48<=c/\c<=57 then c-48 else if 97<=c/\c<=102 then c-87 else -1)=r):=hr;rw[hr];clear hr;go_enter func126,ntmps126;go_wp2
 all_goals go_ret
 all_goals (refine⟨dB ?_,rfl⟩;rw[<-HR.o];repeat' split)
 all_goals (first|rfl|omega)
theorem lm(s:ByteArray)(i:Nat)(lo hi:Int)(hlo:0<=lo)(w:World)(hs:s.size<=1048576) :
  Calls prog 203 #[.string s,.int .i64 (i:Nat),.int .u8 lo,.int .u8 hi] w fun e w'=>e=.returned (.bool (dC s.data.toList i lo hi))/\w'=w:=by
 have hl:s.data.toList.length=s.size:=by simp
 by_cases hlt:i<s.size
 ·have HG:Hd (dC s.data.toList i lo hi=decide (lo<=(s[i].toNat:Int)/\(s[i].toNat:Int)<=hi)):=by
   show _=_;unfold dC;rw[byte_at s i hlt]
  obtain⟨r,hr⟩:=zN (dC s.data.toList i lo hi);rw[hr]at HG ⊢;clear hr;go_enter func203,ntmps203;go_wp2
  all_goals go_ret
  all_goals (refine⟨bJ ?_,rfl⟩;rw[HG.o,Bool.eq_iff_iff];simp;try omega)
 ·have HG:Hd (dC s.data.toList i lo hi=false):=by
   show _=_;unfold dC;rw[jJ _ _ (by omega),decide_eq_false (by omega)]
  rw[HG.o];go_enter func203,ntmps203;go_wp2
  all_goals go_ret
  all_goals exact⟨rfl,rfl⟩
theorem rF(l:List UInt8)(i:Nat)(x:Int)(hx:nx l i=x):aJ l i=if x<0 then 0 else if x<128 then 1 else if x<194\/244<x then 0 else if dC l (i+1) (if x=224 then 160 else if x=240 then 144 else 128) (if x=237 then 159 else if x=244 then 143 else 191)=false then 0 else if x<224 then 2 else if dC l (i+2) 128 191=false then 0 else if x<240 then 3 else if dC l (i+3) 128 191=false then 0 else 4:=by
 subst hx;rfl
theorem abt(s:ByteArray)(i:Nat)(hi:i<s.size)(w:World)(hs:s.size<=1048576)(x:Int)(hx:(s[i].toNat:Int)=x)(h0:0<=x)(hc:x<128) :
  Calls prog 161 #[.string s,.int .i64 (i:Nat)] w fun e w'=>e=.returned (.int .i64 (aJ s.data.toList i:Nat))/\w'=w:=by
 have hv:=rF s.data.toList i x ((byte_at s i hi).trans hx);have t0:decide (x<128)=true:=by simp;omega
 have p0:x<128:=by omega
 have t1:decide (x<194)=true:=by simp;omega
 have p1:x<194:=by omega
 have t2:decide (244<x)=false:=by simp;omega
 have p2:¬244<x:=by omega
 have t3:decide (224<=x)=false:=by simp;omega
 have p3:¬224<=x:=by omega
 have t4:decide (240<=x)=false:=by simp;omega
 have p4:¬240<=x:=by omega
 have t5:(x == 224)=false:=by simp;omega
 have p5:¬x=224:=by omega
 have t6:(x == 237)=false:=by simp;omega
 have p6:¬x=237:=by omega
 have t7:(x == 240)=false:=by simp;omega
 have p7:¬x=240:=by omega
 have t8:(x == 244)=false:=by simp;omega
 have p8:¬x=244:=by omega
 rw[if_neg (by omega),if_pos p0]at hv;rw[hv];have hk:s[i].toNat=x.toNat:=by omega
 clear hv hc;go_enter func161,ntmps161;go_wp2;go_ret;exact⟨rfl,rfl⟩
theorem abu(s:ByteArray)(i:Nat)(hi:i<s.size)(w:World)(hs:s.size<=1048576)(x:Int)(hx:(s[i].toNat:Int)=x)(h0:0<=x)(hc:128<=x/\x<194) :
  Calls prog 161 #[.string s,.int .i64 (i:Nat)] w fun e w'=>e=.returned (.int .i64 (aJ s.data.toList i:Nat))/\w'=w:=by
 have hv:=rF s.data.toList i x ((byte_at s i hi).trans hx);have t0:decide (x<128)=false:=by simp;omega
 have p0:¬x<128:=by omega
 have t1:decide (x<194)=true:=by simp;omega
 have p1:x<194:=by omega
 have t2:decide (244<x)=false:=by simp;omega
 have p2:¬244<x:=by omega
 have t3:decide (224<=x)=false:=by simp;omega
 have p3:¬224<=x:=by omega
 have t4:decide (240<=x)=false:=by simp;omega
 have p4:¬240<=x:=by omega
 have t5:(x == 224)=false:=by simp;omega
 have p5:¬x=224:=by omega
 have t6:(x == 237)=false:=by simp;omega
 have p6:¬x=237:=by omega
 have t7:(x == 240)=false:=by simp;omega
 have p7:¬x=240:=by omega
 have t8:(x == 244)=false:=by simp;omega
 have p8:¬x=244:=by omega
 rw[if_neg (by omega),if_neg p0,if_pos (by omega)]at hv;rw[hv];have hk:s[i].toNat=x.toNat:=by omega
 clear hv hc;go_enter func161,ntmps161;go_wp2;go_ret;exact⟨rfl,rfl⟩
theorem abv(s:ByteArray)(i:Nat)(hi:i<s.size)(w:World)(hs:s.size<=1048576)(x:Int)(hx:(s[i].toNat:Int)=x)(h0:0<=x)(hc:244<x) :
  Calls prog 161 #[.string s,.int .i64 (i:Nat)] w fun e w'=>e=.returned (.int .i64 (aJ s.data.toList i:Nat))/\w'=w:=by
 have hv:=rF s.data.toList i x ((byte_at s i hi).trans hx);have t0:decide (x<128)=false:=by simp;omega
 have p0:¬x<128:=by omega
 have t1:decide (x<194)=false:=by simp;omega
 have p1:¬x<194:=by omega
 have t2:decide (244<x)=true:=by simp;omega
 have p2:244<x:=by omega
 have t3:decide (224<=x)=true:=by simp;omega
 have p3:224<=x:=by omega
 have t4:decide (240<=x)=true:=by simp;omega
 have p4:240<=x:=by omega
 have t5:(x == 224)=false:=by simp;omega
 have p5:¬x=224:=by omega
 have t6:(x == 237)=false:=by simp;omega
 have p6:¬x=237:=by omega
 have t7:(x == 240)=false:=by simp;omega
 have p7:¬x=240:=by omega
 have t8:(x == 244)=false:=by simp;omega
 have p8:¬x=244:=by omega
 rw[if_neg (by omega),if_neg p0,if_pos (by omega)]at hv;rw[hv];have hk:s[i].toNat=x.toNat:=by omega
 clear hv hc;go_enter func161,ntmps161;go_wp2;go_ret;exact⟨rfl,rfl⟩
theorem abw(s:ByteArray)(i:Nat)(hi:i<s.size)(w:World)(hs:s.size<=1048576)(x:Int)(hx:(s[i].toNat:Int)=x)(h0:0<=x)(hc:194<=x/\x<224) :
  Calls prog 161 #[.string s,.int .i64 (i:Nat)] w fun e w'=>e=.returned (.int .i64 (aJ s.data.toList i:Nat))/\w'=w:=by
 have hv:=rF s.data.toList i x ((byte_at s i hi).trans hx);have t0:decide (x<128)=false:=by simp;omega
 have p0:¬x<128:=by omega
 have t1:decide (x<194)=false:=by simp;omega
 have p1:¬x<194:=by omega
 have t2:decide (244<x)=false:=by simp;omega
 have p2:¬244<x:=by omega
 have t3:decide (224<=x)=false:=by simp;omega
 have p3:¬224<=x:=by omega
 have t4:decide (240<=x)=false:=by simp;omega
 have p4:¬240<=x:=by omega
 have t5:(x == 224)=false:=by simp;omega
 have p5:¬x=224:=by omega
 have t6:(x == 237)=false:=by simp;omega
 have p6:¬x=237:=by omega
 have t7:(x == 240)=false:=by simp;omega
 have p7:¬x=240:=by omega
 have t8:(x == 244)=false:=by simp;omega
 have p8:¬x=244:=by omega
 rw[if_neg (by omega),if_neg p0,if_neg (by omega)]at hv;rw[if_neg p5,if_neg p7,if_neg p6,if_neg p8]at hv;rw[if_pos (show x<224 by omega)]at hv;have C1:Hd (∀w,Calls prog 203 #[.string s,.int .i64 ((i:Int)+1),.int .u8 128,.int .u8 191] w fun e w'=>e=.returned (.bool (dC s.data.toList (i+1) 128 191))/\w'=w):=fun w=>lm s (i+1) 128 191 (by decide) w hs
 obtain⟨b1,hb1⟩:=zN (dC s.data.toList (i+1) 128 191);rw[hb1]at C1 hv;rw[hv];clear hv hc hb1
 cases b1 with
 | false =>
  go_enter func161,ntmps161;go_wp2_with (go_at_call 203;refine(C1.o _).mono ?_;rintro e w' ⟨rfl,rfl⟩);go_ret;exact⟨rfl,rfl⟩
 | true =>
  go_enter func161,ntmps161;go_wp2_with (go_at_call 203;refine(C1.o _).mono ?_;rintro e w' ⟨rfl,rfl⟩);refine wp_loop_rounds 1 ?_;rw[rounds_succ];go_wp2;go_ret;exact⟨rfl,rfl⟩
theorem abx(s:ByteArray)(i:Nat)(hi:i<s.size)(w:World)(hs:s.size<=1048576)(x:Int)(hx:(s[i].toNat:Int)=x)(h0:0<=x)(hc:x=224) :
  Calls prog 161 #[.string s,.int .i64 (i:Nat)] w fun e w'=>e=.returned (.int .i64 (aJ s.data.toList i:Nat))/\w'=w:=by
 have hv:=rF s.data.toList i x ((byte_at s i hi).trans hx);have t0:decide (x<128)=false:=by simp;omega
 have p0:¬x<128:=by omega
 have t1:decide (x<194)=false:=by simp;omega
 have p1:¬x<194:=by omega
 have t2:decide (244<x)=false:=by simp;omega
 have p2:¬244<x:=by omega
 have t3:decide (224<=x)=true:=by simp;omega
 have p3:224<=x:=by omega
 have t4:decide (240<=x)=false:=by simp;omega
 have p4:¬240<=x:=by omega
 have t5:(x == 224)=true:=by simp;omega
 have p5:x=224:=by omega
 have t6:(x == 237)=false:=by simp;omega
 have p6:¬x=237:=by omega
 have t7:(x == 240)=false:=by simp;omega
 have p7:¬x=240:=by omega
 have t8:(x == 244)=false:=by simp;omega
 have p8:¬x=244:=by omega
 rw[if_neg (by omega),if_neg p0,if_neg (by omega)]at hv;rw[if_pos p5,if_neg p6,if_neg p8]at hv;rw[if_neg (show ¬x<224 by omega),if_pos (show x<240 by omega)]at hv;have C1:Hd (∀w,Calls prog 203 #[.string s,.int .i64 ((i:Int)+1),.int .u8 160,.int .u8 191] w fun e w'=>e=.returned (.bool (dC s.data.toList (i+1) 160 191))/\w'=w):=fun w=>lm s (i+1) 160 191 (by decide) w hs
 have C2:Hd (∀w,Calls prog 203 #[.string s,.int .i64 ((i:Int)+2),.int .u8 128,.int .u8 191] w fun e w'=>e=.returned (.bool (dC s.data.toList (i+2) 128 191))/\w'=w):=fun w=>lm s (i+2) 128 191 (by decide) w hs
 obtain⟨b1,hb1⟩:=zN (dC s.data.toList (i+1) 160 191);obtain⟨b2,hb2⟩:=zN (dC s.data.toList (i+2) 128 191);rw[hb1]at C1 hv;rw[hb2]at C2 hv;rw[hv];clear hv hc hb1 hb2
 cases b1 with
 | false =>
  go_enter func161,ntmps161;go_wp2_with (go_at_call 203;refine(C1.o _).mono ?_;rintro e w' ⟨rfl,rfl⟩);go_ret;exact⟨rfl,rfl⟩
 | true =>
  cases b2 with
  | false =>
   go_enter func161,ntmps161;go_wp2_with (go_at_call 203;refine(C1.o _).mono ?_;rintro e w' ⟨rfl,rfl⟩);refine wp_loop_rounds 1 ?_;rw[rounds_succ];go_wp2_with (go_at_call 203;refine(C2.o _).mono ?_;rintro e w' ⟨rfl,rfl⟩);go_ret;exact⟨rfl,rfl⟩
  | true =>
   go_enter func161,ntmps161;go_wp2_with (go_at_call 203;refine(C1.o _).mono ?_;rintro e w' ⟨rfl,rfl⟩);refine wp_loop_rounds 2 ?_;rw[rounds_succ];go_wp2_with (go_at_call 203;refine(C2.o _).mono ?_;rintro e w' ⟨rfl,rfl⟩);rw[rounds_succ];go_wp2;go_ret;exact⟨rfl,rfl⟩
theorem aby(s:ByteArray)(i:Nat)(hi:i<s.size)(w:World)(hs:s.size<=1048576)(x:Int)(hx:(s[i].toNat:Int)=x)(h0:0<=x)(hc:225<=x/\x<=236) :
  Calls prog 161 #[.string s,.int .i64 (i:Nat)] w fun e w'=>e=.returned (.int .i64 (aJ s.data.toList i:Nat))/\w'=w:=by
 have hv:=rF s.data.toList i x ((byte_at s i hi).trans hx);have t0:decide (x<128)=false:=by simp;omega
 have p0:¬x<128:=by omega
 have t1:decide (x<194)=false:=by simp;omega
 have p1:¬x<194:=by omega
 have t2:decide (244<x)=false:=by simp;omega
 have p2:¬244<x:=by omega
 have t3:decide (224<=x)=true:=by simp;omega
 have p3:224<=x:=by omega
 have t4:decide (240<=x)=false:=by simp;omega
 have p4:¬240<=x:=by omega
 have t5:(x == 224)=false:=by simp;omega
 have p5:¬x=224:=by omega
 have t6:(x == 237)=false:=by simp;omega
 have p6:¬x=237:=by omega
 have t7:(x == 240)=false:=by simp;omega
 have p7:¬x=240:=by omega
 have t8:(x == 244)=false:=by simp;omega
 have p8:¬x=244:=by omega
 rw[if_neg (by omega),if_neg p0,if_neg (by omega)]at hv;rw[if_neg p5,if_neg p7,if_neg p6,if_neg p8]at hv;rw[if_neg (show ¬x<224 by omega),if_pos (show x<240 by omega)]at hv;have C1:Hd (∀w,Calls prog 203 #[.string s,.int .i64 ((i:Int)+1),.int .u8 128,.int .u8 191] w fun e w'=>e=.returned (.bool (dC s.data.toList (i+1) 128 191))/\w'=w):=fun w=>lm s (i+1) 128 191 (by decide) w hs
 have C2:Hd (∀w,Calls prog 203 #[.string s,.int .i64 ((i:Int)+2),.int .u8 128,.int .u8 191] w fun e w'=>e=.returned (.bool (dC s.data.toList (i+2) 128 191))/\w'=w):=fun w=>lm s (i+2) 128 191 (by decide) w hs
 obtain⟨b1,hb1⟩:=zN (dC s.data.toList (i+1) 128 191);obtain⟨b2,hb2⟩:=zN (dC s.data.toList (i+2) 128 191);rw[hb1]at C1 hv;rw[hb2]at C2 hv;rw[hv];clear hv hc hb1 hb2
 cases b1 with
 | false =>
  go_enter func161,ntmps161;go_wp2_with (go_at_call 203;refine(C1.o _).mono ?_;rintro e w' ⟨rfl,rfl⟩);go_ret;exact⟨rfl,rfl⟩
 | true =>
  cases b2 with
  | false =>
   go_enter func161,ntmps161;go_wp2_with (go_at_call 203;refine(C1.o _).mono ?_;rintro e w' ⟨rfl,rfl⟩);refine wp_loop_rounds 1 ?_;rw[rounds_succ];go_wp2_with (go_at_call 203;refine(C2.o _).mono ?_;rintro e w' ⟨rfl,rfl⟩);go_ret;exact⟨rfl,rfl⟩
  | true =>
   go_enter func161,ntmps161;go_wp2_with (go_at_call 203;refine(C1.o _).mono ?_;rintro e w' ⟨rfl,rfl⟩);refine wp_loop_rounds 2 ?_;rw[rounds_succ];go_wp2_with (go_at_call 203;refine(C2.o _).mono ?_;rintro e w' ⟨rfl,rfl⟩);rw[rounds_succ];go_wp2;go_ret;exact⟨rfl,rfl⟩
theorem abz(s:ByteArray)(i:Nat)(hi:i<s.size)(w:World)(hs:s.size<=1048576)(x:Int)(hx:(s[i].toNat:Int)=x)(h0:0<=x)(hc:x=237) :
  Calls prog 161 #[.string s,.int .i64 (i:Nat)] w fun e w'=>e=.returned (.int .i64 (aJ s.data.toList i:Nat))/\w'=w:=by
 have hv:=rF s.data.toList i x ((byte_at s i hi).trans hx);have t0:decide (x<128)=false:=by simp;omega
 have p0:¬x<128:=by omega
 have t1:decide (x<194)=false:=by simp;omega
 have p1:¬x<194:=by omega
 have t2:decide (244<x)=false:=by simp;omega
 have p2:¬244<x:=by omega
 have t3:decide (224<=x)=true:=by simp;omega
 have p3:224<=x:=by omega
 have t4:decide (240<=x)=false:=by simp;omega
 have p4:¬240<=x:=by omega
 have t5:(x == 224)=false:=by simp;omega
 have p5:¬x=224:=by omega
 have t6:(x == 237)=true:=by simp;omega
 have p6:x=237:=by omega
 have t7:(x == 240)=false:=by simp;omega
 have p7:¬x=240:=by omega
 have t8:(x == 244)=false:=by simp;omega
 have p8:¬x=244:=by omega
 rw[if_neg (by omega),if_neg p0,if_neg (by omega)]at hv;rw[if_neg p5,if_neg p7,if_pos p6]at hv;rw[if_neg (show ¬x<224 by omega),if_pos (show x<240 by omega)]at hv;have C1:Hd (∀w,Calls prog 203 #[.string s,.int .i64 ((i:Int)+1),.int .u8 128,.int .u8 159] w fun e w'=>e=.returned (.bool (dC s.data.toList (i+1) 128 159))/\w'=w):=fun w=>lm s (i+1) 128 159 (by decide) w hs
 have C2:Hd (∀w,Calls prog 203 #[.string s,.int .i64 ((i:Int)+2),.int .u8 128,.int .u8 191] w fun e w'=>e=.returned (.bool (dC s.data.toList (i+2) 128 191))/\w'=w):=fun w=>lm s (i+2) 128 191 (by decide) w hs
 obtain⟨b1,hb1⟩:=zN (dC s.data.toList (i+1) 128 159);obtain⟨b2,hb2⟩:=zN (dC s.data.toList (i+2) 128 191);rw[hb1]at C1 hv;rw[hb2]at C2 hv;rw[hv];clear hv hc hb1 hb2
 cases b1 with
 | false =>
  go_enter func161,ntmps161;go_wp2_with (go_at_call 203;refine(C1.o _).mono ?_;rintro e w' ⟨rfl,rfl⟩);go_ret;exact⟨rfl,rfl⟩
 | true =>
  cases b2 with
  | false =>
   go_enter func161,ntmps161;go_wp2_with (go_at_call 203;refine(C1.o _).mono ?_;rintro e w' ⟨rfl,rfl⟩);refine wp_loop_rounds 1 ?_;rw[rounds_succ];go_wp2_with (go_at_call 203;refine(C2.o _).mono ?_;rintro e w' ⟨rfl,rfl⟩);go_ret;exact⟨rfl,rfl⟩
  | true =>
   go_enter func161,ntmps161;go_wp2_with (go_at_call 203;refine(C1.o _).mono ?_;rintro e w' ⟨rfl,rfl⟩);refine wp_loop_rounds 2 ?_;rw[rounds_succ];go_wp2_with (go_at_call 203;refine(C2.o _).mono ?_;rintro e w' ⟨rfl,rfl⟩);rw[rounds_succ];go_wp2;go_ret;exact⟨rfl,rfl⟩
theorem abA(s:ByteArray)(i:Nat)(hi:i<s.size)(w:World)(hs:s.size<=1048576)(x:Int)(hx:(s[i].toNat:Int)=x)(h0:0<=x)(hc:238<=x/\x<=239) :
  Calls prog 161 #[.string s,.int .i64 (i:Nat)] w fun e w'=>e=.returned (.int .i64 (aJ s.data.toList i:Nat))/\w'=w:=by
 have hv:=rF s.data.toList i x ((byte_at s i hi).trans hx);have t0:decide (x<128)=false:=by simp;omega
 have p0:¬x<128:=by omega
 have t1:decide (x<194)=false:=by simp;omega
 have p1:¬x<194:=by omega
 have t2:decide (244<x)=false:=by simp;omega
 have p2:¬244<x:=by omega
 have t3:decide (224<=x)=true:=by simp;omega
 have p3:224<=x:=by omega
 have t4:decide (240<=x)=false:=by simp;omega
 have p4:¬240<=x:=by omega
 have t5:(x == 224)=false:=by simp;omega
 have p5:¬x=224:=by omega
 have t6:(x == 237)=false:=by simp;omega
 have p6:¬x=237:=by omega
 have t7:(x == 240)=false:=by simp;omega
 have p7:¬x=240:=by omega
 have t8:(x == 244)=false:=by simp;omega
 have p8:¬x=244:=by omega
 rw[if_neg (by omega),if_neg p0,if_neg (by omega)]at hv;rw[if_neg p5,if_neg p7,if_neg p6,if_neg p8]at hv;rw[if_neg (show ¬x<224 by omega),if_pos (show x<240 by omega)]at hv;have C1:Hd (∀w,Calls prog 203 #[.string s,.int .i64 ((i:Int)+1),.int .u8 128,.int .u8 191] w fun e w'=>e=.returned (.bool (dC s.data.toList (i+1) 128 191))/\w'=w):=fun w=>lm s (i+1) 128 191 (by decide) w hs
 have C2:Hd (∀w,Calls prog 203 #[.string s,.int .i64 ((i:Int)+2),.int .u8 128,.int .u8 191] w fun e w'=>e=.returned (.bool (dC s.data.toList (i+2) 128 191))/\w'=w):=fun w=>lm s (i+2) 128 191 (by decide) w hs
 obtain⟨b1,hb1⟩:=zN (dC s.data.toList (i+1) 128 191);obtain⟨b2,hb2⟩:=zN (dC s.data.toList (i+2) 128 191);rw[hb1]at C1 hv;rw[hb2]at C2 hv;rw[hv];clear hv hc hb1 hb2
 cases b1 with
 | false =>
  go_enter func161,ntmps161;go_wp2_with (go_at_call 203;refine(C1.o _).mono ?_;rintro e w' ⟨rfl,rfl⟩);go_ret;exact⟨rfl,rfl⟩
 | true =>
  cases b2 with
  | false =>
   go_enter func161,ntmps161;go_wp2_with (go_at_call 203;refine(C1.o _).mono ?_;rintro e w' ⟨rfl,rfl⟩);refine wp_loop_rounds 1 ?_;rw[rounds_succ];go_wp2_with (go_at_call 203;refine(C2.o _).mono ?_;rintro e w' ⟨rfl,rfl⟩);go_ret;exact⟨rfl,rfl⟩
  | true =>
   go_enter func161,ntmps161;go_wp2_with (go_at_call 203;refine(C1.o _).mono ?_;rintro e w' ⟨rfl,rfl⟩);refine wp_loop_rounds 2 ?_;rw[rounds_succ];go_wp2_with (go_at_call 203;refine(C2.o _).mono ?_;rintro e w' ⟨rfl,rfl⟩);rw[rounds_succ];go_wp2;go_ret;exact⟨rfl,rfl⟩
theorem abB(s:ByteArray)(i:Nat)(hi:i<s.size)(w:World)(hs:s.size<=1048576)(x:Int)(hx:(s[i].toNat:Int)=x)(h0:0<=x)(hc:x=240) :
  Calls prog 161 #[.string s,.int .i64 (i:Nat)] w fun e w'=>e=.returned (.int .i64 (aJ s.data.toList i:Nat))/\w'=w:=by
 have hv:=rF s.data.toList i x ((byte_at s i hi).trans hx);have t0:decide (x<128)=false:=by simp;omega
 have p0:¬x<128:=by omega
 have t1:decide (x<194)=false:=by simp;omega
 have p1:¬x<194:=by omega
 have t2:decide (244<x)=false:=by simp;omega
 have p2:¬244<x:=by omega
 have t3:decide (224<=x)=true:=by simp;omega
 have p3:224<=x:=by omega
 have t4:decide (240<=x)=true:=by simp;omega
 have p4:240<=x:=by omega
 have t5:(x == 224)=false:=by simp;omega
 have p5:¬x=224:=by omega
 have t6:(x == 237)=false:=by simp;omega
 have p6:¬x=237:=by omega
 have t7:(x == 240)=true:=by simp;omega
 have p7:x=240:=by omega
 have t8:(x == 244)=false:=by simp;omega
 have p8:¬x=244:=by omega
 rw[if_neg (by omega),if_neg p0,if_neg (by omega)]at hv;rw[if_neg p5,if_pos p7,if_neg p6,if_neg p8]at hv;rw[if_neg (show ¬x<224 by omega),if_neg (show ¬x<240 by omega)]at hv;have C1:Hd (∀w,Calls prog 203 #[.string s,.int .i64 ((i:Int)+1),.int .u8 144,.int .u8 191] w fun e w'=>e=.returned (.bool (dC s.data.toList (i+1) 144 191))/\w'=w):=fun w=>lm s (i+1) 144 191 (by decide) w hs
 have C2:Hd (∀w,Calls prog 203 #[.string s,.int .i64 ((i:Int)+2),.int .u8 128,.int .u8 191] w fun e w'=>e=.returned (.bool (dC s.data.toList (i+2) 128 191))/\w'=w):=fun w=>lm s (i+2) 128 191 (by decide) w hs
 have C3:Hd (∀w,Calls prog 203 #[.string s,.int .i64 ((i:Int)+3),.int .u8 128,.int .u8 191] w fun e w'=>e=.returned (.bool (dC s.data.toList (i+3) 128 191))/\w'=w):=fun w=>lm s (i+3) 128 191 (by decide) w hs
 obtain⟨b1,hb1⟩:=zN (dC s.data.toList (i+1) 144 191);obtain⟨b2,hb2⟩:=zN (dC s.data.toList (i+2) 128 191);obtain⟨b3,hb3⟩:=zN (dC s.data.toList (i+3) 128 191);rw[hb1]at C1 hv;rw[hb2]at C2 hv;rw[hb3]at C3 hv;rw[hv];clear hv hc hb1 hb2 hb3
 cases b1 with
 | false =>
  go_enter func161,ntmps161;go_wp2_with (go_at_call 203;refine(C1.o _).mono ?_;rintro e w' ⟨rfl,rfl⟩);go_ret;exact⟨rfl,rfl⟩
 | true =>
  cases b2 with
  | false =>
   go_enter func161,ntmps161;go_wp2_with (go_at_call 203;refine(C1.o _).mono ?_;rintro e w' ⟨rfl,rfl⟩);refine wp_loop_rounds 1 ?_;rw[rounds_succ];go_wp2_with (go_at_call 203;refine(C2.o _).mono ?_;rintro e w' ⟨rfl,rfl⟩);go_ret;exact⟨rfl,rfl⟩
  | true =>
   cases b3 with
   | false =>
    go_enter func161,ntmps161;go_wp2_with (go_at_call 203;refine(C1.o _).mono ?_;rintro e w' ⟨rfl,rfl⟩);refine wp_loop_rounds 2 ?_;rw[rounds_succ];go_wp2_with (go_at_call 203;refine(C2.o _).mono ?_;rintro e w' ⟨rfl,rfl⟩);rw[rounds_succ];go_wp2_with (go_at_call 203;refine(C3.o _).mono ?_;rintro e w' ⟨rfl,rfl⟩);go_ret;exact⟨rfl,rfl⟩
   | true =>
    go_enter func161,ntmps161;go_wp2_with (go_at_call 203;refine(C1.o _).mono ?_;rintro e w' ⟨rfl,rfl⟩);refine wp_loop_rounds 3 ?_;rw[rounds_succ];go_wp2_with (go_at_call 203;refine(C2.o _).mono ?_;rintro e w' ⟨rfl,rfl⟩);rw[rounds_succ];go_wp2_with (go_at_call 203;refine(C3.o _).mono ?_;rintro e w' ⟨rfl,rfl⟩);rw[rounds_succ];go_wp2;go_ret;exact⟨rfl,rfl⟩
theorem abC(s:ByteArray)(i:Nat)(hi:i<s.size)(w:World)(hs:s.size<=1048576)(x:Int)(hx:(s[i].toNat:Int)=x)(h0:0<=x)(hc:241<=x/\x<=243) :
  Calls prog 161 #[.string s,.int .i64 (i:Nat)] w fun e w'=>e=.returned (.int .i64 (aJ s.data.toList i:Nat))/\w'=w:=by
 have hv:=rF s.data.toList i x ((byte_at s i hi).trans hx);have t0:decide (x<128)=false:=by simp;omega
 have p0:¬x<128:=by omega
 have t1:decide (x<194)=false:=by simp;omega
 have p1:¬x<194:=by omega
 have t2:decide (244<x)=false:=by simp;omega
 have p2:¬244<x:=by omega
 have t3:decide (224<=x)=true:=by simp;omega
 have p3:224<=x:=by omega
 have t4:decide (240<=x)=true:=by simp;omega
 have p4:240<=x:=by omega
 have t5:(x == 224)=false:=by simp;omega
 have p5:¬x=224:=by omega
 have t6:(x == 237)=false:=by simp;omega
 have p6:¬x=237:=by omega
 have t7:(x == 240)=false:=by simp;omega
 have p7:¬x=240:=by omega
 have t8:(x == 244)=false:=by simp;omega
 have p8:¬x=244:=by omega
 rw[if_neg (by omega),if_neg p0,if_neg (by omega)]at hv;rw[if_neg p5,if_neg p7,if_neg p6,if_neg p8]at hv;rw[if_neg (show ¬x<224 by omega),if_neg (show ¬x<240 by omega)]at hv;have C1:Hd (∀w,Calls prog 203 #[.string s,.int .i64 ((i:Int)+1),.int .u8 128,.int .u8 191] w fun e w'=>e=.returned (.bool (dC s.data.toList (i+1) 128 191))/\w'=w):=fun w=>lm s (i+1) 128 191 (by decide) w hs
 have C2:Hd (∀w,Calls prog 203 #[.string s,.int .i64 ((i:Int)+2),.int .u8 128,.int .u8 191] w fun e w'=>e=.returned (.bool (dC s.data.toList (i+2) 128 191))/\w'=w):=fun w=>lm s (i+2) 128 191 (by decide) w hs
 have C3:Hd (∀w,Calls prog 203 #[.string s,.int .i64 ((i:Int)+3),.int .u8 128,.int .u8 191] w fun e w'=>e=.returned (.bool (dC s.data.toList (i+3) 128 191))/\w'=w):=fun w=>lm s (i+3) 128 191 (by decide) w hs
 obtain⟨b1,hb1⟩:=zN (dC s.data.toList (i+1) 128 191);obtain⟨b2,hb2⟩:=zN (dC s.data.toList (i+2) 128 191);obtain⟨b3,hb3⟩:=zN (dC s.data.toList (i+3) 128 191);rw[hb1]at C1 hv;rw[hb2]at C2 hv;rw[hb3]at C3 hv;rw[hv];clear hv hc hb1 hb2 hb3
 cases b1 with
 | false =>
  go_enter func161,ntmps161;go_wp2_with (go_at_call 203;refine(C1.o _).mono ?_;rintro e w' ⟨rfl,rfl⟩);go_ret;exact⟨rfl,rfl⟩
 | true =>
  cases b2 with
  | false =>
   go_enter func161,ntmps161;go_wp2_with (go_at_call 203;refine(C1.o _).mono ?_;rintro e w' ⟨rfl,rfl⟩);refine wp_loop_rounds 1 ?_;rw[rounds_succ];go_wp2_with (go_at_call 203;refine(C2.o _).mono ?_;rintro e w' ⟨rfl,rfl⟩);go_ret;exact⟨rfl,rfl⟩
  | true =>
   cases b3 with
   | false =>
    go_enter func161,ntmps161;go_wp2_with (go_at_call 203;refine(C1.o _).mono ?_;rintro e w' ⟨rfl,rfl⟩);refine wp_loop_rounds 2 ?_;rw[rounds_succ];go_wp2_with (go_at_call 203;refine(C2.o _).mono ?_;rintro e w' ⟨rfl,rfl⟩);rw[rounds_succ];go_wp2_with (go_at_call 203;refine(C3.o _).mono ?_;rintro e w' ⟨rfl,rfl⟩);go_ret;exact⟨rfl,rfl⟩
   | true =>
    go_enter func161,ntmps161;go_wp2_with (go_at_call 203;refine(C1.o _).mono ?_;rintro e w' ⟨rfl,rfl⟩);refine wp_loop_rounds 3 ?_;rw[rounds_succ];go_wp2_with (go_at_call 203;refine(C2.o _).mono ?_;rintro e w' ⟨rfl,rfl⟩);rw[rounds_succ];go_wp2_with (go_at_call 203;refine(C3.o _).mono ?_;rintro e w' ⟨rfl,rfl⟩);rw[rounds_succ];go_wp2;go_ret;exact⟨rfl,rfl⟩
theorem abD(s:ByteArray)(i:Nat)(hi:i<s.size)(w:World)(hs:s.size<=1048576)(x:Int)(hx:(s[i].toNat:Int)=x)(h0:0<=x)(hc:x=244) :
  Calls prog 161 #[.string s,.int .i64 (i:Nat)] w fun e w'=>e=.returned (.int .i64 (aJ s.data.toList i:Nat))/\w'=w:=by
 have hv:=rF s.data.toList i x ((byte_at s i hi).trans hx);have t0:decide (x<128)=false:=by simp;omega
 have p0:¬x<128:=by omega
 have t1:decide (x<194)=false:=by simp;omega
 have p1:¬x<194:=by omega
 have t2:decide (244<x)=false:=by simp;omega
 have p2:¬244<x:=by omega
 have t3:decide (224<=x)=true:=by simp;omega
 have p3:224<=x:=by omega
 have t4:decide (240<=x)=true:=by simp;omega
 have p4:240<=x:=by omega
 have t5:(x == 224)=false:=by simp;omega
 have p5:¬x=224:=by omega
 have t6:(x == 237)=false:=by simp;omega
 have p6:¬x=237:=by omega
 have t7:(x == 240)=false:=by simp;omega
 have p7:¬x=240:=by omega
 have t8:(x == 244)=true:=by simp;omega
 have p8:x=244:=by omega
 rw[if_neg (by omega),if_neg p0,if_neg (by omega)]at hv;rw[if_neg p5,if_neg p7,if_neg p6,if_pos p8]at hv;rw[if_neg (show ¬x<224 by omega),if_neg (show ¬x<240 by omega)]at hv;have C1:Hd (∀w,Calls prog 203 #[.string s,.int .i64 ((i:Int)+1),.int .u8 128,.int .u8 143] w fun e w'=>e=.returned (.bool (dC s.data.toList (i+1) 128 143))/\w'=w):=fun w=>lm s (i+1) 128 143 (by decide) w hs
 have C2:Hd (∀w,Calls prog 203 #[.string s,.int .i64 ((i:Int)+2),.int .u8 128,.int .u8 191] w fun e w'=>e=.returned (.bool (dC s.data.toList (i+2) 128 191))/\w'=w):=fun w=>lm s (i+2) 128 191 (by decide) w hs
 have C3:Hd (∀w,Calls prog 203 #[.string s,.int .i64 ((i:Int)+3),.int .u8 128,.int .u8 191] w fun e w'=>e=.returned (.bool (dC s.data.toList (i+3) 128 191))/\w'=w):=fun w=>lm s (i+3) 128 191 (by decide) w hs
 obtain⟨b1,hb1⟩:=zN (dC s.data.toList (i+1) 128 143);obtain⟨b2,hb2⟩:=zN (dC s.data.toList (i+2) 128 191);obtain⟨b3,hb3⟩:=zN (dC s.data.toList (i+3) 128 191);rw[hb1]at C1 hv;rw[hb2]at C2 hv;rw[hb3]at C3 hv;rw[hv];clear hv hc hb1 hb2 hb3
 cases b1 with
 | false =>
  go_enter func161,ntmps161;go_wp2_with (go_at_call 203;refine(C1.o _).mono ?_;rintro e w' ⟨rfl,rfl⟩);go_ret;exact⟨rfl,rfl⟩
 | true =>
  cases b2 with
  | false =>
   go_enter func161,ntmps161;go_wp2_with (go_at_call 203;refine(C1.o _).mono ?_;rintro e w' ⟨rfl,rfl⟩);refine wp_loop_rounds 1 ?_;rw[rounds_succ];go_wp2_with (go_at_call 203;refine(C2.o _).mono ?_;rintro e w' ⟨rfl,rfl⟩);go_ret;exact⟨rfl,rfl⟩
  | true =>
   cases b3 with
   | false =>
    go_enter func161,ntmps161;go_wp2_with (go_at_call 203;refine(C1.o _).mono ?_;rintro e w' ⟨rfl,rfl⟩);refine wp_loop_rounds 2 ?_;rw[rounds_succ];go_wp2_with (go_at_call 203;refine(C2.o _).mono ?_;rintro e w' ⟨rfl,rfl⟩);rw[rounds_succ];go_wp2_with (go_at_call 203;refine(C3.o _).mono ?_;rintro e w' ⟨rfl,rfl⟩);go_ret;exact⟨rfl,rfl⟩
   | true =>
    go_enter func161,ntmps161;go_wp2_with (go_at_call 203;refine(C1.o _).mono ?_;rintro e w' ⟨rfl,rfl⟩);refine wp_loop_rounds 3 ?_;rw[rounds_succ];go_wp2_with (go_at_call 203;refine(C2.o _).mono ?_;rintro e w' ⟨rfl,rfl⟩);rw[rounds_succ];go_wp2_with (go_at_call 203;refine(C3.o _).mono ?_;rintro e w' ⟨rfl,rfl⟩);rw[rounds_succ];go_wp2;go_ret;exact⟨rfl,rfl⟩
theorem abE(s:ByteArray)(i:Nat)(hi:i<s.size)(w:World)(hs:s.size<=1048576) :
  Calls prog 161 #[.string s,.int .i64 (i:Nat)] w fun e w'=>e=.returned (.int .i64 (aJ s.data.toList i:Nat))/\w'=w:=by
 obtain⟨x,hx⟩:∃x:Int,(s[i].toNat:Int)=x:=⟨_,rfl⟩;have h0:0<=x:=by omega
 have hor:x<128\/(128<=x/\x<194)\/244<x\/(194<=x/\x<224)\/x=224\/(225<=x/\x<=236)\/x=237\/(238<=x/\x<=239)\/x=240\/(241<=x/\x<=243)\/x=244:=by omega
 rcases hor with h|h|h|h|h|h|h|h|h|h|h
 ·exact abt s i hi w hs x hx h0 h
 ·exact abu s i hi w hs x hx h0 h
 ·exact abv s i hi w hs x hx h0 h
 ·exact abw s i hi w hs x hx h0 h
 ·exact abx s i hi w hs x hx h0 h
 ·exact aby s i hi w hs x hx h0 h
 ·exact abz s i hi w hs x hx h0 h
 ·exact abA s i hi w hs x hx h0 h
 ·exact abB s i hi w hs x hx h0 h
 ·exact abC s i hi w hs x hx h0 h
 ·exact abD s i hi w hs x hx h0 h
open Go.RowKit Go.Joins
theorem LW(w:World)(c:Int):(convert 90 9 (.slice (some ⟨w.heap.size,0,none⟩) 1 1)).run prog (w.alloc (.cells #[.int .u8 c] 5))=.ok (.string ⟨#[UInt8.ofNat c.toNat]⟩) (w.alloc (.cells #[.int .u8 c] 5)):=by
 rw[run_convert_bytes_string _ 90 9 5 _ 1 1 underlying90 underlying5 underlying9];rw[run_bytesToString _ _ 1 1 [c] (run_loadCells_list _ _ [.int .u8 c] (by
  intro j v hj
  match j,hj with
  | 0,hj=>simp at hj;subst hj;simp[Addr.add]))]
 rfl
theorem abG(w:World)(c d:Int):(convert 90 9 (.slice (some ⟨w.heap.size,0,none⟩) 2 2)).run prog (w.alloc (.cells #[.int .u8 c,.int .u8 d] 5))=.ok (.string ⟨#[UInt8.ofNat c.toNat,UInt8.ofNat d.toNat]⟩) (w.alloc (.cells #[.int .u8 c,.int .u8 d] 5)):=by
 rw[run_convert_bytes_string _ 90 9 5 _ 2 2 underlying90 underlying5 underlying9];rw[run_bytesToString _ _ 2 2 [c,d] (run_loadCells_list _ _ [.int .u8 c,.int .u8 d] (by
  intro j v hj
  match j,hj with
  | 0,hj=>simp at hj;subst hj;simp[Addr.add]
  | 1,hj=>simp at hj;subst hj;simp[Addr.add]))]
 rfl
theorem abH(w:World)(c d e:Int):(convert 90 9 (.slice (some ⟨w.heap.size,0,none⟩) 3 3)).run prog (w.alloc (.cells #[.int .u8 c,.int .u8 d,.int .u8 e] 5))=.ok (.string ⟨#[UInt8.ofNat c.toNat,UInt8.ofNat d.toNat,UInt8.ofNat e.toNat]⟩) (w.alloc (.cells #[.int .u8 c,.int .u8 d,.int .u8 e] 5)):=by
 rw[run_convert_bytes_string _ 90 9 5 _ 3 3 underlying90 underlying5 underlying9];rw[run_bytesToString _ _ 3 3 [c,d,e] (run_loadCells_list _ _ [.int .u8 c,.int .u8 d,.int .u8 e] (by
  intro j v hj
  match j,hj with
  | 0,hj=>simp at hj;subst hj;simp[Addr.add]
  | 1,hj=>simp at hj;subst hj;simp[Addr.add]
  | 2,hj=>simp at hj;subst hj;simp[Addr.add]))]
 rfl
theorem LY(x y:List UInt8)(wx:World)(h:x.length+y.length<=9223372036854775807):(Op.stringOp .add ⟨x.toArray⟩ ⟨y.toArray⟩).run prog wx=.ok (.string ⟨(x++y).toArray⟩) wx:=by
 rw[run_string_add_sum wx _ _ (by
  show x.toArray.size+y.toArray.size<=_;simpa using h),ByteArray.mk_append_mk]
theorem Dp{a b:List UInt8}(h:a=b):Ending.returned (.string ⟨a.toArray⟩)=.returned (.string ⟨b.toArray⟩):=by rw[h]
theorem TR(n:Nat)(hn:n<65536)(w:World):Calls prog 202 #[.int .i64 (n:Nat)] w fun e w'=>e=.returned (.string ⟨(iE n).toArray⟩)/\w.grownBy w' none:=by
 have k1:=LW w;have k2:=abG w;have k3:=abH w;have e64:(n:Int).tdiv 64=((n / 64:Nat):Int):=by rw[Int.tdiv_eq_ediv_of_nonneg (by omega)];omega
 have m64:(n:Int).tmod 64=((n % 64:Nat):Int):=by rw[Int.tmod_eq_emod_of_nonneg (by omega)];omega
 have e4096:(n:Int).tdiv 4096=((n / 4096:Nat):Int):=by rw[Int.tdiv_eq_ediv_of_nonneg (by omega)];omega
 have m6464:((n / 64:Nat):Int).tmod 64=((n / 64 % 64:Nat):Int):=by rw[Int.tmod_eq_emod_of_nonneg (by omega)];omega
 by_cases h1:n<128
 ·have HW:Hd (iE n=[UInt8.ofNat n]):=by show _=_;unfold iE;rw[if_pos h1]
  clear k2 k3 e64 m64 e4096 m6464;go_enter func202,ntmps202;go_wp2;go_ret;refine⟨Dp ?_,World.grownBy_alloc _ _ none⟩;rw[HW.o]
 ·by_cases h2:n<2048
  ·have HW:Hd (iE n=[UInt8.ofNat (192+n / 64),UInt8.ofNat (128+n % 64)]):=by show _=_;unfold iE;rw[if_neg h1,if_pos h2]
   clear k1 k3 e4096 m6464;go_enter func202,ntmps202;go_wp2;go_ret;refine⟨Dp ?_,World.grownBy_alloc _ _ none⟩;rw[HW.o]
  ·have HW:Hd (iE n=[UInt8.ofNat (224+n / 4096),UInt8.ofNat (128+n / 64 % 64),UInt8.ofNat (128+n % 64)]):=by show _=_;unfold iE;rw[if_neg h1,if_neg h2]
   clear k1 k2;go_enter func202,ntmps202;go_wp2;go_ret;refine⟨Dp ?_,World.grownBy_alloc _ _ none⟩;rw[HW.o]
theorem abI(x:Int)(h0:0<=x)(h1:x<256):hexV x=Ho (if 65<=x/\x<=70 then x+32 else x):=by
 unfold hexV Ho aA;simp only[decide_eq_true_eq]
 repeat' split
 all_goals omega
def abJ(R:Nat)(s:ByteArray)(L O:Value)(now de:Nat)(g:Rs (Nat × Nat))(w:World)(e:Ending)(w':World):Prop:=(∀n j,g=.ok (n,j)->e=.returned (.int .i64 (n:Nat))/\Ds w' R s L O now de (.ok j))/\(∀c p,g=.error (c,p)->e=.returned (.int .i64 0)/\Ds w' R s L O now de (.error (c,p)))/\w.grownBy w' (some R)
theorem abK(R:Nat)(s:ByteArray)(L O:Value)(now de i:Nat)(w:World)(h:Dd w R s L O now de i 0 0)(hi:i<=s.size)(hs:s.size<=1048576) :
  Calls prog 201 #[.pointer (some ⟨R,0,none⟩)] w (abJ R s L O now de (four s.data.toList 4 i 0) w):=by
 have hl:s.data.toList.length=s.size:=by simp
 have KW:Hd (∀k i n,four s.data.toList (k+1) i n=if hexV (nx s.data.toList i)<0 then .error (2,i) else four s.data.toList k (i+1) (16*n+(hexV (nx s.data.toList i)).toNat)):=Cj _;have Cm:=ae GH;have HX:Hd (∀k (hk:k<s.size),nx s.data.toList k=(s[k].toNat:Int)):=byte_at s;have uQ:Hd (∀k,s.size<=k->hexV (nx s.data.toList k)=-1):=fun k hk=>by rw[jJ _ _ (by omega)];exact KT
 have CS:=ae (fun c (h0:0<=c) (h1:c<256) w=>abr c h0 h1 w);have Hq:=ae abI;obtain⟨F,hF⟩:=zN (four s.data.toList 4 i 0);have HF:=ae hF;rw[hF];have H0:=ae h;clear h hF;go_enter func201,ntmps201;go_wp2;go_loopw [3,4] (fun vn vk wr=>∃k n j:Nat,vn=.int .i64 (n:Nat)/\vk=.int .i64 (k:Nat)/\k<=4/\n<16 ^ k/\four s.data.toList (4-k) j n=F/\Dd wr R s L O now de j 0 0/\j<=s.size/\w.grownBy wr (some R)) (fun _ vk _=>4-(intOf vk).toNat)
 case atStart=>exact⟨0,0,i,rfl,rfl,by omega,by omega,HF.o,H0.o,hi,au _ _⟩
 case round =>
  obtain⟨k,n,j,rfl,rfl,hk,hn,hf,hd,hj,hg⟩:=hrel;have HD:Hd (Dd _ R s L O now de j 0 0):=hd;have HG:Hd (w.grownBy _ (some R)):=hg
  by_cases hk4:k=4
  ·subst hk4;have kN:Hd (F=.ok (n,j)):=hf.symm;clear hd hg hf hn hk;go_wp2;refine bodyPost_ret (results_tmp (t:=2) rfl _ _ _) rfl ?_;rw[kN.o];exact⟨fun n j hh=>(by cases hh;exact⟨rfl,hj,HD.o⟩),fun c p hh=>(by cases hh),HG.o⟩
  ·have hk3:k<4:=by omega
   obtain⟨m,hm⟩:∃m,4-k=m+1:=⟨3-k,by omega⟩;have hm2:4-(k+1)=m:=by omega
   rw[hm,KW.o]at hf;have hn4:n<4096:=Nat.lt_of_lt_of_le hn (Nat.pow_le_pow_right (by decide) (show k<=3 by omega));have HN:=ae hn;have hxb:=Cm.o (nx s.data.toList j);obtain⟨c0,c1,-,-,-,c5,-,-,df⟩:=hd.cells;have df1:=df 1;have xe:=uQ.o j;obtain⟨d,Du⟩:=zN (hexV (nx s.data.toList j));rw[Du]at hf hxb xe;have kN:=ae hf;obtain⟨hd1,hd2⟩:=hxb;have CF:=ae (fun wx (hg:Dd wx R s L O now de j 0 0)=>qg R s L O now de j 2 j wx hg)
   by_cases hlt:j<s.size
   ·have hlt':decide ((j:Int)<(s.size:Int))=true:=by simp;omega
    have hxj:=HX.o j hlt;have hu:=s[j].toNat_lt;have hsg:=Hq.o (nx s.data.toList j) (by omega) (by omega);rw[Du,hxj]at hsg
    by_cases hA:65<=(s[j].toNat:Int)/\(s[j].toNat:Int)<=70
    ·have ny:Hd (∀w,Calls prog 126 #[.int .u8 ((s[j].toNat:Int)+32)] w fun e w'=>e=.returned (.int .i64 d)/\w'=w):=fun w=>by
      rw[if_pos hA]at hsg;rw[hsg];exact CS.o _ (by omega) (by omega) w
     have h65:=hA.1;have h70:=hA.2;have hwr:IntKind.u8.wrap ((s[j].toNat:Int)+32)=(s[j].toNat:Int)+32:=by simp[IntKind.wrap,IntKind.bits,IntKind.signed];omega
     clear hsg hd hg hf hm hk4 hk hn Du hxj df xe
     by_cases hd0:d<0
     ·have aC:Hd (F=.error (2,j)):=by
       have:=kN.o;rw[if_pos hd0]at this;exact this.symm
      go_wp2;go_quiet (fail);have aF:Hd (Dd (wr.drewN nq) R s L O now de j 0 0):=HD.o;have dW:=ae (ay HG.o nq);obtain⟨wA,hwA⟩:=zN (wr.drewN nq);rw[hwA]at aF dW ⊢;obtain⟨g0,g1,-,-,-,g5,-,-,dg⟩:=aF.o.cells;have dg1:=dg 1;clear hwA dg;go_wp2;go_quiet (fail);have aI:Hd (Dd (wA.drewN nq) R s L O now de j 0 0):=aF.o;have aH:=ae (ay dW.o nq);obtain⟨wB,hwB⟩:=zN (wA.drewN nq);rw[hwB]at aI aH ⊢;obtain⟨g0',g1',-,-,-,g5',-,-,dg⟩:=aI.o.cells;have dg2:=dg 1;clear hwB dg;go_wp2_with (first|(go_at_call 126;refine(ny.o _).mono ?_;rintro e w' ⟨rfl,rfl⟩)|(go_at_call 82;refine(CF.o _ aI.o).mono ?_;rintro e w2 ⟨rfl,hd2,hg2⟩));refine bodyPost_ret (results_tmp (t:=2) rfl _ _ _) rfl ?_;rw[aC.o];exact⟨fun n j hh=>(by cases hh),fun c p hh=>(by cases hh;exact⟨rfl,by decide,j,hj,hd2⟩),dK aH.o hg2⟩
     ·obtain⟨d,rfl⟩:∃d':Nat,d=(d':Int):=⟨d.toNat,by omega⟩;have iI:Hd (four s.data.toList m (j+1) (16*n+d)=F):=by
       have:=kN.o;rw[if_neg hd0]at this;show _=_;simpa using this
      have tV:Hd (16*n+d<16 ^ (k+1)):=by
       have:=HN.o;show _ < _;rw[Nat.pow_succ];omega
      go_wp2;go_quiet (fail);have aF:Hd (Dd (wr.drewN nq) R s L O now de j 0 0):=HD.o;have dW:=ae (ay HG.o nq);obtain⟨wA,hwA⟩:=zN (wr.drewN nq);rw[hwA]at aF dW ⊢;obtain⟨g0,g1,-,-,-,g5,-,-,dg⟩:=aF.o.cells;have dg1:=dg 1;clear hwA dg;go_wp2;go_quiet (fail);have aI:Hd (Dd (wA.drewN nq) R s L O now de j 0 0):=aF.o;have aH:=ae (ay dW.o nq);obtain⟨wB,hwB⟩:=zN (wA.drewN nq);rw[hwB]at aI aH ⊢;obtain⟨g0',g1',-,-,-,g5',-,-,dg⟩:=aI.o.cells;have dg2:=dg 1;clear hwB dg;go_wp2_with (go_at_call 126;refine(ny.o _).mono ?_;rintro e w' ⟨rfl,rfl⟩);go_roundw
      case rel =>
       exact⟨k+1,16*n+d,j+1,by go_num,by go_num,by omega,tV.o,by rw[hm2];exact iI.o,aI.o.setI (j+1),by omega,aS aH.o 1 _⟩
      case measure=>simp[intOf];omega
    ·have ny:Hd (∀w,Calls prog 126 #[.int .u8 ((s[j].toNat:Int))] w fun e w'=>e=.returned (.int .i64 d)/\w'=w):=fun w=>by
      rw[if_neg hA]at hsg;rw[hsg];exact CS.o _ (by omega) (by omega) w
     have hA':=hA;clear hsg hd hg hf hm hk4 hk hn Du hxj df xe
     by_cases hd0:d<0
     ·have aC:Hd (F=.error (2,j)):=by
       have:=kN.o;rw[if_pos hd0]at this;exact this.symm
      go_wp2;go_quiet (fail);have aF:Hd (Dd (wr.drewN nq) R s L O now de j 0 0):=HD.o;have dW:=ae (ay HG.o nq);obtain⟨wA,hwA⟩:=zN (wr.drewN nq);rw[hwA]at aF dW ⊢;obtain⟨g0,g1,-,-,-,g5,-,-,dg⟩:=aF.o.cells;have dg1:=dg 1;clear hwA dg;go_wp2;go_quiet (fail);have aI:Hd (Dd (wA.drewN nq) R s L O now de j 0 0):=aF.o;have aH:=ae (ay dW.o nq);obtain⟨wB,hwB⟩:=zN (wA.drewN nq);rw[hwB]at aI aH ⊢;obtain⟨g0',g1',-,-,-,g5',-,-,dg⟩:=aI.o.cells;have dg2:=dg 1;clear hwB dg
      by_cases h65:65<=(s[j].toNat:Int)
      ·have h7:¬(s[j].toNat:Int)<=70:=by omega
       go_wp2_with (first|(go_at_call 126;refine(ny.o _).mono ?_;rintro e w' ⟨rfl,rfl⟩)|(go_at_call 82;refine(CF.o _ aI.o).mono ?_;rintro e w2 ⟨rfl,hd2,hg2⟩));refine bodyPost_ret (results_tmp (t:=2) rfl _ _ _) rfl ?_;rw[aC.o];exact⟨fun n j hh=>(by cases hh),fun c p hh=>(by cases hh;exact⟨rfl,by decide,j,hj,hd2⟩),dK aH.o hg2⟩
      ·have h7:(s[j].toNat:Int)<65:=by omega
       go_wp2_with (first|(go_at_call 126;refine(ny.o _).mono ?_;rintro e w' ⟨rfl,rfl⟩)|(go_at_call 82;refine(CF.o _ aI.o).mono ?_;rintro e w2 ⟨rfl,hd2,hg2⟩));refine bodyPost_ret (results_tmp (t:=2) rfl _ _ _) rfl ?_;rw[aC.o];exact⟨fun n j hh=>(by cases hh),fun c p hh=>(by cases hh;exact⟨rfl,by decide,j,hj,hd2⟩),dK aH.o hg2⟩
     ·obtain⟨d,rfl⟩:∃d':Nat,d=(d':Int):=⟨d.toNat,by omega⟩;have iI:Hd (four s.data.toList m (j+1) (16*n+d)=F):=by
       have:=kN.o;rw[if_neg hd0]at this;show _=_;simpa using this
      have tV:Hd (16*n+d<16 ^ (k+1)):=by
       have:=HN.o;show _ < _;rw[Nat.pow_succ];omega
      go_wp2;go_quiet (fail);have aF:Hd (Dd (wr.drewN nq) R s L O now de j 0 0):=HD.o;have dW:=ae (ay HG.o nq);obtain⟨wA,hwA⟩:=zN (wr.drewN nq);rw[hwA]at aF dW ⊢;obtain⟨g0,g1,-,-,-,g5,-,-,dg⟩:=aF.o.cells;have dg1:=dg 1;clear hwA dg;go_wp2;go_quiet (fail);have aI:Hd (Dd (wA.drewN nq) R s L O now de j 0 0):=aF.o;have aH:=ae (ay dW.o nq);obtain⟨wB,hwB⟩:=zN (wA.drewN nq);rw[hwB]at aI aH ⊢;obtain⟨g0',g1',-,-,-,g5',-,-,dg⟩:=aI.o.cells;have dg2:=dg 1;clear hwB dg
      by_cases h65:65<=(s[j].toNat:Int)
      ·have h7:¬(s[j].toNat:Int)<=70:=by omega
       go_wp2_with (go_at_call 126;refine(ny.o _).mono ?_;rintro e w' ⟨rfl,rfl⟩);go_roundw
       case rel =>
        exact⟨k+1,16*n+d,j+1,by go_num,by go_num,by omega,tV.o,by rw[hm2];exact iI.o,aI.o.setI (j+1),by omega,aS aH.o 1 _⟩
       case measure=>simp[intOf];omega
      ·have h7:(s[j].toNat:Int)<65:=by omega
       go_wp2_with (go_at_call 126;refine(ny.o _).mono ?_;rintro e w' ⟨rfl,rfl⟩);go_roundw
       case rel =>
        exact⟨k+1,16*n+d,j+1,by go_num,by go_num,by omega,tV.o,by rw[hm2];exact iI.o,aI.o.setI (j+1),by omega,aS aH.o 1 _⟩
       case measure=>simp[intOf];omega
   ·have hge:decide ((j:Int)<(s.size:Int))=false:=by simp;omega
    have hdm:=xe (by omega);have aC:Hd (F=.error (2,j)):=by
     have:=kN.o;rw[if_pos (by omega)]at this;exact this.symm
    clear hd hg hf hm hk4 hk hn Du hdm xe df;go_wp2;go_quiet (fail);go_wp2_with (go_at_call 82;refine(CF.o _ ?_).mono ?_;exact HD.o;rintro e w2 ⟨rfl,hd2,hg2⟩);refine bodyPost_ret (results_tmp (t:=2) rfl _ _ _) rfl ?_;rw[aC.o];exact⟨fun n j hh=>(by cases hh),fun c p hh=>(by cases hh;exact⟨rfl,by decide,j,hj,hd2⟩),dK HG.o ⟨hg2.os,hg2.tape,hg2.output,hg2.size,hg2.block⟩⟩
open Go.RowKit Go.Joins
def qj(M R:Nat)(s:ByteArray)(L O:Value)(now de:Nat)(g:Rs (List UInt8 × Nat))(w:World)(e:Ending)(w':World):Prop:=(∀t j,g=.ok (t,j)->e=.returned (.string ⟨t.toArray⟩)/\Ds w' R s L O now de (.ok j))/\(∀c p,g=.error (c,p)->(∃t:List UInt8,t.length<=M/\e=.returned (.string ⟨t.toArray⟩))/\Ds w' R s L O now de (.error (c,p)))/\w.grownBy w' (some R)
theorem TS(l:List UInt8):∀(k i n N j:Nat),four l k i n=.ok (N,j)->N<(n+1)*16 ^ k
 | 0,i,n,N,j,h=>by
  have h':(Except.ok (n,i):Rs (Nat × Nat))=.ok (N,j):=h;injection h' with h'
  injection h' with h1 h2
  omega
 | k+1,i,n,N,j,h=>by
  rw[Cj]at h;split at h
  ·cases h
  ·have:=TS l k _ _ N j h;have hb:=GH (nx l i);have e:(16*n+(hexV (nx l i)).toNat+1)*16 ^ k<=(16*(n+1))*16 ^ k:=Nat.mul_le_mul_right _ (by omega);rw[Nat.pow_succ];have e2:(n+1)*(16 ^ k*16)=(16*(n+1))*16 ^ k:=by rw[Nat.mul_comm (16 ^ k) 16,<-Nat.mul_assoc,Nat.mul_comm (n+1) 16]
   omega
def Hr(i:Nat):Rs (Nat × Nat)->Rs (List UInt8 × Nat)
 | .error e=>.error e
 | .ok (n,j)=>if 55296<=n/\n<=57343 then .error (2,i) else .ok (iE n,j)
theorem abL(l:List UInt8)(i:Nat)(h:nx l (i+1)=117):esc l i=Hr i (four l 4 (i+2) 0):=by
 unfold esc;rw[if_pos h]
 cases four l 4 (i+2) 0<;>rfl
theorem TT(l:List UInt8)(i:Nat)(h1:¬nx l (i+1)=117)(h2:¬nx l (i+1)=98)(h3:¬nx l (i+1)=116)(h4:¬nx l (i+1)=110)(h5:¬nx l (i+1)=102)(h6:¬nx l (i+1)=114)(h7:¬nx l (i+1)=34)(h8:¬nx l (i+1)=92):esc l i=.error (2,i+1):=by
 unfold esc;rw[if_neg h1,if_neg h2,if_neg h3,if_neg h4,if_neg h5,if_neg h6,if_neg h7,if_neg h8]
theorem abM(l:List UInt8)(i:Nat)(h:nx l (i+1)=98):esc l i=.ok ([8],i+2):=by
 unfold esc;rw[if_neg (by rw[h];decide),if_pos h]
theorem abN(l:List UInt8)(i:Nat)(h:nx l (i+1)=116):esc l i=.ok ([9],i+2):=by
 unfold esc;rw[if_neg (by rw[h];decide),if_neg (by rw[h];decide),if_pos h]
theorem abO(l:List UInt8)(i:Nat)(h:nx l (i+1)=110):esc l i=.ok ([10],i+2):=by
 unfold esc;rw[if_neg (by rw[h];decide),if_neg (by rw[h];decide),if_neg (by rw[h];decide),if_pos h]
theorem abP(l:List UInt8)(i:Nat)(h:nx l (i+1)=102):esc l i=.ok ([12],i+2):=by
 unfold esc;rw[if_neg (by rw[h];decide),if_neg (by rw[h];decide),if_neg (by rw[h];decide),if_neg (by rw[h];decide),if_pos h]
theorem abQ(l:List UInt8)(i:Nat)(h:nx l (i+1)=114):esc l i=.ok ([13],i+2):=by
 unfold esc;rw[if_neg (by rw[h];decide),if_neg (by rw[h];decide),if_neg (by rw[h];decide),if_neg (by rw[h];decide),if_neg (by rw[h];decide),if_pos h]
theorem abR(l:List UInt8)(i:Nat)(h:nx l (i+1)=34):esc l i=.ok ([34],i+2):=by
 unfold esc;rw[if_neg (by rw[h];decide),if_neg (by rw[h];decide),if_neg (by rw[h];decide),if_neg (by rw[h];decide),if_neg (by rw[h];decide),if_neg (by rw[h];decide),if_pos h]
theorem abS(l:List UInt8)(i:Nat)(h:nx l (i+1)=92):esc l i=.ok ([92],i+2):=by
 unfold esc;rw[if_neg (by rw[h];decide),if_neg (by rw[h];decide),if_neg (by rw[h];decide),if_neg (by rw[h];decide),if_neg (by rw[h];decide),if_neg (by rw[h];decide),if_neg (by rw[h];decide),if_pos h]
theorem abT(R:Nat)(s:ByteArray)(L O:Value)(now de i:Nat)(w:World)(h:Dd w R s L O now de i 0 0)(hi:i<s.size)(hs:s.size<=1048576)(he:s.size<=i+1) :
  Calls prog 160 #[.pointer (some ⟨R,0,none⟩)] w (qj 3 R s L O now de (esc s.data.toList i) w):=by
 have hl:s.data.toList.length=s.size:=by simp
 have HS:Hd (Dd (w.setCell ⟨R,1,none⟩ (.int .i64 ((i:Int)+1))) R s L O now de (i+1) 0 0):=h.setI (i+1);have fD:Hd (w.grownBy (w.setCell ⟨R,1,none⟩ (.int .i64 ((i:Int)+1))) (some R)):=aS (au w (some R)) 1 _;obtain⟨c0,c1,-,-,-,-,-,-,df⟩:=h.cells;have df1:=df 1;have HE:Hd (esc s.data.toList i=.error (2,i+1)):=by
  have e:nx s.data.toList (i+1)=-1:=jJ _ _ (by omega);exact TT _ _ (by rw[e];decide) (by rw[e];decide) (by rw[e];decide) (by rw[e];decide) (by rw[e];decide) (by rw[e];decide) (by rw[e];decide) (by rw[e];decide)
 rw[HE.o];clear h df;obtain⟨j,hj⟩:=zN (i+1);have hjs:j<=s.size:=by omega
 have hge:decide ((s.size:Int)<=(j:Int))=true:=by simp;omega
 have lU:(s.size:Int)<=(j:Int):=by omega
 rw[hj]at HS ⊢;clear hj he;go_enter func160,ntmps160;go_wp2;obtain⟨wA,hwA⟩:=zN (w.setCell ⟨R,1,none⟩ (.int .i64 ((i:Int)+1)));rw[hwA]at HS fD ⊢;obtain⟨d0,d1,-,-,-,-,-,-,dg⟩:=HS.o.cells;have dg1:=dg 1;clear hwA dg c0 c1 df1;have CF:=ae (fun wx (hg:Dd wx R s L O now de j 0 0)=>qg R s L O now de j 2 j wx hg);go_quiet (fail);go_wp2_with (go_at_call 82;refine(CF.o _ ?_).mono ?_;exact HS.o;rintro e w2 ⟨rfl,hd2,hg2⟩);refine bodyPost_ret (results_tmp (t:=2) rfl _ _ _) rfl ?_;exact⟨fun t k hh=>(by cases hh),fun c p hh=>(by cases hh;exact⟨⟨[],by simp,rfl⟩,by decide,j,by omega,hd2⟩),dK (w1:=wA) fD.o ⟨hg2.os,hg2.tape,hg2.output,hg2.size,hg2.block⟩⟩
open Go.RowKit Go.Joins
theorem abU(R:Nat)(s:ByteArray)(L O:Value)(now de i:Nat)(w:World)(h:Dd w R s L O now de i 0 0)(hi:i<s.size)(hs:s.size<=1048576)(hn:i+1<s.size)(m98:¬nx s.data.toList (i+1)=98)(m116:¬nx s.data.toList (i+1)=116)(m110:¬nx s.data.toList (i+1)=110)(m102:¬nx s.data.toList (i+1)=102)(m114:¬nx s.data.toList (i+1)=114)(m34:¬nx s.data.toList (i+1)=34)(m92:¬nx s.data.toList (i+1)=92)(m117:¬nx s.data.toList (i+1)=117) :
  Calls prog 160 #[.pointer (some ⟨R,0,none⟩)] w (qj 3 R s L O now de (esc s.data.toList i) w):=by
 have hl:s.data.toList.length=s.size:=by simp
 have HS:Hd (Dd (w.setCell ⟨R,1,none⟩ (.int .i64 ((i:Int)+1))) R s L O now de (i+1) 0 0):=h.setI (i+1);have fD:Hd (w.grownBy (w.setCell ⟨R,1,none⟩ (.int .i64 ((i:Int)+1))) (some R)):=aS (au w (some R)) 1 _;obtain⟨c0,c1,-,-,-,-,-,-,df⟩:=h.cells;have df1:=df 1;have HE:=ae (TT _ _ m117 m98 m116 m110 m102 m114 m34 m92);rw[HE.o];have fQ:Hd (∀(hj:i+1<s.size),nx s.data.toList (i+1)=(s[i+1].toNat:Int)):=byte_at s (i+1);clear h df;obtain⟨j,hj⟩:=zN (i+1);have hij:i+2=j+1:=by omega
 have hlt:j<s.size:=by omega
 have hge:decide ((s.size:Int)<=(j:Int))=false:=by simp;omega
 have lU:¬(s.size:Int)<=(j:Int):=by omega
 rw[hj]at HS fQ m98 m116 m110 m102 m114 m34 m92 m117;rw[hj];have HX:=ae (fQ.o hlt);clear hj hij fQ hn HE;have q98:((s[j].toNat:Int) == 98)=false:=by rw[beq_eq_false_iff_ne,<-HX.o];exact m98
 have q116:((s[j].toNat:Int) == 116)=false:=by rw[beq_eq_false_iff_ne,<-HX.o];exact m116
 have q110:((s[j].toNat:Int) == 110)=false:=by rw[beq_eq_false_iff_ne,<-HX.o];exact m110
 have q102:((s[j].toNat:Int) == 102)=false:=by rw[beq_eq_false_iff_ne,<-HX.o];exact m102
 have q114:((s[j].toNat:Int) == 114)=false:=by rw[beq_eq_false_iff_ne,<-HX.o];exact m114
 have q34:((s[j].toNat:Int) == 34)=false:=by rw[beq_eq_false_iff_ne,<-HX.o];exact m34
 have q92:((s[j].toNat:Int) == 92)=false:=by rw[beq_eq_false_iff_ne,<-HX.o];exact m92
 have q117:((s[j].toNat:Int) == 117)=false:=by rw[beq_eq_false_iff_ne,<-HX.o];exact m117
 clear HX m98 m116 m110 m102 m114 m34 m92 m117;go_enter func160,ntmps160;go_wp2;obtain⟨wA,hwA⟩:=zN (w.setCell ⟨R,1,none⟩ (.int .i64 ((i:Int)+1)));rw[hwA]at HS fD ⊢;obtain⟨d0,d1,-,-,-,-,-,-,dg⟩:=HS.o.cells;have dg1:=dg 1;clear hwA dg c0 c1 df1;go_quiet (fail);have aI:Hd (Dd (wA.drewN nq) R s L O now de j 0 0):=HS.o;have aH:=ae (ay fD.o nq);obtain⟨wB,hwB⟩:=zN (wA.drewN nq);rw[hwB]at aI aH ⊢;obtain⟨f0,f1,-,-,-,-,-,-,fg⟩:=aI.o.cells;have fg1:=fg 1;clear hwB fg d0 d1 dg1;go_wp2;go_quiet (fail);have dL:Hd (Dd (wB.drewN nq) R s L O now de j 0 0):=aI.o;have bf:=ae (ay aH.o nq);obtain⟨wC,fU⟩:=zN (wB.drewN nq);rw[fU]at dL bf ⊢;obtain⟨g0,g1,-,-,-,-,-,-,gg⟩:=dL.o.cells;have gg1:=gg 1;have fK:Hd (Dd (wC.setCell ⟨R,1,none⟩ (.int .i64 ((j:Int)+1))) R s L O now de (j+1) 0 0):=dL.o.setI (j+1);have gX:Hd (w.grownBy (wC.setCell ⟨R,1,none⟩ (.int .i64 ((j:Int)+1))) (some R)):=aS bf.o 1 _
 clear fU gg f0 f1 fg1;have hsub:IntKind.i64.wrap ((j:Int)+1-1)=(j:Int):=by rw[IntKind.wrap_i64];omega
 have CF:=ae (fun wx (hg:Dd wx R s L O now de (j+1) 0 0)=>qg R s L O now de (j+1) 2 j wx hg);obtain⟨-,k1,-⟩:=fK.o.cells;go_wp2_with (go_at_call 82;refine(CF.o _ fK.o).mono ?_;rintro e w2 ⟨rfl,hd2,hg2⟩);refine bodyPost_ret (results_tmp (t:=2) rfl _ _ _) rfl ?_;exact⟨fun t k hh=>(by cases hh),fun c p hh=>(by cases hh;exact⟨⟨[],by simp,rfl⟩,by decide,j+1,by omega,hd2⟩),dK gX.o hg2⟩
end Go.Proofs.YtnnbgjaphfhibaaGreatDoor
