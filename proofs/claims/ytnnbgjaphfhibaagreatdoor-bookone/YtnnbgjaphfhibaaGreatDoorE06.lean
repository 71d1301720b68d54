import Derived.Test.YtnnbgjaphfhibaaGreatDoorE01
import Derived.Lib.DecodeNEq
import Derived.Test.YtnnbgjaphfhibaaGreatDoorE02
set_option linter.all false
set_option maxRecDepth 100000
set_option maxHeartbeats 0
open Go.Proofs.Tryz
namespace Go.Proofs.YtnnbgjaphfhibaaGreatDoor
open Go.RowKit Go.Joins
structure Es(w:World)(E:Int->TypeId × Value):Prop where
 te:w.cell? ⟨6,0,none⟩=some (.iface (E 2).1 (E 2).2)
 ra:w.cell? ⟨1,0,none⟩=some (.iface (E 3).1 (E 3).2)
 ma:w.cell? ⟨2,0,none⟩=some (.iface (E 4).1 (E 4).2)
 tw:w.cell? ⟨3,0,none⟩=some (.iface (E 5).1 (E 5).2)
structure Far(R:Nat):Prop where
 te:¬R=6
 ra:¬R=1
 ma:¬R=2
 tw:¬R=3
theorem Es.grow{w w':World}{E:Int->TypeId × Value}{R:Nat}(h:Es w E)(hR:Far R)(hg:w.grownBy w' (some R)):Es w' E :=
 ⟨hg.cell h.te (by simp;exact fun e=>hR.te e.symm),hg.cell h.ra (by simp;exact fun e=>hR.ra e.symm),hg.cell h.ma (by simp;exact fun e=>hR.ma e.symm),hg.cell h.tw (by simp;exact fun e=>hR.tw e.symm)⟩
def dF(w:World)(v:Value)(E:Int->TypeId × Value)(c:Int)(p:Nat):Prop:=FaultV w v p (E c).1 (E c).2
def RU(R:Nat)(s:ByteArray)(T:Nat)(E:Int->TypeId × Value)(g:Rs (Int × Nat))(w:World)(e:Ending)(w':World):Prop:=(∀n j,g=.ok (n,j)->e=.returned (.tuple #[.int .i64 n,.nilIface])/\Rd w' R s j T)/\(∀c p,g=.error (c,p)->∃v,e=.returned (.tuple #[.int .i64 0,v])/\dF w' v E c p/\∃j,Rd w' R s j T)/\w.grownBy w' (some R)
theorem GK(l:List UInt8)(i:Nat):lQ l i=if aj l i (toR dH l i-i)=[116,114,117,101] then .ok (1,toR dH l i) else if aj l i (toR dH l i-i)=[102,97,108,115,101] then .ok (0,toR dH l i) else .error (2,i):=rfl
theorem aas(R:Nat)(s:ByteArray)(i T:Nat)(E:Int->TypeId × Value)(w:World)(h:Rd w R s i T)(hi:i<=s.size)(hs:s.size<=1048576)(he:Es w E)(hR:Far R) :
  Calls prog 198 #[.pointer (some ⟨R,0,none⟩)] w (RU R s T E (lQ s.data.toList i) w):=by
 have CN:=ae (fun k w (h1:Rd w R s k T) (h2:k<=s.size)=>mX R s k T w h1 h2 hs);have CB:=ae RJ;have CW:Hd (∀w,Calls prog 195 #[.iface (E 2).1 (E 2).2,.int .i64 (i:Nat)] w fun e w'=>(∃v,e=.returned v/\FaultV w' v i (E 2).1 (E 2).2)/\w.grownBy w' none):=fun w=>tC i _ _ w
 have mi:=ae (fun w' (hg:w.grownBy w' (some R))=>(he.grow hR hg).te);have dV:Hd (∀w' v,FaultV w' v i (E 2).1 (E 2).2->dF w' v E 2 i):=fun _ _ h=>h
 obtain⟨ty,hty⟩:=zN ((E 2).1);obtain⟨pv,hpv⟩:=zN ((E 2).2);rw[hty,hpv]at CW mi dV;have hl:s.data.toList.length=s.size:=by simp
 have HST:=ae (fun k (hk:k<s.size) (hb:dH (nx s.data.toList k)=true)=>qV dH _ k (by omega) hb);have kY:=ae (fun k (hb:dH (nx s.data.toList k)=false)=>kX dH _ k hb);have bP:Hd (∀k,k<=s.size->dH (nx s.data.toList k)=true->k<s.size):=fun k hk hb=>by
  apply Classical.byContradiction;intro hn;rw[jJ _ _ (by omega)]at hb;exact absurd hb (by decide)
 have kM:Hd (lQ s.data.toList i=if aj s.data.toList i (toR dH s.data.toList i-i)=[116,114,117,101] then .ok (1,toR dH s.data.toList i) else if aj s.data.toList i (toR dH s.data.toList i-i)=[102,97,108,115,101] then .ok (0,toR dH s.data.toList i) else .error (2,i)):=GK _ i;have hij:=pY dH s.data.toList i (by omega);rw[hl]at hij;obtain⟨J,hJ⟩:=zN (toR dH s.data.toList i);have HJ:=ae hJ;obtain⟨G,hG⟩:=zN (lQ s.data.toList i);rw[hJ]at kM hij;rw[hG]at kM ⊢;obtain⟨hij1,hij2⟩:=hij;have H0:=ae h;obtain⟨X,hX⟩:∃X:ByteArray,X=⟨(aj s.data.toList i (J-i)).toArray⟩:=⟨_,rfl⟩;have s1:∀wx,(Instr.slice 9 (.string s) (some (.int .i64 (i:Int))) (some (.int .i64 (J:Int))) none).run prog wx=.ok (.string X) wx:=fun wx=>by rw[hX];exact lM s i J hij1 hij2 wx
 have uQ:Hd (X.toList=aj s.data.toList i (J-i)):=by show _=_;rw[hX,ByteArray.toList_eq]
 obtain⟨c0,c1,-,-⟩:=h.cells;clear h hJ hG hX hty hpv he;go_enter func198,ntmps198;go_wp2;go_loopw [] (fun wr=>∃k:Nat,Rd wr R s k T/\k<=s.size/\toR dH s.data.toList k=J/\w.grownBy wr (some R)) (fun wr=>s.size-(match wr.cell? ⟨R,1,none⟩ with|some (.int _ k)=>k.toNat|_=>0))
 case atStart=>exact⟨i,H0.o,hi,HJ.o,au _ _⟩
 case round =>
  obtain⟨k,hrd,hk,hbl,hg⟩:=hrel;have dJ:=ae hrd;have fP:=ae hbl;have HG:=ae hg;have C1:=ae (CN.o k wr hrd hk);have hme:(match wr.cell? ⟨R,1,none⟩ with|some (.int _ k)=>k.toNat|_=>0)=k:=by rw[hrd.cells.2.1];simp
  have ig:=ae hme;have fC:=ae (fun(hb:dH (nx s.data.toList k)=true)=>HST.o k (bP.o k hk hb) hb);have HS2:=ae (kY.o k);have HL2:=ae (bP.o k hk);obtain⟨c,hc⟩:=zN (nx s.data.toList k);rw[hc]at C1 fC HS2 HL2;have jk:=ae (fun w=>CB.o c w);obtain⟨b,hb⟩:=zN (dH c);rw[hb]at jk fC HS2 HL2;clear hrd hbl hg hme hc hb c0 c1
  cases b with
  | false =>
   have yG:=ae ((HS2.o (by trivial)).symm.trans fP.o);go_wp2_with (first|(go_at_call 104;refine C1.o.mono ?_;rintro e w2 ⟨rfl,hg2⟩)|(go_at_call 150;refine(jk.o _).mono ?_;rintro e w' ⟨rfl,rfl⟩));have HR2:Hd (Rd w' R s J T):=by rw[<-yG.o];exact dJ.o.grow hg2
   have HG2:=ae (aG HG.o hg2);obtain⟨d0,d1,-,-⟩:=HR2.o.cells;have dte:=mi.o _ HG2.o;clear hg2;have KP:Hd (G=if X.toList=[116,114,117,101] then .ok (1,J) else if X.toList=[102,97,108,115,101] then .ok (0,J) else .error (2,i)):=by show _=_;rw[uQ.o];exact kM.o
   by_cases h1:X.toList=[116,114,117,101]
   ·have hb:(X.toList == [116,114,117,101])=true:=by simp[h1]
    have aC:Hd (G=.ok (1,J)):=by show G=_;rw[KP.o,if_pos h1]
    clear h1;go_quiet (fail);go_wp2;refine bodyPost_ret (results_tmp2 (t:=2) (u:=3) rfl _ _ _) rfl ?_;rw[aC.o];exact⟨fun n j hh=>(by cases hh;exact⟨rfl,HR2.o⟩),fun c p hh=>(by cases hh),ay HG2.o _⟩
   ·have hb:(X.toList == [116,114,117,101])=false:=by simp[h1]
    by_cases h2:X.toList=[102,97,108,115,101]
    ·have hb2:(X.toList == [102,97,108,115,101])=true:=by simp[h2]
     have aC:Hd (G=.ok (0,J)):=by show G=_;rw[KP.o,if_neg h1,if_pos h2]
     clear h1 h2;go_quiet (fail);go_wp2;refine bodyPost_ret (results_tmp2 (t:=2) (u:=3) rfl _ _ _) rfl ?_;rw[aC.o];exact⟨fun n j hh=>(by cases hh;exact⟨rfl,HR2.o⟩),fun c p hh=>(by cases hh),ay HG2.o _⟩
    ·have hb2:(X.toList == [102,97,108,115,101])=false:=by simp[h2]
     have aC:Hd (G=.error (2,i)):=by show G=_;rw[KP.o,if_neg h1,if_neg h2]
     clear h1 h2;go_quiet (fail);go_wp2_with (go_at_call 195;refine(CW.o _).mono ?_;rintro e w3 ⟨⟨v,rfl,hv⟩,hg3⟩);refine bodyPost_ret (results_tmp2 (t:=2) (u:=3) rfl _ _ _) rfl ?_;rw[aC.o];exact⟨fun n j hh=>(by cases hh),fun c p hh=>(by cases hh;exact⟨v,rfl,dV.o _ _ hv,J,Rd.grow (w:=World.drewN w' _) HR2.o hg3⟩),aG (ay HG2.o _) hg3⟩
  | true =>
   have hkl:=HL2.o (by trivial);have HN:=ae ((fC.o (by trivial)).symm.trans fP.o);go_wp2_with (first|(go_at_call 104;refine C1.o.mono ?_;rintro e w2 ⟨rfl,hg2⟩;obtain⟨-,d1,-,df⟩:=(dJ.o.grow hg2).cells;have df1:=df 1)|(go_at_call 150;refine(jk.o _).mono ?_;rintro e w' ⟨rfl,rfl⟩));have jQ:Hd (Rd (w'.setCell ⟨R,1,none⟩ (.int .i64 ((k:Int)+1))) R s (k+1) T):=(dJ.o.grow hg2).set (k+1);refine⟨⟨k+1,jQ.o,by omega,HN.o,aS (aG HG.o hg2) 1 _⟩,?_⟩;rw[ig.o,jQ.o.cells.2.1];simp;omega
open Go.RowKit Go.Joins
def Ci(n:Int):Bool:=decide (55296<=n/\n<=57343)
def qY(n:Nat):Bool:=Ci (n:Nat)
theorem aat(n:Int)(h0:0<=n)(hn:n<65536)(w:World):Calls prog 238 #[.int .i32 n] w fun e w'=>e=.returned (.bool (!Ci n))/\w'=w:=by
 have HX:Hd (Ci n=decide (55296<=n/\n<=57343)):=rfl;obtain⟨y,hy⟩:=zN (Ci n);rw[hy]at HX ⊢;clear hy;go_enter func238,ntmps238;go_wp2
 all_goals go_ret
 all_goals (refine⟨bJ ?_,rfl⟩;rw[HX.o];simp;try omega)
theorem aau(n:Nat)(hn:n<65536)(w:World):Calls prog 238 #[.int .i32 (n:Nat)] w fun e w'=>e=.returned (.bool (!qY n))/\w'=w:=aat (n:Nat) (by omega) (by omega) w
def KQ(p:Nat):Rs (Nat × Nat)->Rs (Nat × Nat)
 | .error e=>.error e
 | .ok (n,j)=>if qY n=true then .error (2,p) else .ok (n,j)
def wO(l:List UInt8)(i p:Nat):Rs (Nat × Nat):=KQ p (four l 4 i 0)
theorem Cj(l:List UInt8)(k i n:Nat):four l (k+1) i n=if hexV (nx l i)<0 then .error (2,i) else four l k (i+1) (16*n+(hexV (nx l i)).toNat):=rfl
theorem aav(c d:Nat)(hc:c<4096)(hd:d<16):bits BinOp.or IntKind.i32 ((c:Int)*16) (d:Int)=((16*c+d:Nat):Int):=by
 have e1:(c:Int)*16=((c*16:Nat):Int):=by simp
 have e2:c*16 ||| d=16*c+d:=by
  have:=Nat.shiftLeft_add_eq_or_of_lt (a:=c) (b:=d) (i:=4) (by omega);rw[Nat.shiftLeft_eq]at this;have e:(2:Nat) ^ 4=16:=rfl;rw[e]at this;omega
 have e3:(BitVec.ofInt 32 ((c:Int)*16) ||| BitVec.ofInt 32 (d:Int)).toNat=16*c+d:=by
  rw[e1,BitVec.ofInt_natCast,BitVec.ofInt_natCast,BitVec.toNat_or,BitVec.toNat_ofNat,BitVec.toNat_ofNat,Nat.mod_eq_of_lt (by omega),Nat.mod_eq_of_lt (by omega),e2]
 show IntKind.i32.wrap (((BitVec.ofInt 32 ((c:Int)*16) ||| BitVec.ofInt 32 (d:Int)).toNat:Nat):Int)=_;rw[e3];simp[IntKind.wrap,IntKind.bits,IntKind.signed];omega
theorem KT:hexV (-1)=-1:=by decide
def KU(R:Nat)(s:ByteArray)(T:Nat)(E:Int->TypeId × Value)(g:Rs (Nat × Nat))(w:World)(e:Ending)(w':World):Prop:=(∀n j,g=.ok (n,j)->e=.returned (.tuple #[.int .i32 (n:Nat),.nilIface])/\Rd w' R s j T)/\(∀c p,g=.error (c,p)->∃v,e=.returned (.tuple #[.int .i32 0,v])/\dF w' v E c p/\∃j,Rd w' R s j T)/\w.grownBy w' (some R)
theorem aaw(R:Nat)(s:ByteArray)(i T p:Nat)(E:Int->TypeId × Value)(w:World)(h:Rd w R s i T)(hi:i<=s.size)(hs:s.size<=1048576)(he:Es w E)(hR:Far R) :
  Calls prog 228 #[.pointer (some ⟨R,0,none⟩),.int .i64 (p:Nat)] w (KU R s T E (wO s.data.toList i p) w):=by
 have CN:=ae (fun k w (h1:Rd w R s k T) (h2:k<=s.size)=>mX R s k T w h1 h2 hs);have CX:=ae aap;have CV:=ae aau;have CW:Hd (∀w,Calls prog 195 #[.iface (E 2).1 (E 2).2,.int .i64 (p:Nat)] w fun e w'=>(∃v,e=.returned v/\FaultV w' v p (E 2).1 (E 2).2)/\w.grownBy w' none):=fun w=>tC p _ _ w
 have mi:=ae (fun w' (hg:w.grownBy w' (some R))=>(he.grow hR hg).te);have dV:Hd (∀w' v q,FaultV w' v q (E 2).1 (E 2).2->dF w' v E 2 q):=fun _ _ _ h=>h
 obtain⟨ty,hty⟩:=zN ((E 2).1);obtain⟨pv,hpv⟩:=zN ((E 2).2);rw[hty,hpv]at CW mi dV;have CH:=ae (fun k w' (hg:w.grownBy w' (some R)) (hr:Rd w' R s k T)=>wM R s k T ty pv w' hr (mi.o w' hg));have hl:s.data.toList.length=s.size:=by simp
 have KW:Hd (∀k i n,four s.data.toList (k+1) i n=if hexV (nx s.data.toList i)<0 then .error (2,i) else four s.data.toList k (i+1) (16*n+(hexV (nx s.data.toList i)).toNat)):=Cj _;have Cm:=ae GH;have KX:Hd (∀i,-1<=nx s.data.toList i/\nx s.data.toList i<256):=Gv _;have bP:Hd (∀k,k<=s.size->0<=hexV (nx s.data.toList k)->k<s.size):=fun k hk hb=>by
  apply Classical.byContradiction;intro hn;rw[jJ _ _ (by omega),KT]at hb;omega
 obtain⟨F,hF⟩:=zN (four s.data.toList 4 i 0);have HF:=ae hF;obtain⟨G,hG⟩:=zN (wO s.data.toList i p);have RX:Hd (G=KQ p F):=by show _=_;rw[<-hG,<-hF];rfl
 rw[hG];have H0:=ae h;clear h hF hG hty hpv he;go_enter func228,ntmps228;go_wp2;go_loopw [6,8] (fun vc vk wr=>∃k c j:Nat,vc=.int .i32 (c:Nat)/\vk=.int .i64 (k:Nat)/\k<=4/\c<16 ^ k/\four s.data.toList (4-k) j c=F/\Rd wr R s j T/\j<=s.size/\w.grownBy wr (some R)) (fun _ vk _=>4-(intOf vk).toNat)
 case atStart=>exact⟨0,0,i,rfl,rfl,by omega,by omega,HF.o,H0.o,hi,au _ _⟩
 case round =>
  obtain⟨k,c,j,rfl,rfl,hk,hc,hf,hrd,hj,hg⟩:=hrel;have dJ:Hd (Rd _ R s j T):=hrd;have HG:Hd (w.grownBy _ (some R)):=hg
  by_cases hk4:k=4
  ·subst hk4;have hc4:c<65536:=by omega
   have kN:Hd (F=.ok (c,j)):=hf.symm;have aC:Hd (G=if qY c=true then .error (2,p) else .ok (c,j)):=by
    show _=_;rw[RX.o,kN.o];rfl
   have zV:=ae (CV.o c hc4);have dte:=mi.o _ hg;obtain⟨b,hb⟩:=zN (qY c);rw[hb]at zV aC;clear hb hrd hg hf hc hk
   cases b with
   | true =>
    go_wp2_with (first|(go_at_call 238;refine(zV.o _).mono ?_;rintro e w' ⟨rfl,rfl⟩)|(go_at_call 195;refine(CW.o _).mono ?_;rintro e w3 ⟨⟨v,rfl,hv⟩,hg3⟩));refine bodyPost_ret (results_tmp2 (t:=4) (u:=5) rfl _ _ _) rfl ?_;rw[aC.o];exact⟨fun n j hh=>(by cases hh),fun c p hh=>(by cases hh;exact⟨v,rfl,dV.o _ _ _ hv,_,dJ.o.grow hg3⟩),aG HG.o hg3⟩
   | false =>
    go_wp2_with (go_at_call 238;refine(zV.o _).mono ?_;rintro e w' ⟨rfl,rfl⟩);refine bodyPost_ret (results_tmp2 (t:=4) (u:=5) rfl _ _ _) rfl ?_;rw[aC.o];exact⟨fun n j hh=>(by cases hh;exact⟨rfl,dJ.o⟩),fun c p hh=>(by cases hh),HG.o⟩
  ·have hk3:k<4:=by omega
   obtain⟨m,hm⟩:∃m,4-k=m+1:=⟨3-k,by omega⟩;have hm2:4-(k+1)=m:=by omega
   rw[hm,KW.o]at hf;have C1:Hd (Calls prog 104 #[.pointer (some ⟨R,0,none⟩)] _ fun e w'=>e=.returned (.int .i64 (nx s.data.toList j))/\World.grownBy _ w' none):=CN.o j _ hrd hj;have hxb:=Cm.o (nx s.data.toList j);have C2:=ae (CX.o _ (KX.o j));have RY:=ae (bP.o j hj);obtain⟨d,hd⟩:=zN (hexV (nx s.data.toList j));rw[hd]at C2 hf hxb RY;obtain⟨x,hx⟩:=zN (nx s.data.toList j);rw[hx]at C1 C2;obtain⟨hd1,hd2⟩:=hxb;have kN:=ae hf;have hc4:c<4096:=Nat.lt_of_lt_of_le hc (Nat.pow_le_pow_right (by decide) (show k<=3 by omega));have HC:=ae hc;clear hd hx hf hrd hg hm hk4 hk hc
   by_cases hd0:d<0
   ·have aC:Hd (G=.error (2,j)):=by
     show _=_;have:=kN.o;rw[if_pos hd0]at this;rw[RX.o,<-this];rfl
    go_wp2_with (first|(go_at_call 104;refine C1.o.mono ?_;rintro e w2 ⟨rfl,hg2⟩)|(go_at_call 237;refine(C2.o _).mono ?_;rintro e w' ⟨rfl,rfl⟩)|(go_at_call 156;refine(CH.o j _ (aG HG.o hg2) (dJ.o.grow hg2)).mono ?_;rintro e w5 ⟨⟨v,rfl,hv⟩,hg5⟩));refine bodyPost_ret (results_tmp2 (t:=4) (u:=5) rfl _ _ _) rfl ?_;rw[aC.o];exact⟨fun n j hh=>(by cases hh),fun c p hh=>(by cases hh;exact⟨v,rfl,dV.o _ _ _ hv,_,(dJ.o.grow hg2).grow hg5⟩),aG (aG HG.o hg2) hg5⟩
   ·have hjl:=RY.o (by omega);obtain⟨d,rfl⟩:∃d':Nat,d=(d':Int):=⟨d.toNat,by omega⟩;have iI:Hd (four s.data.toList m (j+1) (16*c+d)=F):=by
     have:=kN.o;rw[if_neg hd0]at this;show _=_;simpa using this
    have hd3:=hd0;go_wp2_with (first|(go_at_call 104;refine C1.o.mono ?_;rintro e w2 ⟨rfl,hg2⟩;obtain⟨-,d1,-,df⟩:=(dJ.o.grow hg2).cells;have df1:=df 1)|(go_at_call 237;refine(C2.o _).mono ?_;rintro e w' ⟨rfl,rfl⟩));rw[aav c d hc4 (by omega)];have jQ:Hd (Rd (w'.setCell ⟨R,1,none⟩ (.int .i64 ((j:Int)+1))) R s (j+1) T):=(dJ.o.grow hg2).set (j+1);refine⟨⟨k+1,16*c+d,j+1,rfl,by simp,by omega,?_,by rw[hm2];exact iI.o,jQ.o,by omega,aS (aG HG.o hg2) 1 _⟩,?_⟩
    ·have:=HC.o;rw[Nat.pow_succ];omega
    ·simp[intOf];omega
def wP(c x1 x2 x3:Int):Nat :=
 if c<0 then 0
 else if c<128 then 1
 else if c<194\/244<c then 0
 else if decide ((if c=224 then 160 else if c=240 then 144 else 128)<=x1/\x1<=(if c=237 then 159 else if c=244 then 143 else 191))=false then 0
 else if c<224 then 2
 else if decide (128<=x2/\x2<=191)=false then 0
 else if c<240 then 3
 else if decide (128<=x3/\x3<=191)=false then 0
 else 4
theorem aax(l:List UInt8)(i:Nat):aJ l i=wP (nx l i) (nx l (i+1)) (nx l (i+2)) (nx l (i+3)):=rfl
theorem aay(b0:Nat)(x1 x2 x3:Int)(h:b0<128):wP (b0:Int) x1 x2 x3=1:=by
 unfold wP;rw[if_neg (by omega),if_pos (by omega)]
theorem aaz(b0:Nat)(x1 x2 x3:Int)(h:128<=b0)(h2:b0<194\/244<b0):wP (b0:Int) x1 x2 x3=0:=by
 unfold wP;rw[if_neg (by omega),if_neg (by omega),if_pos (by omega)]
theorem yI(b0:Nat)(x1 x2 x3:Int)(lo hi:Int)(h:194<=b0/\b0<=244)(hlo:(if(b0:Int)=224 then 160 else if(b0:Int)=240 then 144 else 128)=lo)(hhi:(if(b0:Int)=237 then 159 else if(b0:Int)=244 then 143 else 191)=hi) :
  wP (b0:Int) x1 x2 x3=if lo<=x1/\x1<=hi then(if b0<224 then 2 else if 128<=x2/\x2<=191 then(if b0<240 then 3 else if 128<=x3/\x3<=191 then 4 else 0) else 0) else 0:=by
 unfold wP;rw[if_neg (by omega),if_neg (by omega),if_neg (by omega),hlo,hhi]
 by_cases h1:lo<=x1/\x1<=hi
 ·rw[if_neg (by simp[h1]),if_pos h1]
  by_cases h2:b0<224
  ·rw[if_pos (by omega),if_pos h2]
  ·rw[if_neg (by omega),if_neg h2]
   by_cases h3:128<=x2/\x2<=191
   ·rw[if_neg (by simp[h3]),if_pos h3]
    by_cases h4:b0<240
    ·rw[if_pos (by omega),if_pos h4]
    ·rw[if_neg (by omega),if_neg h4]
     by_cases h5:128<=x3/\x3<=191
     ·rw[if_neg (by simp[h5]),if_pos h5]
     ·rw[if_pos (by simpa using h5),if_neg h5]
   ·rw[if_pos (by simpa using h3),if_neg h3]
 ·rw[if_pos (by simpa using h1),if_neg h1]
def Told(S:Nat)(q:Nat × Nat):Prop:=(S=0->q=(65533,1))/\(0<S->q.2=S/\¬(q.1=65533/\q.2=1))
theorem aaA(n b0 b1 b2 b3 sz lo hi:Nat)(hsz:sz=2\/sz=3\/sz=4)(h:n<sz\/(b1<lo\/hi<b1)\/(3<=sz/\(b2<128\/191<b2))\/(4<=sz/\(b3<128\/191<b3))):Lib.slowN n b0 b1 b2 b3 sz lo hi=(65533,1):=by
 unfold Lib.slowN
 by_cases a1:n<sz
 ·rw[if_pos a1]
 rw[if_neg a1]
 by_cases a2:b1<lo\/hi<b1
 ·rw[if_pos a2]
 rw[if_neg a2,if_neg (show ¬sz<=2 by omega)]
 by_cases a3:b2<128\/191<b2
 ·rw[if_pos a3]
 rw[if_neg a3,if_neg (show ¬sz<=3 by omega),if_pos (by omega)]
theorem aaB(n b0 b1 b2 b3 sz lo hi:Nat)(hsz:sz=2\/sz=3\/sz=4)(h:¬(n<sz\/(b1<lo\/hi<b1)\/(3<=sz/\(b2<128\/191<b2))\/(4<=sz/\(b3<128\/191<b3)))):(Lib.slowN n b0 b1 b2 b3 sz lo hi).2=sz:=by
 unfold Lib.slowN;rw[if_neg (by omega),if_neg (by omega)]
 by_cases a2:sz<=2
 ·rw[if_pos a2];show 2=sz;omega
 rw[if_neg a2,if_neg (by omega)]
 by_cases a3:sz<=3
 ·rw[if_pos a3];show 3=sz;omega
 rw[if_neg a3,if_neg (by omega)];show 4=sz;omega
theorem yJ(n b0 b1 b2 b3 sz lo hi:Nat)(x1 x2 x3:Int)(hsz:(b0<224/\sz=2)\/(224<=b0/\b0<240/\sz=3)\/(240<=b0/\sz=4))(hlo:128<=lo)(hn:1<=n)
  (e1:x1=if 1<n then(b1:Int) else -1) (e2:x2=if 2<n then(b2:Int) else -1) (e3:x3=if 3<n then(b3:Int) else -1) :
  Told (if(lo:Int)<=x1/\x1<=(hi:Int) then(if b0<224 then 2 else if 128<=x2/\x2<=191 then(if b0<240 then 3 else if 128<=x3/\x3<=191 then 4 else 0) else 0) else 0) (Lib.slowN n b0 b1 b2 b3 sz lo hi):=by
 have f1:(1<n/\x1=b1)\/(n<=1/\x1=-1):=by
  by_cases a:1<n
  ·rw[if_pos a]at e1;exact Or.inl ⟨a,e1⟩
  ·rw[if_neg a]at e1;exact Or.inr ⟨by omega,e1⟩
 have f2:(2<n/\x2=b2)\/(n<=2/\x2=-1):=by
  by_cases a:2<n
  ·rw[if_pos a]at e2;exact Or.inl ⟨a,e2⟩
  ·rw[if_neg a]at e2;exact Or.inr ⟨by omega,e2⟩
 have f3:(3<n/\x3=b3)\/(n<=3/\x3=-1):=by
  by_cases a:3<n
  ·rw[if_pos a]at e3;exact Or.inl ⟨a,e3⟩
  ·rw[if_neg a]at e3;exact Or.inr ⟨by omega,e3⟩
 clear e1 e2 e3
 by_cases hb:n<sz\/(b1<lo\/hi<b1)\/(3<=sz/\(b2<128\/191<b2))\/(4<=sz/\(b3<128\/191<b3))
 ·rw[aaA n b0 b1 b2 b3 sz lo hi (by omega) hb];refine⟨fun _=>rfl,fun hp=>?_⟩;exfalso
  by_cases a1:(lo:Int)<=x1/\x1<=(hi:Int)
  ·rw[if_pos a1]at hp
   by_cases a2:b0<224
   ·omega
   rw[if_neg a2]at hp
   by_cases a3:128<=x2/\x2<=191
   ·rw[if_pos a3]at hp
    by_cases a4:b0<240
    ·omega
    rw[if_neg a4]at hp
    by_cases a5:128<=x3/\x3<=191
    ·omega
    ·rw[if_neg a5]at hp;omega
   ·rw[if_neg a3]at hp;omega
  ·rw[if_neg a1]at hp;omega
 ·have hg:=aaB n b0 b1 b2 b3 sz lo hi (by omega) hb;have hS:(if(lo:Int)<=x1/\x1<=(hi:Int) then(if b0<224 then 2 else if 128<=x2/\x2<=191 then(if b0<240 then 3 else if 128<=x3/\x3<=191 then 4 else 0) else 0) else 0)=sz:=by
   rw[if_pos (by omega)]
   by_cases a2:b0<224
   ·rw[if_pos a2];omega
   rw[if_neg a2,if_pos (by omega)]
   by_cases a4:b0<240
   ·rw[if_pos a4];omega
   rw[if_neg a4,if_pos (by omega)];omega
  rw[hS];exact⟨fun hz=>absurd hz (by omega),fun _=>⟨hg,fun hh=>by omega⟩⟩
theorem aaC(b0:Nat)(h:128<=b0)(h2:b0<194\/244<b0):Lib.firstT b0=241:=by
 unfold Lib.firstT;rw[if_neg (by omega)]
 by_cases a:b0<194
 ·rw[if_pos a]
 ·rw[if_neg a,if_neg (by omega),if_neg (by omega),if_neg (by omega),if_neg (by omega),if_neg (by omega),if_neg (by omega),if_neg (by omega),if_neg (by omega)]
theorem aaD(n b0 b1 b2 b3:Nat)(x1 x2 x3:Int)(hn:1<=n)(h0:b0<256)(h1:b1<256)(h2:b2<256)(h3:b3<256)
  (e1:x1=if 1<n then(b1:Int) else -1) (e2:x2=if 2<n then(b2:Int) else -1) (e3:x3=if 3<n then(b3:Int) else -1) :
  Told (wP (b0:Int) x1 x2 x3) (Lib.decodeN n b0 b1 b2 b3):=by
 by_cases ha:b0<128
 ·rw[aay b0 x1 x2 x3 ha,Lib.ascii_eq n b0 b1 b2 b3 (by unfold Lib.firstT;rw[if_pos ha])];exact⟨fun h=>(by cases h),fun _=>⟨rfl,fun hh=>by simp at hh;omega⟩⟩
 by_cases hb:b0<194\/244<b0
 ·rw[aaz b0 x1 x2 x3 (by omega) hb,Lib.bad_eq n b0 b1 b2 b3 h0 (aaC b0 (by omega) hb)];exact⟨fun _=>rfl,fun h=>absurd h (by decide)⟩
 have hr:194<=b0/\b0<=244:=by omega
 by_cases c1:b0<224
 ·rw[<-Lib.slow_C2 n b0 b1 b2 b3 hn h1 h2 h3 (by omega),yI b0 x1 x2 x3 128 191 hr (by rw[if_neg (by omega),if_neg (by omega)]) (by rw[if_neg (by omega),if_neg (by omega)])];exact yJ n b0 b1 b2 b3 2 128 191 x1 x2 x3 (by omega) (by omega) hn e1 e2 e3
 by_cases c2:b0=224
 ·rw[<-Lib.slow_E0 n b0 b1 b2 b3 hn h1 h2 h3 c2,yI b0 x1 x2 x3 160 191 hr (by rw[if_pos (by omega)]) (by rw[if_neg (by omega),if_neg (by omega)])];exact yJ n b0 b1 b2 b3 3 160 191 x1 x2 x3 (by omega) (by omega) hn e1 e2 e3
 by_cases c3:b0=237
 ·rw[<-Lib.slow_ED n b0 b1 b2 b3 hn h1 h2 h3 c3,yI b0 x1 x2 x3 128 159 hr (by rw[if_neg (by omega),if_neg (by omega)]) (by rw[if_pos (by omega)])];exact yJ n b0 b1 b2 b3 3 128 159 x1 x2 x3 (by omega) (by omega) hn e1 e2 e3
 by_cases c4:b0<240
 ·rw[<-Lib.slow_E1 n b0 b1 b2 b3 hn h1 h2 h3 (by omega),yI b0 x1 x2 x3 128 191 hr (by rw[if_neg (by omega),if_neg (by omega)]) (by rw[if_neg (by omega),if_neg (by omega)])];exact yJ n b0 b1 b2 b3 3 128 191 x1 x2 x3 (by omega) (by omega) hn e1 e2 e3
 by_cases c5:b0=240
 ·rw[<-Lib.slow_F0 n b0 b1 b2 b3 hn h1 h2 h3 c5,yI b0 x1 x2 x3 144 191 hr (by rw[if_neg (by omega),if_pos (by omega)]) (by rw[if_neg (by omega),if_neg (by omega)])];exact yJ n b0 b1 b2 b3 4 144 191 x1 x2 x3 (by omega) (by omega) hn e1 e2 e3
 by_cases c6:b0=244
 ·rw[<-Lib.slow_F4 n b0 b1 b2 b3 hn h1 h2 h3 c6,yI b0 x1 x2 x3 128 143 hr (by rw[if_neg (by omega),if_neg (by omega)]) (by rw[if_neg (by omega),if_pos (by omega)])];exact yJ n b0 b1 b2 b3 4 128 143 x1 x2 x3 (by omega) (by omega) hn e1 e2 e3
 ·rw[<-Lib.slow_F1 n b0 b1 b2 b3 hn h1 h2 h3 (by omega),yI b0 x1 x2 x3 128 191 hr (by rw[if_neg (by omega),if_neg (by omega)]) (by rw[if_neg (by omega),if_neg (by omega)])];exact yJ n b0 b1 b2 b3 4 128 191 x1 x2 x3 (by omega) (by omega) hn e1 e2 e3
open Go.RowKit Go.Joins
def mr(x:Int):Option Nat:=if x=98 then some 8 else if x=116 then some 9 else if x=110 then some 10 else if x=102 then some 12 else if x=114 then some 13 else if x=34 then some 34 else if x=92 then some 92 else none
def nY(l:List UInt8)(i:Nat):Rs (Nat × Nat) :=
 if nx l (i+1)=117 then wO l (i+2) i
 else match mr (nx l (i+1)) with
  | some n=>.ok (n,i+2)
  | none=>.error (2,i+1)
def RZ:Rs (Nat × Nat)->Rs (List UInt8 × Nat)
 | .error e=>.error e
 | .ok (n,j)=>.ok (iE n,j)
theorem KZ(l:List UInt8)(i:Nat):esc l i=RZ (nY l i):=by
 unfold esc nY
 by_cases h:nx l (i+1)=117
 ·rw[if_pos h,if_pos h];unfold wO KQ qY Ci
  cases four l 4 (i+2) 0 with
  | error e=>rfl
  | ok q =>
   obtain⟨n,j⟩:=q;simp only[decide_eq_true_eq]
   by_cases h2:55296<=n/\n<=57343
   ·rw[if_pos h2,if_pos (by omega)];rfl
   ·rw[if_neg h2,if_neg (by omega)];rfl
 ·rw[if_neg h,if_neg h];unfold mr
  repeat' split
  all_goals first|rfl|(simp_all;done)|(simp_all;subst_vars;rfl)
theorem aaE{a b:Int}{v:Value}(h:a=b):Ending.returned (.tuple #[.int .i32 a,v])=.returned (.tuple #[.int .i32 b,v]):=by rw[h]
theorem aaF(b:UInt8)(h:mr (b.toNat:Int)=none):Lib.indexByte [98,116,110,102,114,34,92] b=-1:=by
 have key:∀n:Fin 256,mr ((UInt8.ofNat n.val).toNat:Int)=none->Lib.indexByte [98,116,110,102,114,34,92] (UInt8.ofNat n.val)=-1:=by decide
 have:=key ⟨b.toNat,b.toNat_lt⟩;simp only[UInt8.ofNat_toNat]at this;exact this h
theorem aaG(b:UInt8)(n:Nat)(h:mr (b.toNat:Int)=some n):(Lib.indexByte [98,116,110,102,114,34,92] b=0/\n=8)\/(Lib.indexByte [98,116,110,102,114,34,92] b=1/\n=9)\/(Lib.indexByte [98,116,110,102,114,34,92] b=2/\n=10)\/(Lib.indexByte [98,116,110,102,114,34,92] b=3/\n=12)\/(Lib.indexByte [98,116,110,102,114,34,92] b=4/\n=13)\/(Lib.indexByte [98,116,110,102,114,34,92] b=5/\n=34)\/(Lib.indexByte [98,116,110,102,114,34,92] b=6/\n=92):=by
 have e:∀k:Nat,(b.toNat:Int)=(k:Int)->b=UInt8.ofNat k:=fun k hk=>by
  have:b.toNat=k:=by omega
  rw[<-this];simp
 unfold mr at h;split at h
 ·rename_i hb;rw[e 98 hb];cases h;exact Or.inl ⟨by decide,rfl⟩
 split at h
 ·rename_i hb;rw[e 116 hb];cases h;exact Or.inr (Or.inl ⟨by decide,rfl⟩)
 split at h
 ·rename_i hb;rw[e 110 hb];cases h;exact Or.inr (Or.inr (Or.inl ⟨by decide,rfl⟩))
 split at h
 ·rename_i hb;rw[e 102 hb];cases h;exact Or.inr (Or.inr (Or.inr (Or.inl ⟨by decide,rfl⟩)))
 split at h
 ·rename_i hb;rw[e 114 hb];cases h;exact Or.inr (Or.inr (Or.inr (Or.inr (Or.inl ⟨by decide,rfl⟩))))
 split at h
 ·rename_i hb;rw[e 34 hb];cases h;exact Or.inr (Or.inr (Or.inr (Or.inr (Or.inr (Or.inl ⟨by decide,rfl⟩)))))
 split at h
 ·rename_i hb;rw[e 92 hb];cases h;exact Or.inr (Or.inr (Or.inr (Or.inr (Or.inr (Or.inr ⟨by decide,rfl⟩)))))
 ·cases h
theorem aaH(R:Nat)(s:ByteArray)(i T:Nat)(E:Int->TypeId × Value)(w:World)(h:Rd w R s i T)(hi:i<s.size)(hs:s.size<=1048576)(he:Es w E)(hR:Far R) :
  Calls prog 214 #[.pointer (some ⟨R,0,none⟩)] w (KU R s T E (nY s.data.toList i) w):=by
 have CN:=ae (fun k w (h1:Rd w R s k T) (h2:k<=s.size)=>mX R s k T w h1 h2 hs);have CI:Hd (∀c w,Calls prog 229 #[.string ⟨#[98,116,110,102,114,34,92]⟩,.int .u8 c] w fun e w'=>e=.returned (.int .i64 (Lib.indexByte [98,116,110,102,114,34,92] c.toNat.toUInt8))/\w'=w):=fun c w=>Any.strings_IndexByte Tryz.lays137 ⟨#[98,116,110,102,114,34,92]⟩ c w
 have CU:=ae (fun k w' (hg:w.grownBy w' (some R)) (hr:Rd w' R s k T) (hk:k<=s.size)=>aaw R s k T i E w' hr hk hs (he.grow hR hg) hR);have CH:Hd (∀k w',w.grownBy w' (some R)->Rd w' R s k T->Calls prog 156 #[.pointer (some ⟨R,0,none⟩)] w' fun e w''=>(∃v,e=.returned v/\dF w'' v E 2 k)/\w'.grownBy w'' none):=fun k w' hg hr=>wM R s k T (E 2).1 (E 2).2 w' hr (he.grow hR hg).te
 have hl:s.data.toList.length=s.size:=by simp
 obtain⟨G,hG⟩:=zN (nY s.data.toList i);have jl:Hd ((if nx s.data.toList (i+1)=117 then wO s.data.toList (i+2) i else match mr (nx s.data.toList (i+1)) with|some n=>.ok (n,i+2)|none=>.error (2,i+1))=G):=hG;rw[hG];have H0:=ae h;have HS:Hd (Rd (w.setCell ⟨R,1,none⟩ (.int .i64 ((i:Int)+1))) R s (i+1) T):=h.set (i+1);have fD:Hd (w.grownBy (w.setCell ⟨R,1,none⟩ (.int .i64 ((i:Int)+1))) (some R)):=aS (au w (some R)) 1 _;have bP:Hd (∀k,k<=s.size->¬nx s.data.toList k=-1->k<s.size):=fun k hk hn=>by
  apply Classical.byContradiction;intro hh;exact hn (jJ _ _ (by omega))
 have HAT:Hd (∀k (hk:k<s.size),nx s.data.toList k=(s[k].toNat:Int)):=fun k hk=>by
  rw[pX _ _ (by omega)];rfl
 have qX:Hd (mr (-1)=none):=by show _=_;decide
 obtain⟨-,c1,-,df⟩:=h.cells;have df1:=df 1;clear h hG he df;go_enter func214,ntmps214;obtain⟨m,hm⟩:=zN (i+1);have hm2:i+2=m+1:=by omega
 rw[hm]at HS;rw[hm2,hm]at jl;have hml:m<=s.size:=by omega
 have C1:=ae (fun w (h1:Rd w R s m T)=>CN.o m w h1 hml);have uS:=bP.o m hml;have HA1:=ae (HAT.o m);obtain⟨x,hx⟩:=zN (nx s.data.toList m);rw[hx]at C1 uS jl HA1;have HL2:=ae uS;clear hx uS hm hm2;go_wp2_with (go_at_call 104;refine(C1.o _ HS.o).mono ?_);rintro e w2 ⟨rfl,hg2⟩;have HR2:=ae (HS.o.grow hg2);have HG2:=ae (aG fD.o hg2);clear hg2
 by_cases h117:x=117
 ·have hb:(x == 117)=true:=by simp[h117]
  have Si:=HL2.o (by rw[h117];decide);have aC:Hd (wO s.data.toList (m+1) i=G):=by
   have:=jl.o;rw[if_pos h117]at this;exact this
  obtain⟨-,d1,-,df⟩:=HR2.o.cells;have df2:=df 1;have jQ:Hd (Rd (w2.setCell ⟨R,1,none⟩ (.int .i64 ((m:Int)+1))) R s (m+1) T):=HR2.o.set (m+1);have aK:Hd (w.grownBy (w2.setCell ⟨R,1,none⟩ (.int .i64 ((m:Int)+1))) (some R)):=aS HG2.o 1 _;have Sj:Hd (Calls prog 228 #[.pointer (some ⟨R,0,none⟩),.int .i64 (i:Nat)] (w2.setCell ⟨R,1,none⟩ (.int .i64 ((m:Int)+1))) (KU R s T E G (w2.setCell ⟨R,1,none⟩ (.int .i64 ((m:Int)+1))))):=by
   rw[<-aC.o];exact CU.o (m+1) _ aK.o jQ.o (by omega)
  clear h117 df
  cases G with
  | ok q =>
   obtain⟨n,j⟩:=q;go_wp2_with (go_at_call 228;refine Sj.o.mono ?_;rintro e w4 ⟨h1,h2,h3⟩;obtain⟨rfl,hr4⟩:=h1 n j rfl);refine bodyPost_ret (results_tmp2 (t:=2) (u:=3) rfl _ _ _) rfl ?_;exact⟨fun n j hh=>(by cases hh;exact⟨rfl,hr4⟩),fun c p hh=>(by cases hh),dK aK.o h3⟩
  | error q =>
   obtain⟨c,q⟩:=q;go_wp2_with (go_at_call 228;refine Sj.o.mono ?_;rintro e w4 ⟨h1,h2,h3⟩;obtain⟨v,rfl,hv,jj,hjj⟩:=h2 c q rfl);refine bodyPost_ret (results_tmp2 (t:=2) (u:=3) rfl _ _ _) rfl ?_;exact⟨fun n j hh=>(by cases hh),fun c p hh=>(by cases hh;exact⟨v,rfl,hv,jj,hjj⟩),dK aK.o h3⟩
 ·have hb:(x == 117)=false:=by simp[h117]
  by_cases he1:x=-1
  ·have hb2:(x == -1)=true:=by simp[he1]
   have aC:Hd (G=.error (2,m)):=by
    have:=jl.o;rw[if_neg h117,he1,qX.o]at this;exact this.symm
   clear h117 he1;go_wp2_with (first|(go_at_call 104;refine(C1.o _ HR2.o).mono ?_;rintro e w3 ⟨rfl,hg3⟩)|(go_at_call 156;refine(CH.o m _ (aG HG2.o hg3) (HR2.o.grow hg3)).mono ?_;rintro e w5 ⟨⟨v,rfl,hv⟩,hg5⟩));refine bodyPost_ret (results_tmp2 (t:=2) (u:=3) rfl _ _ _) rfl ?_;rw[aC.o];exact⟨fun n j hh=>(by cases hh),fun c p hh=>(by cases hh;exact⟨v,rfl,hv,_,(HR2.o.grow hg3).grow hg5⟩),aG (aG HG2.o hg3) hg5⟩
  ·have hb2:(x == -1)=false:=by simp[he1]
   have Si:=HL2.o he1;obtain⟨b,hbm⟩:=zN (s[m]);have hxm:x=(b.toNat:Int):=by rw[<-hbm];exact HA1.o Si
   have aC:Hd ((match mr x with|some n=>.ok (n,m+1)|none=>.error (2,m))=G):=by
    have:=jl.o;rw[if_neg h117]at this;exact this
   have jL:Hd (∀w,Calls prog 229 #[.string ⟨#[98,116,110,102,114,34,92]⟩,.int .u8 (b.toNat:Int)] w fun e w'=>e=.returned (.int .i64 (Lib.indexByte [98,116,110,102,114,34,92] b))/\w'=w):=fun w=>by
    have:=CI.o (b.toNat:Int) w;simpa using this
   have qW:Hd (mr x=none->Lib.indexByte [98,116,110,102,114,34,92] b=-1):=by rw[hxm];exact aaF b
   have GL:Hd (∀n,mr x=some n->(Lib.indexByte [98,116,110,102,114,34,92] b=0/\n=8)\/(Lib.indexByte [98,116,110,102,114,34,92] b=1/\n=9)\/(Lib.indexByte [98,116,110,102,114,34,92] b=2/\n=10)\/(Lib.indexByte [98,116,110,102,114,34,92] b=3/\n=12)\/(Lib.indexByte [98,116,110,102,114,34,92] b=4/\n=13)\/(Lib.indexByte [98,116,110,102,114,34,92] b=5/\n=34)\/(Lib.indexByte [98,116,110,102,114,34,92] b=6/\n=92)):=by rw[hxm];exact aaG b
   obtain⟨K,hK⟩:=zN (Lib.indexByte [98,116,110,102,114,34,92] b);rw[hK]at jL qW GL;clear h117 he1 hxm hK;go_wp2_with (go_at_call 104;refine(C1.o _ HR2.o).mono ?_);rintro e w3 ⟨rfl,hg3⟩;have HR3:=ae (HR2.o.grow hg3);have aK:=ae (aG HG2.o hg3);obtain⟨d0,d1,-,df⟩:=HR3.o.cells;have df2:=df 1;clear hg3 df;have uO:Hd (∀n,Rd ((w3.drewN n).setCell ⟨R,1,none⟩ (.int .i64 ((m:Int)+1))) R s (m+1) T):=fun n=>Rd.set (w:=w3.drewN n) (i:=m) HR3.o (m+1)
   have eX:Hd (∀n,w.grownBy ((w3.drewN n).setCell ⟨R,1,none⟩ (.int .i64 ((m:Int)+1))) (some R)):=fun n=>aS (ay aK.o n) 1 _
   cases hc:mr x with
   | none =>
    have hKn:=qW.o hc;rw[hc]at aC;subst hKn;clear hc;have wQ:=ae (fun n=>CH.o m _ (ay aK.o n) HR3.o);go_wp2;go_quiet (first|(go_at_call 229;exact Calls.quiet_of_same (jL.o _)));go_wp2_with (go_at_call 156;refine(wQ.o _).mono ?_;rintro e w5 ⟨⟨v,rfl,hv⟩,hg5⟩);refine bodyPost_ret (results_tmp2 (t:=2) (u:=3) rfl _ _ _) rfl ?_;rw[<-aC.o];exact⟨fun n j hh=>(by cases hh),fun c p hh=>(by cases hh;exact⟨v,rfl,hv,_,Rd.grow (w:=World.drewN w3 _) HR3.o hg5⟩),aG (ay aK.o _) hg5⟩
   | some n =>
    have hKy:=GL.o n hc;rw[hc]at aC;clear hc
    rcases hKy with⟨rfl,rfl⟩|⟨rfl,rfl⟩|⟨rfl,rfl⟩|⟨rfl,rfl⟩|⟨rfl,rfl⟩|⟨rfl,rfl⟩|⟨rfl,rfl⟩
    all_goals (
     go_wp2;go_quiet (first|(go_at_call 229;exact Calls.quiet_of_same (jL.o _)));go_wp2;refine bodyPost_ret (results_tmp2 (t:=2) (u:=3) rfl _ _ _) rfl ?_;rw[<-aC.o];exact⟨fun n j hh=>(by cases hh;exact⟨aaE (by first|(unfold wrap32;decide)|(unfold wrap32;rfl)|(unfold wrap32;simp[ByteArray.getElem_eq_getElem_data];done)),uO.o _⟩),fun c p hh=>(by cases hh),eX.o _⟩)
end Go.Proofs.YtnnbgjaphfhibaaGreatDoor
