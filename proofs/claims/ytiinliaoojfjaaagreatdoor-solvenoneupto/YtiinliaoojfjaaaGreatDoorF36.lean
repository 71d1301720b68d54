import Derived.Test.YtiinliaoojfjaaaGreatDoorF29
import Derived.Laws.AppendOwnNone
set_option linter.all false
set_option maxRecDepth 100000
set_option maxHeartbeats 0
open Go.Proofs.Tryz
namespace Go.Proofs.YtiinliaoojfjaaaGreatDoor
open Go.RowKit
theorem Wp{l:List UInt8}{f i:Nat}{acc:List Te}(h:l.length<=i\/l[i]?=some 124):aW l (f+1) i acc=(0,i,acc):=by unfold aW;rw[if_pos h]
theorem afR{l:List UInt8}{f i:Nat}{acc:List Te}(h:¬(l.length<=i\/l[i]?=some 124))(hr:¬(au l (az l i).2).1=0):aW l (f+1) i acc=((au l (az l i).2).1,(au l (az l i).2).2.1,acc):=by
 unfold aW;rw[if_neg h,if_neg hr]
theorem afS{l:List UInt8}{f i:Nat}{acc:List Te}(h:¬(l.length<=i\/l[i]?=some 124))(hr:(au l (az l i).2).1=0)
  (hb:((az l i).1<0/\acc=[])/\(au l (az l i).2).2.1<aj l (au l (az l i).2).2.1/\l[aj l (au l (az l i).2).2.1]?=some 45) :
  (aW l (f+1) i acc).1=Cf l (aj l (au l (az l i).2).2.1+1)/\(aW l (f+1) i acc).2.1=Ci l (aj l (au l (az l i).2).2.1+1)/\((aW l (f+1) i acc).1=0->(aW l (f+1) i acc).2.2=[⟨7,(au l (az l i).2).2.2⟩,⟨2,(au l (aj l (aj l (au l (az l i).2).2.1+1))).2.2⟩]/\(au l (aj l (aj l (au l (az l i).2).2.1+1))).1=0):=by
 unfold aW Cf Ci;rw[if_neg h,if_pos hr,if_pos hb]
 by_cases hm:aj l (aj l (au l (az l i).2).2.1+1)=aj l (au l (az l i).2).2.1+1
 ·rw[if_pos hm,if_pos hm,if_pos hm];exact⟨rfl,rfl,fun h=>by cases h⟩
 ·rw[if_neg hm,if_neg hm,if_neg hm]
  by_cases hq:(au l (aj l (aj l (au l (az l i).2).2.1+1))).1=0
  ·rw[if_pos hq];exact⟨hq.symm,rfl,fun _=>⟨rfl,hq⟩⟩
  ·rw[if_neg hq];exact⟨rfl,rfl,fun h=>absurd h hq⟩
theorem afT{l:List UInt8}{f i:Nat}{acc:List Te}(h:¬(l.length<=i\/l[i]?=some 124))(hr:(au l (az l i).2).1=0)(hg:¬(au l (az l i).2).2.1<aj l (au l (az l i).2).2.1) :
  aW l (f+1) i acc=(0,aj l (au l (az l i).2).2.1,acc++[⟨gI (az l i).1,(au l (az l i).2).2.2⟩]):=by
 unfold aW;rw[if_neg h,if_pos hr,if_neg (fun hb=>hg hb.2.1),if_pos hg]
theorem afU{l:List UInt8}{f i:Nat}{acc:List Te}(h:¬(l.length<=i\/l[i]?=some 124))(hr:(au l (az l i).2).1=0)(hg:(au l (az l i).2).2.1<aj l (au l (az l i).2).2.1)
  (hb:¬(((az l i).1<0/\acc=[])/\l[aj l (au l (az l i).2).2.1]?=some 45)) :
  aW l (f+1) i acc=aW l f (aj l (au l (az l i).2).2.1) (acc++[⟨gI (az l i).1,(au l (az l i).2).2.2⟩]):=by
 rw[aW,if_neg h,if_pos hr,if_neg (fun hb'=>hb ⟨hb'.1,hb'.2.2⟩),if_neg (not_not_intro hg)]
theorem NZ{A:Nat}{w W:World}(h:w.grownBy W none)(hA:w.heap.size<=A)(T F:Value)(y1 y2 y3:Int)(x4:ByteArray)(n:Int):w.grownBy (Cc W A T F y1 y2 y3 x4 n) none:=jR (jR (jR (jR (jR (jR (jR (jR h hA _ _) hA _ _) hA _ _) hA _ _) hA _ _) hA _ _) hA _ _) hA _ _
theorem afV(sg:Int)(hs:-1<=sg/\sg<=6):∀(args:Array Value) (w:World),(callFunc (zA sg) args).run prog w=.ok (.enter (zA sg) args) w:=by
 intro args w;have hss:sg=-1\/sg=0\/sg=1\/sg=2\/sg=3\/sg=4\/sg=5\/sg=6:=by omega
 rcases hss with rfl|rfl|rfl|rfl|rfl|rfl|rfl|rfl
 ·exact Tryz.call211 args w
 ·exact Tryz.call211 args w
 ·exact Tryz.call207 args w
 ·exact Tryz.call208 args w
 ·exact Tryz.call209 args w
 ·exact Tryz.call210 args w
 ·exact Tryz.call212 args w
 ·exact Tryz.call215 args w
def N7(b:Nat)(s:ByteArray)(R:Int × Nat × List Te)(w:World)(e:Ending)(w':World):Prop :=
 ∃(o:Option Addr) (n c:Nat),e=.returned (.tuple #[.slice o n c,.int .i64 R.1])/\RS b s R.2.1 w'/\w.grownBy w' (some b)/\(R.1=0->∃L,OS w' w.heap.size (.slice o n c) L/\LOk L 300/\Has L (lW R.2.2))
theorem afW:Has [kH ⟨ku,uu,true⟩] (lW []):=by
 intro v hv;rw[holds_one,show lW [] v=true from rfl,uw];exact⟨Ik v hv,Or.inl rfl⟩
theorem afX:LOk [kH ⟨ku,uu,true⟩] 1:=LOk.one (g:=⟨ku,uu,true⟩) (n:=1) ⟨U4 1 (Nat.le_refl _),fun h=>(by cases h),Nat.zero_le _⟩ (by decide)
theorem afY{L M:List Sp}{acc:List Te}{sg:Int}{p:Pa}(h:Has L (lW acc))(hs:-1<=sg/\sg<=6)(hp:eQ p)(hM:∀x,eU M x=(eU L x && eU [kH (zq (gI sg) p)] x)):Has M (lW (acc++[⟨gI sg,p⟩])):=by
 intro v hv;rw[hM,h v hv,holds_one,Uk (gI sg) (by unfold gI;split<;>omega) p hp v hv,adT]
theorem afZ{p q:Pa}(hp:eQ p)(hq:eQ q):Has [kH (xW p q)] (lW [⟨7,p⟩,⟨2,q⟩]):=by
 intro v hv;rw[holds_one,adh p q hp hq v hv];show _=([⟨7,p⟩,⟨2,q⟩]:List Te).all _;simp
theorem set_any(b:Nat)(s:ByteArray)(i:Nat)(w:World)(hi:i<=s.size)(h:RS b s i w)(hs:s.size<=200) :
  Calls prog 146 #[.pointer (some ⟨b,0,none⟩)] w (N7 b s (aW s.data.toList (s.data.toList.length+1) (aj s.data.toList i) []) w):=by
 obtain⟨l,hl⟩:=zN (s.data.toList);have hll:l.length=s.size:=by rw[<-hl];simp
 have bM:Hd (l.length=s.size/\s.size<=200):=⟨hll,hs⟩;have CL:=ae AP;have CB:Hd (∀i w,i<=s.size->RS b s i w->Calls prog 147 #[.pointer (some ⟨b,0,none⟩)] w fun e w'=>e=.returned (.bool (decide (i<aj l i)))/\RS b s (aj l i) w'/\w.grownBy w' (some b)):=fun i w hi h=>by rw[<-hl];exact MO b s i w hi h (by omega)
 have CE:=ae (Hf b s);have CX:Hd (∀i w,i<=s.size->RS b s i w->Calls prog 169 #[.pointer (some ⟨b,0,none⟩),.string ⟨#[124]⟩] w fun e w'=>e=.returned (.bool (decide (l[i]?=some 124)))/\∃n,w'=w.drewN n):=fun i w hi h=>by
  have:=next_any b s ⟨#[124]⟩ i w hi h;rw[show(ByteArray.mk #[124]).data.toList=[124] from rfl,qO,hl]at this;exact this
 have CT:Hd (∀i w,i<=s.size->RS b s i w->Calls prog 170 #[.pointer (some ⟨b,0,none⟩)] w (VD b s (az l i).1 (au l (az l i).2) w)):=fun i w hi h=>by rw[<-hl];exact ae1 b s i w hi h (by omega)
 have TY:=ae (fun i w (hc:l[i]?=some 45) (h:RS b s i w)=>ug b s i 45 w (by rw[hl];exact hc) h (by omega));have TN:Hd (∀i w,i<=s.size->¬l[i]?=some 45->RS b s i w->Calls prog 148 #[.pointer (some ⟨b,0,none⟩),.string ⟨#[45]⟩] w fun e w'=>e=.returned (.bool false)/\RS b s i w'/\w.grownBy w' (some b)):=fun i w hi hc h=>pX b s i 45 w hi (by rw[hl];exact hc) h (by omega)
 have CBT:Hd (∀(i:Nat) (p:Pa) (y1 y2 y3:Int) (Q:ByteArray) (m:Int) (w:World),yj y1 y2 y3 Q m=kW p->i<=s.size->RS b s i w->Calls prog 171 #[.pointer (some ⟨b,0,none⟩),.agg #[.int .i64 y1,.int .i64 y2,.int .i64 y3,.string Q,.string ⟨#[]⟩,.int .i64 m]] w (NG b s (Cf l i) (Ci l i) (xW p (au l (aj l i)).2.2) w)):=fun i p y1 y2 y3 Q m w hp hi h=>by rw[<-hl];exact ae8 b s i p y1 y2 y3 Q m hp w hi h hs
 have jy:Hd (∀i,i<=s.size->i<=aj l i/\aj l i<=s.size):=fun i hi=>⟨sG l i,by have:=qV l i (by rw[hll];exact hi);rw[hll]at this;exact this⟩
 have Di:Hd (∀i,i<=s.size->(au l (az l i).2).1=0->i<(au l (az l i).2).2.1/\(au l (az l i).2).2.1<=s.size/\eQ (au l (az l i).2).2.2):=fun i hi h0=>by
  have sp:=Fh l i (by rw[hll];exact hi);have pp:=Fg l _ sp.2 h0;exact⟨by omega,by rw[<-hll];exact pp.2,IA l _ sp.2 h0⟩
 have iT:Hd (∀i,(au l i).2.2.pre.length<=200):=fun i=>by have:=MQ l i;omega
 have HI:=ae h;have mV:=ae hi;have uD:Hd (b<w.heap.size):=by obtain⟨t,h⟩:=h;exact(aC h)
 rw[hl];obtain⟨E0,J0,ts0,hR⟩:∃E0 J0 ts0,aW l (l.length+1) (aj l i) []=(E0,J0,ts0):=⟨_,_,_,rfl⟩;have HR0:=ae hR;rw[hR];obtain⟨B,hB⟩:=zN (w.heap.size);have HB:Hd (w.heap.size=B/\b<B):=⟨hB,by rw[<-hB];exact uD.o⟩;clear hl hll hR h hs hi hB;go_enter func146,ntmps146;go_wp2_with (go_at_call 168;refine(CL.o _).mono ?_);rintro e w1 ⟨rfl,hg⟩;have HG:=ae hg;clear hg;go_wp2_with (go_at_call 147;refine(CB.o i _ mV.o ((HI.o.grow HG.o).grow (ak (ai w1 none) _))).mono ?_);rintro e w2 ⟨rfl,hr,hg⟩;have bZ:Hd (OS w2 B (.slice (some ⟨w1.heap.size,0,none⟩) 1 1) [kH ⟨ku,uu,true⟩]):=by
  refine OS.growb (b:=b) (w:=w1.alloc (.cells #[.int .i64 0,.int .i64 0,.int .i64 0,.string ⟨#[48]⟩,.string ⟨#[]⟩,.int .i64 0,.int .i64 0,.int .i64 0,.string ⟨#[]⟩,.string ⟨#[]⟩,.bool true] 203)) ?_ hg HB.o.2;exact OS.one (s:=kH ⟨ku,uu,true⟩) (by rw[<-HB.o.1];exact HG.o.size) (heap_alloc_new w1 _)
 have HG2:=ae (ag (dA (ag HG.o (ak (ai w1 none) _)) _) hg);have HR2:=ae hr;obtain⟨a0,ha0⟩:=zN (w1.heap.size);rw[ha0]at bZ
 try rw[ha0]
 clear hr hg ha0 HG;go_wp2;go_loopw [4,5] (fun va vf wr=>∃(f j:Nat) (acc:List Te) (L:List Sp),vf=.bool acc.isEmpty/\j<=s.size/\l.length<f+j/\acc.length<=j/\aW l f j acc=(E0,J0,ts0)/\RS b s j wr/\OS wr B va L/\LOk L (acc.length+1)/\Has L (lW acc)/\w.grownBy wr (some b)) (fun _ _ wr=>s.size-placeOf b wr)
 case atStart=>exact⟨l.length+1,aj l i,[],_,rfl,(jy.o i mV.o).2,by omega,Nat.zero_le _,HR0.o,HR2.o,bZ.o,afX,afW,HG2.o⟩
 case round =>
  obtain⟨f,j,acc,L,rfl,hj,hf,ha,hps,hrs,hos,FN,hhas,hg⟩:=hrel;clear bZ HR2 HG2 HR0;obtain⟨o,n0,c0,rfl⟩:=hos.slice;obtain⟨f,rfl⟩:∃f',f=f'+1:=by
   cases f with
   | zero=>have:=bM.o.1;omega
   | succ f=>exact⟨f,rfl⟩
  have HJ:=ae hj;have HF:=ae hf;have HA:=ae ha;have zH:=ae hps;have aA:=ae hrs;have bZ:=ae hos;have FO:=ae FN;have zI:=ae hhas;have HG:=ae hg;clear hj hf ha hps hrs hos FN hhas hg;have Dj:=ae aA.o.place;have FP:=ae (CE.o j);have IZ:=ae (fun w (h:RS b s j w)=>CX.o j w HJ.o h);have FIN:Hd (∀(W:World),RS b s J0 W->w.grownBy W (some b)->(∃L,OS W B (.slice o n0 c0) L/\LOk L 300/\Has L (lW ts0))->E0=0->N7 b s (E0,J0,ts0) w (.returned (.tuple #[.slice o n0 c0,.int .i64 0])) W):=by
   intro W h1 h2 ⟨L,h3,h4,h5⟩ h6;subst h6;exact⟨o,n0,c0,rfl,h1,h2,fun _=>⟨L,by rw[HB.o.1];exact h3,h4,h5⟩⟩
  by_cases hend:j=s.size
  ·have HST:Hd (l.length<=j\/l[j]?=some 124):=Or.inl (by have:=bM.o.1;omega);rw[decide_eq_true hend]at FP;clear hend;go_wp2_with (go_at_call 132;refine(FP.o _ aA.o).mono ?_);rintro e u1 ⟨rfl,n,hn⟩;replace aA:Hd (RS b s j u1):=by show RS b s j u1;rw[hn];exact aA.o.drew n
   replace bZ:Hd (OS u1 B (.slice o n0 c0) L):=by show OS u1 B _ L;rw[hn];exact bZ.o
   replace HG:Hd (w.grownBy u1 (some b)):=by show w.grownBy u1 (some b);rw[hn];exact aH HG.o n
   clear hn;go_wp2;obtain⟨rfl,rfl,rfl⟩:E0=0/\J0=j/\ts0=acc:=by have:=zH.o.symm.trans (Wp HST.o);simpa using this
   have hfin:=FIN.o _ aA.o HG.o ⟨L,bZ.o,FO.o.mono (by have:=HA.o;have:=HJ.o;have:=bM.o.2;omega),zI.o⟩ rfl;exact bodyPost_ret (results_tmp2 (t:=2) (u:=3) rfl _ _ _) rfl hfin
  ·rw[decide_eq_false hend]at FP;have oM:Hd (¬l.length<=j):=by show ¬_;have:=bM.o.1;have:=HJ.o;omega
   clear hend
   by_cases hbar:l[j]?=some 124
   ·have HST:Hd (l.length<=j\/l[j]?=some 124):=Or.inr hbar;rw[decide_eq_true hbar]at IZ;clear hbar;go_wp2_with (go_at_call 132;refine(FP.o _ aA.o).mono ?_);rintro e u1 ⟨rfl,n,hn⟩;replace aA:Hd (RS b s j u1):=by show RS b s j u1;rw[hn];exact aA.o.drew n
    replace bZ:Hd (OS u1 B (.slice o n0 c0) L):=by show OS u1 B _ L;rw[hn];exact bZ.o
    replace HG:Hd (w.grownBy u1 (some b)):=by show w.grownBy u1 (some b);rw[hn];exact aH HG.o n
    clear hn;go_wp2_with (go_at_call 169;refine(IZ.o _ aA.o).mono ?_);rintro e u2 ⟨rfl,n,hn⟩;replace aA:Hd (RS b s j u2):=by show RS b s j u2;rw[hn];exact aA.o.drew n
    replace bZ:Hd (OS u2 B (.slice o n0 c0) L):=by show OS u2 B _ L;rw[hn];exact bZ.o
    replace HG:Hd (w.grownBy u2 (some b)):=by show w.grownBy u2 (some b);rw[hn];exact aH HG.o n
    clear hn;go_wp2;obtain⟨rfl,rfl,rfl⟩:E0=0/\J0=j/\ts0=acc:=by have:=zH.o.symm.trans (Wp HST.o);simpa using this
    have hfin:=FIN.o _ aA.o HG.o ⟨L,bZ.o,FO.o.mono (by have:=HA.o;have:=HJ.o;have:=bM.o.2;omega),zI.o⟩ rfl;exact bodyPost_ret (results_tmp2 (t:=2) (u:=3) rfl _ _ _) rfl hfin
   ·have HST:Hd (¬(l.length<=j\/l[j]?=some 124)):=fun h=>h.elim oM.o hbar
    rw[decide_eq_false hbar]at IZ;clear hbar oM;have zD:=ae (fun w (h:RS b s j w)=>CT.o j w HJ.o h);have lX:=ae (U0 l j);have wK:=ae (Di.o j HJ.o);have ut:Hd ((au l (az l j).2).2.2.pre.length<=200):=iT.o _;have BAD:Hd (¬(au l (az l j).2).1=0->aW l (f+1) j acc=((au l (az l j).2).1,(au l (az l j).2).2.1,acc)):=fun h=>afR HST.o h
    have LAST:Hd ((au l (az l j).2).1=0->¬(au l (az l j).2).2.1<aj l (au l (az l j).2).2.1->aW l (f+1) j acc=(0,aj l (au l (az l j).2).2.1,acc++[⟨gI (az l j).1,(au l (az l j).2).2.2⟩])):=fun h1 h2=>afT HST.o h1 h2
    have MORE:Hd ((au l (az l j).2).1=0->(au l (az l j).2).2.1<aj l (au l (az l j).2).2.1->¬(((az l j).1<0/\acc=[])/\l[aj l (au l (az l j).2).2.1]?=some 45)->aW l (f+1) j acc=aW l f (aj l (au l (az l j).2).2.1) (acc++[⟨gI (az l j).1,(au l (az l j).2).2.2⟩])):=fun h1 h2 h3=>afU HST.o h1 h2 h3
    have BTW:Hd ((au l (az l j).2).1=0->((az l j).1<0/\acc=[])/\(au l (az l j).2).2.1<aj l (au l (az l j).2).2.1/\l[aj l (au l (az l j).2).2.1]?=some 45->(aW l (f+1) j acc).1=Cf l (aj l (au l (az l j).2).2.1+1)/\(aW l (f+1) j acc).2.1=Ci l (aj l (au l (az l j).2).2.1+1)/\((aW l (f+1) j acc).1=0->(aW l (f+1) j acc).2.2=[⟨7,(au l (az l j).2).2.2⟩,⟨2,(au l (aj l (aj l (au l (az l j).2).2.1+1))).2.2⟩]/\(au l (aj l (aj l (au l (az l j).2).2.1+1))).1=0)):=fun h1 h2=>afS HST.o h1 h2
    obtain⟨sg,j1,hsg⟩:∃sg j1,az l j=(sg,j1):=⟨_,_,rfl⟩;rw[hsg]at zD lX wK ut BAD LAST MORE BTW;simp only[]at zD lX wK ut BAD LAST MORE BTW;obtain⟨E,J,p,hR⟩:∃E J p,au l j1=(E,J,p):=⟨_,_,_,rfl⟩;rw[hR]at zD wK ut BAD LAST MORE BTW;simp only[]at wK ut BAD LAST MORE BTW;rw[zH.o]at BAD LAST MORE BTW;simp only[]at BTW;clear hsg hR HST;go_wp2_with (go_at_call 132;refine(FP.o _ aA.o).mono ?_);rintro e u1 ⟨rfl,n,hn⟩;replace aA:Hd (RS b s j u1):=by show RS b s j u1;rw[hn];exact aA.o.drew n
    replace bZ:Hd (OS u1 B (.slice o n0 c0) L):=by show OS u1 B _ L;rw[hn];exact bZ.o
    replace HG:Hd (w.grownBy u1 (some b)):=by show w.grownBy u1 (some b);rw[hn];exact aH HG.o n
    clear hn;go_wp2_with (go_at_call 169;refine(IZ.o _ aA.o).mono ?_);rintro e u2 ⟨rfl,n,hn⟩;replace aA:Hd (RS b s j u2):=by show RS b s j u2;rw[hn];exact aA.o.drew n
    replace bZ:Hd (OS u2 B (.slice o n0 c0) L):=by show OS u2 B _ L;rw[hn];exact bZ.o
    replace HG:Hd (w.grownBy u2 (some b)):=by show w.grownBy u2 (some b);rw[hn];exact aH HG.o n
    clear hn;go_wp2_with (first|(go_at_call 170;refine(zD.o _ aA.o).mono ?_));rintro e u3 ⟨T,x1,x2,x3,P,n,rfl,hT,hr,hg,hok⟩;replace aA:Hd (RS b s J u3):=hr;have gJ:Hd (E=0->yj x1 x2 x3 P n=kW p):=hok;replace bZ:=ae (bZ.o.growb hg HB.o.2);replace HG:=ae (ag HG.o hg);have HT:=ae hT;obtain⟨F,hF⟩:=zN (zA sg);have uG:=ae hF;rw[hF];obtain⟨D,hD⟩:=zN (u3.heap.size);obtain⟨W0,hW0⟩:=zN (u3.alloc (.cells #[.string ⟨#[]⟩,.nilFunc,.int .i64 0,.int .i64 0,.int .i64 0,.string ⟨#[]⟩,.string ⟨#[]⟩,.int .i64 0] 249));have HD0:Hd (TB D (.string ⟨#[]⟩) .nilFunc 0 0 0 ⟨#[]⟩ 0 W0):=by
     show TB D _ _ 0 0 0 _ 0 W0;unfold TB;rw[<-hW0,<-hD];exact heap_alloc_new u3 _
    have hgW:u3.grownBy W0 none:=by rw[<-hW0];exact ak (ai u3 none) _
    have nz:Hd (B<=D/\b≠D):=by have h1:=HG.o.size;have h2:=HB.o;rw[h2.1,hD]at h1;exact⟨h1,by omega⟩
    have bD:Hd (u3.grownBy W0 none/\u3.heap.size<=D):=⟨hgW,Nat.le_of_eq hD⟩;obtain⟨k0,k1,k2,k3,k4,k5,k6,k7⟩:=HD0.o.cells;have kf:=HD0.o.f;have stf:∀(a:Addr) (m:Mode) (w:World),(store a (.func (.func F) #[] #[]) m).run prog w=stored prog w a (.func (.func F) #[] #[]) m:=fun a m w=>run_store prog w a _ m rfl
    clear hr hg hok hT hF hgW
    cases hz:(E == 0) with
    | false =>
     have hE0:¬E=0:=by simpa using hz
     have HB2:=ae (BAD.o hE0);have jI:=ae hE0;clear hE0;go_wp2;refine bodyPost_ret (results_tmp2 (t:=2) (u:=3) rfl _ _ _) rfl ?_;rw[HB2.o];exact⟨_,_,_,rfl,Nu (aA.o.grow bD.o.1) nz.o.2 _ _ _ _ _ _ _,ag HG.o (dA (NZ bD.o.1 bD.o.2 _ _ _ _ _ _ _) _),fun h=>absurd h jI.o⟩
    | true =>
     have hE0:E=0:=by simpa using hz
     subst hE0;obtain⟨hp1,hp2,hp3⟩:=wK.o rfl;have HP:Hd (j<J/\J<=s.size/\eQ p):=⟨hp1,hp2,hp3⟩;have zJ:=ae (fun w (h:RS b s J w)=>CB.o J w HP.o.2.1 h);have Wq:=ae (gJ.o rfl);have HKK:=ae (jy.o J HP.o.2.1);obtain⟨K,hK⟩:=zN (aj l J);rw[hK]at zJ HKK LAST MORE BTW;have hcs:=ad5 sg lX.o p HP.o.2.2 (by have:=ut.o;omega);rw[uG.o,<-Wq.o]at hcs;obtain⟨s1,hs1⟩:=zN (kH (zq (gI sg) p));have CF:Hd (∀w,Calls prog F #[.agg #[.int .i64 x1,.int .i64 x2,.int .i64 x3,.string P,.string ⟨#[]⟩,.int .i64 n]] w fun e w'=>e=.returned (.agg #[.int .i64 s1.f1,.int .i64 s1.f2,.int .i64 s1.f3,.string s1.f4,.string s1.f5,.int .i64 s1.t1,.int .i64 s1.t2,.int .i64 s1.t3,.string s1.t4,.string s1.t5,.bool s1.o])/\w.grownBy w' none):=fun w=>by rw[<-hs1];exact hcs w
     have hent:∀(args:Array Value) (w:World),(callFunc F args).run prog w=.ok (.enter F args) w:=by rw[<-uG.o];exact afV sg lX.o
     have pF:=ae hs1;have bg:Hd (GOk (zq (gI sg) p) 1000):=adX _ p HP.o.2.2 1000 (by omega) (by have:=ut.o;omega);have N8:Hd (LOk [s1] 1):=by show LOk [s1] 1;rw[<-hs1];exact LOk.one bg.o (by omega)
     have CM:=ae (fun w sl sm (h1:SpS w sl L) (h2:SpS w sm [s1])=>ae7 sl sm L [s1] (acc.length+1) 1 w h1 h2 FO.o N8.o (by have:=HA.o;have:=HJ.o;have:=bM.o.2;omega) (by omega));have Dk:=ae (fun(M:List Sp) (h:(∀x,eU M x=(eU L x && eU [s1] x)))=>afY zI.o lX.o HP.o.2.2 (by rw[pF.o];exact h));clear hp1 hp2 hp3 hK hcs hs1 hz;obtain⟨ap,hap⟩:=zN (decide (J<K));rw[hap]at zJ;have lZ:=ae hap;clear hap;go_wp2_with (first|(go_at_call 147;refine(zJ.o _ (Nu (aA.o.grow bD.o.1) nz.o.2 _ _ _ _ _ _ _)).mono ?_));rintro e u4 ⟨rfl,hr,hg⟩;replace aA:=ae hr;have vS:=ae ((VC (T:=.string T) (F:=.func (.func F) #[] #[]) HD0.o x1 x2 x3 P n).growb hg (Ne.symm nz.o.2));replace bZ:=ae ((bZ.o.grow (NZ bD.o.1 bD.o.2 _ _ _ _ _ _ _)).growb hg HB.o.2);replace HG:=ae (ag (ag HG.o (dA (NZ bD.o.1 bD.o.2 _ _ _ _ _ _ _) _)) hg)
     clear hr hg k0 k1 k2 k3 k4 k5 k6 k7 kf stf hW0 hD HD0 bD;obtain⟨k0,k1,k2,k3,k4,k5,k6,k7⟩:=vS.o.cells
     cases hfb:acc.isEmpty with
     | false =>
      have EN:Hd (¬acc=[]):=by show ¬_;intro h;rw[h]at hfb;cases hfb
      cases ap with
      | false =>
       go_wp2_with (first|(refine(CF.o _).mono ?_));rintro e u5 ⟨rfl,hg⟩;replace aA:=ae (aA.o.grow hg);replace bZ:=ae (bZ.o.grow hg);replace HG:=ae (ag HG.o (dA hg _));clear hg k0 k1 k2 k3 k4 k5 k6 k7;go_wp2_with (first|(go_at_call 172;refine(CM.o _ _ _ (bZ.o.grow (ak (ai u5 none) _)).sps (OS.one (base:=0) (s:=s1) (Nat.zero_le _) (heap_alloc_new u5 _)).sps).mono ?_));rintro e u6 ⟨hg,o',n',c',T',rfl,hos,hlk,hnt,hh⟩;have hg':=ag (ak (ai u5 none) _) hg;replace aA:=ae (aA.o.grow hg');have lN:=ae (ag HG.o (dA hg' _));have bH:Hd (OS u6 B (.slice o' n' c') (outs T')):=hos.base (by have h1:=HG.o.size;rw[HB.o.1]at h1;simp;omega);have bW:=ae hlk;have nG:=ae (Dk.o _ hh);clear hg hg' hos hlk hnt hh;obtain⟨rfl,rfl,rfl⟩:E0=0/\J0=K/\ts0=acc++[⟨gI sg,p⟩]:=by have:=LAST.o (by first|trivial|rfl) (of_decide_eq_false lZ.o);simpa using this
       go_wp2;exact bodyPost_ret (results_tmp2 (t:=2) (u:=3) rfl _ _ _) rfl ⟨_,_,_,rfl,aA.o,lN.o,fun _=>⟨outs T',by rw[HB.o.1];exact bH.o,bW.o.mono (by have:=HA.o;have:=HJ.o;have:=bM.o.2;omega),nG.o⟩⟩
      | true =>
       go_wp2_with (first|(refine(CF.o _).mono ?_));rintro e u5 ⟨rfl,hg⟩;replace aA:=ae (aA.o.grow hg);replace bZ:=ae (bZ.o.grow hg);replace HG:=ae (ag HG.o (dA hg _));clear hg k0 k1 k2 k3 k4 k5 k6 k7;go_wp2_with (first|(go_at_call 172;refine(CM.o _ _ _ (bZ.o.grow (ak (ai u5 none) _)).sps (OS.one (base:=0) (s:=s1) (Nat.zero_le _) (heap_alloc_new u5 _)).sps).mono ?_));rintro e u6 ⟨hg,o',n',c',T',rfl,hos,hlk,hnt,hh⟩;have hg':=ag (ak (ai u5 none) _) hg;replace aA:=ae (aA.o.grow hg');have lN:=ae (ag HG.o (dA hg' _));have bH:Hd (OS u6 B (.slice o' n' c') (outs T')):=hos.base (by have h1:=HG.o.size;rw[HB.o.1]at h1;simp;omega);have bW:=ae hlk;have nG:=ae (Dk.o _ hh);clear hg hg' hos hlk hnt hh;have bC:=ae (MORE.o (by first|trivial|rfl) (of_decide_eq_true lZ.o) (fun h=>EN.o h.1.2))
       go_wp2;go_roundw
       case rel=>exact⟨f,K,acc++[⟨gI sg,p⟩],outs T',by simp,HKK.o.2,by have h1:=HF.o;have h2:=HP.o.1;have h3:=of_decide_eq_true lZ.o;omega,by rw[List.length_append];have h1:=HA.o;have h2:=HP.o.1;have h3:=HKK.o.1;simp;omega,bC.o.symm,aA.o,bH.o,by rw[List.length_append];exact bW.o,nG.o,lN.o⟩
       case measure =>
        have e1:=Dj.o;have e2:=aA.o.place;rw[e1];exact Nat.lt_of_le_of_lt (Nat.le_of_eq (congrArg (s.size - ·) e2)) (by have h1:=HP.o.1;have h2:=HKK.o;have h3:=HP.o.2.1;omega)
     | true =>
      cases htb:decide (sg<0) with
      | false =>
       have hte:=HT.o;rw[htb]at hte;have EN:=ae ((of_decide_eq_false htb:¬sg<0));clear htb
       cases ap with
       | false =>
        go_wp2_with (first|(refine(CF.o _).mono ?_));rintro e u5 ⟨rfl,hg⟩;replace aA:=ae (aA.o.grow hg);replace bZ:=ae (bZ.o.grow hg);replace HG:=ae (ag HG.o (dA hg _));clear hg k0 k1 k2 k3 k4 k5 k6 k7;go_wp2_with (first|(go_at_call 172;refine(CM.o _ _ _ (bZ.o.grow (ak (ai u5 none) _)).sps (OS.one (base:=0) (s:=s1) (Nat.zero_le _) (heap_alloc_new u5 _)).sps).mono ?_));rintro e u6 ⟨hg,o',n',c',T',rfl,hos,hlk,hnt,hh⟩;have hg':=ag (ak (ai u5 none) _) hg;replace aA:=ae (aA.o.grow hg');have lN:=ae (ag HG.o (dA hg' _));have bH:Hd (OS u6 B (.slice o' n' c') (outs T')):=hos.base (by have h1:=HG.o.size;rw[HB.o.1]at h1;simp;omega);have bW:=ae hlk;have nG:=ae (Dk.o _ hh);clear hg hg' hos hlk hnt hh;obtain⟨rfl,rfl,rfl⟩:E0=0/\J0=K/\ts0=acc++[⟨gI sg,p⟩]:=by have:=LAST.o (by first|trivial|rfl) (of_decide_eq_false lZ.o);simpa using this
        go_wp2;exact bodyPost_ret (results_tmp2 (t:=2) (u:=3) rfl _ _ _) rfl ⟨_,_,_,rfl,aA.o,lN.o,fun _=>⟨outs T',by rw[HB.o.1];exact bH.o,bW.o.mono (by have:=HA.o;have:=HJ.o;have:=bM.o.2;omega),nG.o⟩⟩
       | true =>
        go_wp2_with (first|(refine(CF.o _).mono ?_));rintro e u5 ⟨rfl,hg⟩;replace aA:=ae (aA.o.grow hg);replace bZ:=ae (bZ.o.grow hg);replace HG:=ae (ag HG.o (dA hg _));clear hg k0 k1 k2 k3 k4 k5 k6 k7;go_wp2_with (first|(go_at_call 172;refine(CM.o _ _ _ (bZ.o.grow (ak (ai u5 none) _)).sps (OS.one (base:=0) (s:=s1) (Nat.zero_le _) (heap_alloc_new u5 _)).sps).mono ?_));rintro e u6 ⟨hg,o',n',c',T',rfl,hos,hlk,hnt,hh⟩;have hg':=ag (ak (ai u5 none) _) hg;replace aA:=ae (aA.o.grow hg');have lN:=ae (ag HG.o (dA hg' _));have bH:Hd (OS u6 B (.slice o' n' c') (outs T')):=hos.base (by have h1:=HG.o.size;rw[HB.o.1]at h1;simp;omega);have bW:=ae hlk;have nG:=ae (Dk.o _ hh);clear hg hg' hos hlk hnt hh;have bC:=ae (MORE.o (by first|trivial|rfl) (of_decide_eq_true lZ.o) (fun h=>by have h1:=EN.o;have h2:=h.1.1;omega))
        go_wp2;go_roundw
        case rel=>exact⟨f,K,acc++[⟨gI sg,p⟩],outs T',by simp,HKK.o.2,by have h1:=HF.o;have h2:=HP.o.1;have h3:=of_decide_eq_true lZ.o;omega,by rw[List.length_append];have h1:=HA.o;have h2:=HP.o.1;have h3:=HKK.o.1;simp;omega,bC.o.symm,aA.o,bH.o,by rw[List.length_append];exact bW.o,nG.o,lN.o⟩
        case measure =>
         have e1:=Dj.o;have e2:=aA.o.place;rw[e1];exact Nat.lt_of_le_of_lt (Nat.le_of_eq (congrArg (s.size - ·) e2)) (by have h1:=HP.o.1;have h2:=HKK.o;have h3:=HP.o.2.1;omega)
      | true =>
       have hte:=HT.o;rw[htb]at hte;have eP:=ae ((of_decide_eq_true htb:sg<0));have HEM:Hd (acc=[]):=by show acc=[];simpa using hfb
       clear htb
       cases ap with
       | false =>
        go_wp2_with (first|(refine(CF.o _).mono ?_));rintro e u5 ⟨rfl,hg⟩;replace aA:=ae (aA.o.grow hg);replace bZ:=ae (bZ.o.grow hg);replace HG:=ae (ag HG.o (dA hg _));clear hg k0 k1 k2 k3 k4 k5 k6 k7;go_wp2_with (first|(go_at_call 172;refine(CM.o _ _ _ (bZ.o.grow (ak (ai u5 none) _)).sps (OS.one (base:=0) (s:=s1) (Nat.zero_le _) (heap_alloc_new u5 _)).sps).mono ?_));rintro e u6 ⟨hg,o',n',c',T',rfl,hos,hlk,hnt,hh⟩;have hg':=ag (ak (ai u5 none) _) hg;replace aA:=ae (aA.o.grow hg');have lN:=ae (ag HG.o (dA hg' _));have bH:Hd (OS u6 B (.slice o' n' c') (outs T')):=hos.base (by have h1:=HG.o.size;rw[HB.o.1]at h1;simp;omega);have bW:=ae hlk;have nG:=ae (Dk.o _ hh);clear hg hg' hos hlk hnt hh;obtain⟨rfl,rfl,rfl⟩:E0=0/\J0=K/\ts0=acc++[⟨gI sg,p⟩]:=by have:=LAST.o (by first|trivial|rfl) (of_decide_eq_false lZ.o);simpa using this
        go_wp2;exact bodyPost_ret (results_tmp2 (t:=2) (u:=3) rfl _ _ _) rfl ⟨_,_,_,rfl,aA.o,lN.o,fun _=>⟨outs T',by rw[HB.o.1];exact bH.o,bW.o.mono (by have:=HA.o;have:=HJ.o;have:=bM.o.2;omega),nG.o⟩⟩
       | true =>
        cases nO:decide (l[K]?=some 45) with
        | false =>
         have jW:=ae ((of_decide_eq_false nO:¬l[K]?=some 45));clear nO;have TNK:=ae (fun w (h:RS b s K w)=>TN.o K w HKK.o.2 jW.o h);go_wp2_with (first|(go_at_call 148;refine(TNK.o _ aA.o).mono ?_));rintro e u7 ⟨rfl,hr,hg⟩;replace aA:=ae hr;replace vS:=ae (vS.o.growb hg (Ne.symm nz.o.2));replace bZ:=ae (bZ.o.growb hg HB.o.2);replace HG:=ae (ag HG.o hg);clear hr hg k0 k1 k2 k3 k4 k5 k6 k7;obtain⟨k0,k1,k2,k3,k4,k5,k6,k7⟩:=vS.o.cells;go_wp2_with (first|(refine(CF.o _).mono ?_));rintro e u5 ⟨rfl,hg⟩;replace aA:=ae (aA.o.grow hg);replace bZ:=ae (bZ.o.grow hg);replace HG:=ae (ag HG.o (dA hg _));clear hg k0 k1 k2 k3 k4 k5 k6 k7;go_wp2_with (go_at_call 172;refine(CM.o _ _ _ (bZ.o.grow (ak (ai u5 none) _)).sps (OS.one (base:=0) (s:=s1) (Nat.zero_le _) (heap_alloc_new u5 _)).sps).mono ?_)
         rintro e u6 ⟨hg,o',n',c',T',rfl,hos,hlk,hnt,hh⟩;have hg':=ag (ak (ai u5 none) _) hg;replace aA:=ae (aA.o.grow hg');have lN:=ae (ag HG.o (dA hg' _));have bH:Hd (OS u6 B (.slice o' n' c') (outs T')):=hos.base (by have h1:=HG.o.size;rw[HB.o.1]at h1;simp;omega);have bW:=ae hlk;have nG:=ae (Dk.o _ hh);clear hg hg' hos hlk hnt hh;have bC:=ae (MORE.o (by first|trivial|rfl) (of_decide_eq_true lZ.o) (fun h=>jW.o h.2));go_wp2;go_roundw
         case rel=>exact⟨f,K,acc++[⟨gI sg,p⟩],outs T',by simp,HKK.o.2,by have h1:=HF.o;have h2:=HP.o.1;have h3:=of_decide_eq_true lZ.o;omega,by rw[List.length_append];have h1:=HA.o;have h2:=HP.o.1;have h3:=HKK.o.1;simp;omega,bC.o.symm,aA.o,bH.o,by rw[List.length_append];exact bW.o,nG.o,lN.o⟩
         case measure =>
          have e1:=Dj.o;have e2:=aA.o.place;rw[e1];exact Nat.lt_of_le_of_lt (Nat.le_of_eq (congrArg (s.size - ·) e2)) (by have h1:=HP.o.1;have h2:=HKK.o;have h3:=HP.o.2.1;omega)
        | true =>
         have Dl:=ae ((of_decide_eq_true nO:l[K]?=some 45));clear nO;have TYK:=ae (fun w (h:RS b s K w)=>TY.o K w Dl.o h);have gG:Hd (K+1<=s.size):=by have:=kU Dl.o;rw[bM.o.1]at this;exact this
         go_wp2_with (first|(go_at_call 148;refine(TYK.o _ aA.o).mono ?_));rintro e u7 ⟨rfl,hr,hg⟩;replace aA:=ae hr;replace vS:=ae (vS.o.growb hg (Ne.symm nz.o.2));replace HG:=ae (ag HG.o hg);clear hr hg k0 k1 k2 k3 k4 k5 k6 k7;obtain⟨k0,k1,k2,k3,k4,k5,k6,k7⟩:=vS.o.cells;obtain⟨hb1,hb2,hb3⟩:=BTW.o (by first|trivial|rfl) ⟨⟨eP.o,HEM.o⟩,of_decide_eq_true lZ.o,Dl.o⟩;have CBK:Hd (∀w,RS b s (K+1) w->Calls prog 171 #[.pointer (some ⟨b,0,none⟩),.agg #[.int .i64 x1,.int .i64 x2,.int .i64 x3,.string P,.string ⟨#[]⟩,.int .i64 n]] w (NG b s E0 J0 (xW p (au l (aj l (K+1))).2.2) w)):=fun w h=>by rw[hb1,hb2];exact CBT.o (K+1) p x1 x2 x3 P n w Wq.o gG.o h
         have af0:=ae hb3;have Ws:=ae (IA l _ (by rw[bM.o.1];exact(jy.o (K+1) gG.o).2));clear hb1 hb2 hb3;go_wp2_with (first|(go_at_call 171;refine(CBK.o _ aA.o).mono ?_));rintro e u8 ⟨o',n',c',rfl,hr,hg,hok⟩;have HR8:=ae hr;have Dn:=ae (ag HG.o hg);have nH:=ae (fun(h:E0=0)=>(hok h).base (by have:=HG.o.size;rw[HB.o.1]at this;exact this));clear hr hg hok;go_wp2;refine bodyPost_ret (results_tmp2 (t:=2) (u:=3) rfl _ _ _) rfl ⟨_,_,_,rfl,HR8.o,Dn.o,fun h=>?_⟩;obtain⟨q1,q2⟩:=af0.o h;refine⟨_,by rw[HB.o.1];exact nH.o h,(LOk.one (adY p _ HP.o.2.2 (Ws.o q2) 1000 (by omega) (by have:=ut.o;omega) (by have:=iT.o (aj l (K+1));omega)) (by omega)).mono (by omega),?_⟩;show Has _ (lW ts0);rw[q1];exact afZ HP.o.2.2 (Ws.o q2)
open Go.RowKit
theorem af1{l:List UInt8}{f i:Nat}{acc:List (List Te)}(h:¬(aW l (l.length+1) (aj l i) []).1=0):iP l (f+1) i acc=((aW l (l.length+1) (aj l i) []).1,(aW l (l.length+1) (aj l i) []).2.1,acc):=by
 have e:kG l i=aW l (l.length+1) (aj l i) []:=by unfold kG after;rw[if_neg h]
 rw[iP,e,if_neg h]
theorem N9{l:List UInt8}{i:Nat}(h:(aW l (l.length+1) (aj l i) []).1=0):kG l i=if dJ l (aj l (aW l (l.length+1) (aj l i) []).2.1)=true then(0,aj l (aW l (l.length+1) (aj l i) []).2.1,(aW l (l.length+1) (aj l i) []).2.2) else(2,aj l (aW l (l.length+1) (aj l i) []).2.1,(aW l (l.length+1) (aj l i) []).2.2):=by
 unfold kG after;rw[if_pos h]
theorem af2{l:List UInt8}{f i:Nat}{acc:List (List Te)}(h:(aW l (l.length+1) (aj l i) []).1=0)(hl:l.length<=aj l (aW l (l.length+1) (aj l i) []).2.1) :
  iP l (f+1) i acc=(0,aj l (aW l (l.length+1) (aj l i) []).2.1,acc++[(aW l (l.length+1) (aj l i) []).2.2]):=by
 have he:dJ l (aj l (aW l (l.length+1) (aj l i) []).2.1)=true:=by unfold dJ;rw[decide_eq_true hl];rfl
 have e:=N9 h;rw[if_pos he]at e;rw[iP,e,if_pos rfl];simp only[];rw[if_pos hl]
theorem af4{l:List UInt8}{f i:Nat}{acc:List (List Te)}(h:(aW l (l.length+1) (aj l i) []).1=0)(hl:¬l.length<=aj l (aW l (l.length+1) (aj l i) []).2.1)(hb:¬kF l (aj l (aW l (l.length+1) (aj l i) []).2.1)=true) :
  iP l (f+1) i acc=(2,aj l (aW l (l.length+1) (aj l i) []).2.1,acc):=by
 have he:¬dJ l (aj l (aW l (l.length+1) (aj l i) []).2.1)=true:=by
  unfold dJ;rw[decide_eq_false hl];simpa using hb
 have e:=N9 h;rw[if_neg he]at e;rw[iP,e,if_neg (by simp)]
theorem af5{l:List UInt8}{f i:Nat}{acc:List (List Te)}(h:(aW l (l.length+1) (aj l i) []).1=0)(hl:¬l.length<=aj l (aW l (l.length+1) (aj l i) []).2.1)(hb:kF l (aj l (aW l (l.length+1) (aj l i) []).2.1)=true) :
  iP l (f+1) i acc=iP l f (aj l (aW l (l.length+1) (aj l i) []).2.1+2) (acc++[(aW l (l.length+1) (aj l i) []).2.2]):=by
 have he:dJ l (aj l (aW l (l.length+1) (aj l i) []).2.1)=true:=by unfold dJ;rw[hb];simp
 have e:=N9 h;rw[if_pos he]at e;rw[iP,e,if_pos rfl];simp only[];rw[if_neg hl]
theorem Oa{w:World}{base g:Nat}{e:TypeId}{size n cap:Nat}{xs:List Value}(h:w.ownsRow base e size (.slice (some ⟨g,0,none⟩) n cap) n xs):∀j u,xs[j]?=some u->w.cell? ((⟨g,0,none⟩:Addr).add j)=some u:=by
 intro j u hu
 rcases h.2 with⟨h1,_⟩|⟨g',cap',cur,hv,hb,hc,h3,h4,h5,h6⟩
 ·cases h1
 ·simp only[Value.slice.injEq,Option.some.injEq,Addr.mk.injEq]at hv;obtain⟨⟨rfl,_,_⟩,_,_⟩:=hv;rw[EC,cell_of_row w g j cur e (0,0) hc];rw[<-h6,List.getElem?_take]at hu;split at hu
  ·simpa using hu
  ·cases hu
theorem af6(L:List Sp):∀u∈L.flatMap fP,u.oneCell'=true:=by
 intro u hu;obtain⟨s,_,hs⟩:=List.mem_flatMap.1 hu;exact Sv s u hs
theorem yt{w wa wb:World}{row:Option Nat}{b:Nat}(h:w.grownBy wa (some b))(hg:wa.grownBy wb row)(hr:∀q,row=some q->w.heap.size<=q):w.grownBy wb (some b) :=
 ⟨hg.os.trans h.os,hg.tape.trans h.tape,hg.output.trans h.output,Nat.le_trans h.size hg.size,fun k hk hn=>(hg.block k (Nat.lt_of_lt_of_le hk h.size) (fun e=>by have:=hr k e.symm;omega)).trans (h.block k hk hn)⟩
theorem RS.growr{b:Nat}{s:ByteArray}{i:Nat}{w w':World}{row:Option Nat}(h:RS b s i w)(hg:w.grownBy w' row)(hn:some b≠row):RS b s i w':=by
 obtain⟨t,h⟩:=h;exact⟨t,by rw[hg.block b ((aC h)) hn];exact h⟩
theorem OS.far{w:World}{base:Nat}{sl:Value}{L:List Sp}(h:OS w base sl L):∀q,sl.ownBlock=some q->base<=q:=by
 intro q hq
 rcases h.2 with⟨h1,_⟩|⟨g,cap,cur,hv,hb,_⟩
 ·rw[h1]at hq;cases hq
 ·rw[hv]at hq;simp only[Value.ownBlock,Option.some.injEq]at hq;omega
def af7(b:Nat)(s:ByteArray)(R:Int × Nat × List (List Te))(w:World)(e:Ending)(w':World):Prop :=
 ∃(o:Option Addr) (n c:Nat),e=.returned (.tuple #[.slice o n c,.int .i64 R.1])/\RS b s R.2.1 w'/\w.grownBy w' (some b)/\(R.1=0->∃L,OS w' w.heap.size (.slice o n c) L/\LOk L 70000/\Has L (jr R.2.2))
theorem af8:Has [] (jr []):=fun v _=>rfl
theorem af9{L M:List Sp}{S:List (List Te)}{ts:List Te}(h:Has L (jr S))(h':Has M (lW ts)):Has (L++M) (jr (S++[ts])):=fun v hv=>by rw[ad1,h v hv,h' v hv,adU]
theorem aga(b:Nat)(s:ByteArray)(w:World)(h:RS b s 0 w)(hs:s.size<=200) :
  Calls prog 128 #[.pointer (some ⟨b,0,none⟩)] w (af7 b s (iP s.data.toList (s.data.toList.length+1) 0 []) w):=by
 obtain⟨l,hl⟩:=zN (s.data.toList);have hll:l.length=s.size:=by rw[<-hl];simp
 have bM:Hd (l.length=s.size/\s.size<=200):=⟨hll,hs⟩;have CS:Hd (∀i w,i<=s.size->RS b s i w->Calls prog 146 #[.pointer (some ⟨b,0,none⟩)] w (N7 b s (aW l (l.length+1) (aj l i) []) w)):=fun i w hi h=>by rw[<-hl];exact set_any b s i w hi h hs
 have CB:Hd (∀i w,i<=s.size->RS b s i w->Calls prog 147 #[.pointer (some ⟨b,0,none⟩)] w fun e w'=>e=.returned (.bool (decide (i<aj l i)))/\RS b s (aj l i) w'/\w.grownBy w' (some b)):=fun i w hi h=>by rw[<-hl];exact MO b s i w hi h (by omega)
 have CE:=ae (Hf b s);have CT:Hd (∀i w,i<=s.size->RS b s i w->Calls prog 148 #[.pointer (some ⟨b,0,none⟩),.string ⟨#[124,124]⟩] w fun e w'=>e=.returned (.bool (kF l i))/\RS b s (if kF l i=true then i+2 else i) w'/\w.grownBy w' (some b)):=fun i w hi h=>by
  have:=take_any b s ⟨#[124,124]⟩ i w hi h (by omega) (by show 2 < _;decide);rw[show(ByteArray.mk #[124,124]).data.toList=[124,124] from rfl,IR,hl]at this;exact this
 have jy:Hd (∀i,i<=s.size->i<=aj l i/\aj l i<=s.size):=fun i hi=>⟨sG l i,by have:=qV l i (by rw[hll];exact hi);rw[hll]at this;exact this⟩
 have kQ:Hd (∀i,i<=s.size->(aW l (l.length+1) (aj l i) []).1=0->i<=(aW l (l.length+1) (aj l i) []).2.1/\(aW l (l.length+1) (aj l i) []).2.1<=s.size):=fun i hi h0=>by
  have h1:=jy.o i hi;have h2:=MP l (l.length+1) (aj l i) [] (by rw[hll];exact h1.2) h0;exact⟨by omega,by rw[<-hll];exact h2.2⟩
 have HI:=ae h;have uD:Hd (b<w.heap.size):=by obtain⟨t,h⟩:=h;exact(aC h)
 rw[hl];obtain⟨E0,J0,S0,hR⟩:∃E0 J0 S0,iP l (l.length+1) 0 []=(E0,J0,S0):=⟨_,_,_,rfl⟩;have HR0:=ae hR;rw[hR];obtain⟨B,hB⟩:=zN (w.heap.size);have HB:Hd (w.heap.size=B/\b<B):=⟨hB,by rw[<-hB];exact uD.o⟩;clear hl hll hR h hs hB;go_enter func128,ntmps128;go_wp2;go_loopw [4] (fun va wr=>∃(f j:Nat) (acc:List (List Te)) (L:List Sp),j<=s.size/\l.length<f+j/\acc.length<=j/\iP l f j acc=(E0,J0,S0)/\RS b s j wr/\OS wr B va L/\LOk L (300*acc.length)/\Has L (jr acc)/\w.grownBy wr (some b)) (fun _ wr=>s.size-placeOf b wr)
 case atStart=>exact⟨l.length+1,0,[],[],Nat.zero_le _,by omega,Nat.le_refl _,HR0.o,HI.o,OS.emp _ _,⟨rfl,fun s hs=>(by cases hs),Nat.le_refl _⟩,af8,ai _ _⟩
 case round =>
  obtain⟨f,j,acc,L,hj,hf,ha,hps,hrs,hos,FN,hhas,hg⟩:=hrel;clear HI HR0;obtain⟨o,n0,c0,rfl⟩:=hos.slice;obtain⟨f,rfl⟩:∃f',f=f'+1:=by
   cases f with
   | zero=>have:=bM.o.1;omega
   | succ f=>exact⟨f,rfl⟩
  have HJ:=ae hj;have HF:=ae hf;have HA:=ae ha;have zH:=ae hps;have aA:=ae hrs;have Dj:=ae hrs.place;have bZ:=ae hos;have FO:=ae FN;have zI:=ae hhas;have HG:=ae hg;clear hj hf ha hps hrs hos FN hhas hg;have Wu:=ae (fun w (h:RS b s j w)=>CS.o j w HJ.o h);have wK:=ae (kQ.o j HJ.o);have BAD:Hd (¬(aW l (l.length+1) (aj l j) []).1=0->iP l (f+1) j acc=((aW l (l.length+1) (aj l j) []).1,(aW l (l.length+1) (aj l j) []).2.1,acc)):=fun h=>af1 h
  have LAST:Hd ((aW l (l.length+1) (aj l j) []).1=0->l.length<=aj l (aW l (l.length+1) (aj l j) []).2.1->iP l (f+1) j acc=(0,aj l (aW l (l.length+1) (aj l j) []).2.1,acc++[(aW l (l.length+1) (aj l j) []).2.2])):=fun h h1=>af2 h h1
  have TXT:Hd ((aW l (l.length+1) (aj l j) []).1=0->¬l.length<=aj l (aW l (l.length+1) (aj l j) []).2.1->¬kF l (aj l (aW l (l.length+1) (aj l j) []).2.1)=true->iP l (f+1) j acc=(2,aj l (aW l (l.length+1) (aj l j) []).2.1,acc)):=fun h h1 h2=>af4 h h1 h2
  have MORE:Hd ((aW l (l.length+1) (aj l j) []).1=0->¬l.length<=aj l (aW l (l.length+1) (aj l j) []).2.1->kF l (aj l (aW l (l.length+1) (aj l j) []).2.1)=true->iP l (f+1) j acc=iP l f (aj l (aW l (l.length+1) (aj l j) []).2.1+2) (acc++[(aW l (l.length+1) (aj l j) []).2.2])):=fun h h1 h2=>af5 h h1 h2
  obtain⟨E,J,ts,hR⟩:∃E J ts,aW l (l.length+1) (aj l j) []=(E,J,ts):=⟨_,_,_,rfl⟩;rw[hR]at Wu wK BAD LAST TXT MORE;simp only[]at wK BAD LAST TXT MORE;rw[zH.o]at BAD LAST TXT MORE;clear hR;go_wp2_with (go_at_call 146;refine(Wu.o _ aA.o).mono ?_);rintro e u1 ⟨o1,n1,c1,rfl,hr,hg,hok⟩;replace aA:Hd (RS b s J u1):=hr;replace bZ:=ae (bZ.o.growb hg HB.o.2);have Dc:Hd (B<=wr.heap.size):=by have:=HG.o.size;rw[HB.o.1]at this;exact this
  replace HG:=ae (ag HG.o hg);have gJ:Hd (E=0->∃L,OS u1 B (.slice o1 n1 c1) L/\LOk L 300/\Has L (lW ts)):=fun h0=>by
   obtain⟨L1,h1,h2,h3⟩:=hok h0;exact⟨L1,h1.base Dc.o,h2,h3⟩
  clear hr hg hok
  cases hz:(E == 0) with
  | false =>
   have hE0:¬E=0:=by simpa using hz
   have HB2:=ae (BAD.o hE0);have jI:=ae hE0;clear hE0;go_wp2;refine bodyPost_ret (results_tmp2 (t:=2) (u:=3) rfl _ _ _) rfl ?_;rw[HB2.o];exact⟨_,_,_,rfl,aA.o,HG.o,fun h=>absurd h jI.o⟩
  | true =>
   have hE0:E=0:=by simpa using hz
   subst hE0;obtain⟨hp1,hp2⟩:=wK.o rfl;have HP:Hd (j<=J/\J<=s.size):=⟨hp1,hp2⟩;obtain⟨L1,ho1,hl1,hh1⟩:=gJ.o rfl;have dB:=ae ho1;have dw:Hd (n1=L1.length/\n0=L.length):=by
    constructor
    ·rcases ho1.2 with⟨h1,h2⟩|⟨g,cap,cur,hv,_⟩
     ·cases h1;exact h2.symm
     ·cases hv;rfl
    ·rcases bZ.o.2 with⟨h1,h2⟩|⟨g,cap,cur,hv,_⟩
     ·cases h1;exact h2.symm
     ·cases hv;rfl
   have bW:Hd (LOk (L++L1) (300*(acc++[ts]).length)):=by
    have:=FO.o.app hl1;refine this.mono ?_;rw[List.length_append];simp;omega
   have nG:=ae (af9 zI.o hh1);have zJ:=ae (fun w (h:RS b s J w)=>CB.o J w HP.o.2 h);have HKK:=ae (jy.o J HP.o.2);obtain⟨K,hK⟩:=zN (aj l J);rw[hK]at zJ HKK LAST TXT MORE;clear hp1 hp2 hK hz ho1 hl1 hh1 gJ;have hinfo:=Su;obtain⟨i1,hj0,hjj⟩:=Option.map_eq_some_iff.1 hinfo;have hy0:i1.zero=some (.agg #[.int .i64 0,.int .i64 0,.int .i64 0,.string ⟨#[]⟩,.string ⟨#[]⟩,.int .i64 0,.int .i64 0,.int .i64 0,.string ⟨#[]⟩,.string ⟨#[]⟩,.bool false]):=congrArg (·.1) hjj;have hy1:i1.size=11:=congrArg (·.2.1) hjj;have hyb:i1.bytes=120:=congrArg (·.2.2) hjj;clear hjj hinfo;have Wv:Hd (L.length+L1.length<=70000):=by
    have h1:=bW.o.ln;have h2:=HA.o;have h3:=HJ.o;have h4:=bM.o.2;rw[List.length_append,List.length_append]at h1;show _<=_;simp at h1;omega
   have hfm:=dB.o.2
   rcases hfm with⟨h1,h2⟩|⟨g,cap,cur,hv,_⟩
   ·simp only[Value.slice.injEq]at h1;obtain⟨rfl,rfl,rfl⟩:=h1;have hL1:=List.length_eq_zero_iff.1 h2;have bH:Hd (OS u1 B (.slice o n0 c0) (L++L1)):=by show OS u1 B _ _;rw[hL1,List.append_nil];exact bZ.o
    clear h2 hL1;go_wp2_with (first|(at_builtin;refine wpList_append_own_none rfl _ _ 170 rfl B 203 i1 11 underlying170 hj0 _ _ _ rfl bZ.o rfl ?_));clear hj0 hy0 hy1 hyb;obtain⟨o2,n2,c2,hva⟩:=bH.o.slice;rw[hva]at bH
    try rw[hva]
    clear hva;go_wp2_with (go_at_call 147;refine(zJ.o _ aA.o).mono ?_);rintro e u3 ⟨rfl,hr,hg⟩;replace aA:=ae hr;replace bH:=ae (bH.o.growb hg HB.o.2);replace HG:=ae (ag HG.o hg);clear hr hg;have wL:=ae (CE.o K);have qw:=ae (fun w (h:RS b s K w)=>CT.o K w HKK.o.2 h)
    cases hend:decide (K=s.size) with
    | true =>
     rw[hend]at wL;have hke:=of_decide_eq_true hend;obtain⟨rfl,rfl,rfl⟩:E0=0/\J0=K/\S0=acc++[ts]:=by have:=LAST.o (by first|trivial|rfl) (by have:=bM.o.1;omega);simpa using this
     clear hend hke;go_wp2_with (go_at_call 132;refine(wL.o _ aA.o).mono ?_);rintro e u4 ⟨rfl,n,hn⟩;replace aA:Hd (RS b s J0 u4):=by show RS b s J0 u4;rw[hn];exact aA.o.drew n
     replace bH:Hd (OS u4 B (.slice o2 n2 c2) (L++L1)):=by show OS u4 B _ _;rw[hn];exact bH.o
     replace HG:Hd (w.grownBy u4 (some b)):=by show w.grownBy u4 (some b);rw[hn];exact aH HG.o n
     clear hn;go_wp2;exact bodyPost_ret (results_tmp2 (t:=2) (u:=3) rfl _ _ _) rfl ⟨_,_,_,rfl,aA.o,HG.o,fun _=>⟨L++L1,by rw[HB.o.1];exact bH.o,bW.o.mono (by rw[List.length_append];have h2:=HA.o;have h3:=HJ.o;have h4:=bM.o.2;simp;omega),nG.o⟩⟩
    | false =>
     rw[hend]at wL;have oM:Hd (¬l.length<=K):=by show ¬_;have:=of_decide_eq_false hend;have:=bM.o.1;have:=HKK.o.2;omega
     clear hend;go_wp2_with (go_at_call 132;refine(wL.o _ aA.o).mono ?_);rintro e u4 ⟨rfl,n,hn⟩;replace aA:Hd (RS b s K u4):=by show RS b s K u4;rw[hn];exact aA.o.drew n
     replace bH:Hd (OS u4 B (.slice o2 n2 c2) (L++L1)):=by show OS u4 B _ _;rw[hn];exact bH.o
     replace HG:Hd (w.grownBy u4 (some b)):=by show w.grownBy u4 (some b);rw[hn];exact aH HG.o n
     clear hn
     cases hbar:kF l K with
     | true =>
      rw[hbar]at qw;have Ob:Hd (∀w,RS b s K w->Calls prog 148 #[.pointer (some ⟨b,0,none⟩),.string ⟨#[124,124]⟩] w fun e w'=>e=.returned (.bool true)/\RS b s (K+2) w'/\w.grownBy w' (some b)):=qw.o;have bC:=ae (MORE.o (by first|trivial|rfl) oM.o hbar);have gV:Hd (K+2<=s.size):=by have:=IB l K hbar;rw[bM.o.1]at this;exact this
      clear hbar qw;go_wp2_with (go_at_call 148;refine(Ob.o _ aA.o).mono ?_);rintro e u5 ⟨rfl,hr,hg⟩;replace aA:=ae hr;replace bH:=ae (bH.o.growb hg HB.o.2);replace HG:=ae (ag HG.o hg);clear hr hg;go_wp2;go_roundw
      case rel=>exact⟨f,K+2,acc++[ts],L++L1,gV.o,by have h1:=HF.o;have h2:=HP.o.1;have h3:=HKK.o.1;omega,by rw[List.length_append];have h1:=HA.o;have h2:=HP.o.1;have h3:=HKK.o.1;simp;omega,bC.o.symm,aA.o,bH.o,bW.o,nG.o,HG.o⟩
      case measure =>
       have e1:=Dj.o;have e2:=aA.o.place;rw[e1];exact Nat.lt_of_le_of_lt (Nat.le_of_eq (congrArg (s.size - ·) e2)) (by have h1:=HP.o;have h2:=HKK.o;have h3:=gV.o;omega)
     | false =>
      rw[hbar]at qw;have Oc:Hd (∀w,RS b s K w->Calls prog 148 #[.pointer (some ⟨b,0,none⟩),.string ⟨#[124,124]⟩] w fun e w'=>e=.returned (.bool false)/\RS b s K w'/\w.grownBy w' (some b)):=qw.o;have bC:=ae (TXT.o (by first|trivial|rfl) oM.o (by rw[hbar];decide));clear hbar qw;go_wp2_with (go_at_call 148;refine(Oc.o _ aA.o).mono ?_);rintro e u5 ⟨rfl,hr,hg⟩;replace aA:=ae hr;replace HG:=ae (ag HG.o hg);clear hr hg;go_wp2;refine bodyPost_ret (results_tmp2 (t:=2) (u:=3) rfl _ _ _) rfl ?_;rw[bC.o];exact⟨_,_,_,rfl,aA.o,HG.o,fun h=>absurd h (by simp)⟩
   ·simp only[Value.slice.injEq]at hv;obtain⟨rfl,hn1,rfl⟩:=hv;subst hn1;go_wp2_with (first|(at_builtin;refine wpList_append_own _ rfl _ _ 170 rfl B 203 i1 _ 11 120 underlying170 hj0 hy0 hy1 hyb rfl (by decide) _ _ _ rfl bZ.o _ _ _ (L1.flatMap fP) rfl dB.o.1 (Oa dB.o) (af6 L1) (by unfold maxLen;have:=Wv.o;omega) (by have:=Wv.o;omega) (by have h1:=HG.o.size;rw[HB.o.1]at h1;exact h1) ?_;intro v' u2 hown hgrow _));have bH:Hd (OS u2 B v' (L++L1)):=by show OS u2 B v' _;unfold OS;rw[List.length_append,List.flatMap_append];exact hown
    have bP:=bZ.o.far;replace aA:=ae (aA.o.growr hgrow (fun e=>by have:=bP b e.symm;have:=HB.o.2;omega));replace HG:=ae (yt HG.o hgrow (fun q hq=>by rw[HB.o.1];exact bP q hq));clear hown hgrow bP hj0 hy0 hy1 hyb;obtain⟨o2,n2,c2,hva⟩:=bH.o.slice;rw[hva]at bH
    try rw[hva]
    clear hva;go_wp2_with (go_at_call 147;refine(zJ.o _ aA.o).mono ?_);rintro e u3 ⟨rfl,hr,hg⟩;replace aA:=ae hr;replace bH:=ae (bH.o.growb hg HB.o.2);replace HG:=ae (ag HG.o hg);clear hr hg;have wL:=ae (CE.o K);have qw:=ae (fun w (h:RS b s K w)=>CT.o K w HKK.o.2 h)
    cases hend:decide (K=s.size) with
    | true =>
     rw[hend]at wL;have hke:=of_decide_eq_true hend;obtain⟨rfl,rfl,rfl⟩:E0=0/\J0=K/\S0=acc++[ts]:=by have:=LAST.o (by first|trivial|rfl) (by have:=bM.o.1;omega);simpa using this
     clear hend hke;go_wp2_with (go_at_call 132;refine(wL.o _ aA.o).mono ?_);rintro e u4 ⟨rfl,n,hn⟩;replace aA:Hd (RS b s J0 u4):=by show RS b s J0 u4;rw[hn];exact aA.o.drew n
     replace bH:Hd (OS u4 B (.slice o2 n2 c2) (L++L1)):=by show OS u4 B _ _;rw[hn];exact bH.o
     replace HG:Hd (w.grownBy u4 (some b)):=by show w.grownBy u4 (some b);rw[hn];exact aH HG.o n
     clear hn;go_wp2;exact bodyPost_ret (results_tmp2 (t:=2) (u:=3) rfl _ _ _) rfl ⟨_,_,_,rfl,aA.o,HG.o,fun _=>⟨L++L1,by rw[HB.o.1];exact bH.o,bW.o.mono (by rw[List.length_append];have h2:=HA.o;have h3:=HJ.o;have h4:=bM.o.2;simp;omega),nG.o⟩⟩
    | false =>
     rw[hend]at wL;have oM:Hd (¬l.length<=K):=by show ¬_;have:=of_decide_eq_false hend;have:=bM.o.1;have:=HKK.o.2;omega
     clear hend;go_wp2_with (go_at_call 132;refine(wL.o _ aA.o).mono ?_);rintro e u4 ⟨rfl,n,hn⟩;replace aA:Hd (RS b s K u4):=by show RS b s K u4;rw[hn];exact aA.o.drew n
     replace bH:Hd (OS u4 B (.slice o2 n2 c2) (L++L1)):=by show OS u4 B _ _;rw[hn];exact bH.o
     replace HG:Hd (w.grownBy u4 (some b)):=by show w.grownBy u4 (some b);rw[hn];exact aH HG.o n
     clear hn
     cases hbar:kF l K with
     | true =>
      rw[hbar]at qw;have Ob:Hd (∀w,RS b s K w->Calls prog 148 #[.pointer (some ⟨b,0,none⟩),.string ⟨#[124,124]⟩] w fun e w'=>e=.returned (.bool true)/\RS b s (K+2) w'/\w.grownBy w' (some b)):=qw.o;have bC:=ae (MORE.o (by first|trivial|rfl) oM.o hbar);have gV:Hd (K+2<=s.size):=by have:=IB l K hbar;rw[bM.o.1]at this;exact this
      clear hbar qw;go_wp2_with (go_at_call 148;refine(Ob.o _ aA.o).mono ?_);rintro e u5 ⟨rfl,hr,hg⟩;replace aA:=ae hr;replace bH:=ae (bH.o.growb hg HB.o.2);replace HG:=ae (ag HG.o hg);clear hr hg;go_wp2;go_roundw
      case rel=>exact⟨f,K+2,acc++[ts],L++L1,gV.o,by have h1:=HF.o;have h2:=HP.o.1;have h3:=HKK.o.1;omega,by rw[List.length_append];have h1:=HA.o;have h2:=HP.o.1;have h3:=HKK.o.1;simp;omega,bC.o.symm,aA.o,bH.o,bW.o,nG.o,HG.o⟩
      case measure =>
       have e1:=Dj.o;have e2:=aA.o.place;rw[e1];exact Nat.lt_of_le_of_lt (Nat.le_of_eq (congrArg (s.size - ·) e2)) (by have h1:=HP.o;have h2:=HKK.o;have h3:=gV.o;omega)
     | false =>
      rw[hbar]at qw;have Oc:Hd (∀w,RS b s K w->Calls prog 148 #[.pointer (some ⟨b,0,none⟩),.string ⟨#[124,124]⟩] w fun e w'=>e=.returned (.bool false)/\RS b s K w'/\w.grownBy w' (some b)):=qw.o;have bC:=ae (TXT.o (by first|trivial|rfl) oM.o (by rw[hbar];decide));clear hbar qw;go_wp2_with (go_at_call 148;refine(Oc.o _ aA.o).mono ?_);rintro e u5 ⟨rfl,hr,hg⟩;replace aA:=ae hr;replace HG:=ae (ag HG.o hg);clear hr hg;go_wp2;refine bodyPost_ret (results_tmp2 (t:=2) (u:=3) rfl _ _ _) rfl ?_;rw[bC.o];exact⟨_,_,_,rfl,aA.o,HG.o,fun h=>absurd h (by simp)⟩
end Go.Proofs.YtiinliaoojfjaaaGreatDoor
