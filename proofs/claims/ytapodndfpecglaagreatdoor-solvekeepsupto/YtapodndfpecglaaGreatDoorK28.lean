import Derived.Test.YtapodndfpecglaaGreatDoorK24
import Derived.Laws.AppendOwnNone
import Derived.Test.YtapodndfpecglaaGreatDoorK16
set_option linter.all false
set_option maxRecDepth 100000
set_option maxHeartbeats 0
open Go.Proofs.Tryz
namespace Go.Proofs.YtapodndfpecglaaGreatDoor
open Go.RowKit
theorem Ri{l:List UInt8}{f i:Nat}{acc:List Te}(h:l.length<=i\/l[i]?=some 124):aW l (f+1) i acc=(0,i,acc):=by unfold aW;rw[if_pos h]
theorem ach{l:List UInt8}{f i:Nat}{acc:List Te}(h:¬(l.length<=i\/l[i]?=some 124))(hr:¬(ay l (ax l i).2).1=0):aW l (f+1) i acc=((ay l (ax l i).2).1,(ay l (ax l i).2).2.1,acc):=by
 unfold aW;rw[if_neg h,if_neg hr]
theorem aci{l:List UInt8}{f i:Nat}{acc:List Te}(h:¬(l.length<=i\/l[i]?=some 124))(hr:(ay l (ax l i).2).1=0)
  (hb:((ax l i).1<0/\acc=[])/\(ay l (ax l i).2).2.1<aj l (ay l (ax l i).2).2.1/\l[aj l (ay l (ax l i).2).2.1]?=some 45) :
  (aW l (f+1) i acc).1=zC l (aj l (ay l (ax l i).2).2.1+1)/\(aW l (f+1) i acc).2.1=zD l (aj l (ay l (ax l i).2).2.1+1)/\((aW l (f+1) i acc).1=0->(aW l (f+1) i acc).2.2=[⟨7,(ay l (ax l i).2).2.2⟩,⟨2,(ay l (aj l (aj l (ay l (ax l i).2).2.1+1))).2.2⟩]/\(ay l (aj l (aj l (ay l (ax l i).2).2.1+1))).1=0):=by
 unfold aW zC zD;rw[if_neg h,if_pos hr,if_pos hb]
 by_cases hm:aj l (aj l (ay l (ax l i).2).2.1+1)=aj l (ay l (ax l i).2).2.1+1
 ·rw[if_pos hm,if_pos hm,if_pos hm];exact⟨rfl,rfl,fun h=>by cases h⟩
 ·rw[if_neg hm,if_neg hm,if_neg hm]
  by_cases hq:(ay l (aj l (aj l (ay l (ax l i).2).2.1+1))).1=0
  ·rw[if_pos hq];exact⟨hq.symm,rfl,fun _=>⟨rfl,hq⟩⟩
  ·rw[if_neg hq];exact⟨rfl,rfl,fun h=>absurd h hq⟩
theorem acj{l:List UInt8}{f i:Nat}{acc:List Te}(h:¬(l.length<=i\/l[i]?=some 124))(hr:(ay l (ax l i).2).1=0)(hg:¬(ay l (ax l i).2).2.1<aj l (ay l (ax l i).2).2.1) :
  aW l (f+1) i acc=(0,aj l (ay l (ax l i).2).2.1,acc++[⟨fP (ax l i).1,(ay l (ax l i).2).2.2⟩]):=by
 unfold aW;rw[if_neg h,if_pos hr,if_neg (fun hb=>hg hb.2.1),if_pos hg]
theorem ack{l:List UInt8}{f i:Nat}{acc:List Te}(h:¬(l.length<=i\/l[i]?=some 124))(hr:(ay l (ax l i).2).1=0)(hg:(ay l (ax l i).2).2.1<aj l (ay l (ax l i).2).2.1)
  (hb:¬(((ax l i).1<0/\acc=[])/\l[aj l (ay l (ax l i).2).2.1]?=some 45)) :
  aW l (f+1) i acc=aW l f (aj l (ay l (ax l i).2).2.1) (acc++[⟨fP (ax l i).1,(ay l (ax l i).2).2.2⟩]):=by
 rw[aW,if_neg h,if_pos hr,if_neg (fun hb'=>hb ⟨hb'.1,hb'.2.2⟩),if_neg (not_not_intro hg)]
theorem Jv{A:Nat}{w W:World}(h:w.grownBy W none)(hA:w.heap.size<=A)(T F:Value)(y1 y2 y3:Int)(x4:ByteArray)(n:Int):w.grownBy (nI W A T F y1 y2 y3 x4 n) none:=eQ (eQ (eQ (eQ (eQ (eQ (eQ (eQ h hA _ _) hA _ _) hA _ _) hA _ _) hA _ _) hA _ _) hA _ _) hA _ _
theorem acl(sg:Int)(hs:-1<=sg/\sg<=6):∀(args:Array Value) (w:World),(callFunc (nH sg) args).run prog w=.ok (.enter (nH sg) args) w:=by
 intro args w;have hss:sg=-1\/sg=0\/sg=1\/sg=2\/sg=3\/sg=4\/sg=5\/sg=6:=by omega
 rcases hss with rfl|rfl|rfl|rfl|rfl|rfl|rfl|rfl
 ·exact Tryz.call193 args w
 ·exact Tryz.call193 args w
 ·exact Tryz.call189 args w
 ·exact Tryz.call190 args w
 ·exact Tryz.call191 args w
 ·exact Tryz.call192 args w
 ·exact Tryz.call194 args w
 ·exact Tryz.call197 args w
def Jw(b:Nat)(s:ByteArray)(R:Int × Nat × List Te)(w:World)(e:Ending)(w':World):Prop :=
 ∃(o:Option Addr) (n c:Nat),e=.returned (.tuple #[.slice o n c,.int .i64 R.1])/\RS b s R.2.1 w'/\w.grownBy w' (some b)/\(R.1=0->∃L,OS w' w.heap.size (.slice o n c) L/\LOk L 300/\Has L (kJ R.2.2))
theorem acm:Has [jE ⟨jy,qH,true⟩] (kJ []):=by
 intro v hv;rw[holds_one,show kJ [] v=true from rfl,qJ];exact⟨Eo v hv,Or.inl rfl⟩
theorem acn:LOk [jE ⟨jy,qH,true⟩] 1:=LOk.one (g:=⟨jy,qH,true⟩) (n:=1) ⟨PE 1 (Nat.le_refl _),fun h=>(by cases h),Nat.zero_le _⟩ (by decide)
theorem aco{L M:List Sp}{acc:List Te}{sg:Int}{p:Pa}(h:Has L (kJ acc))(hs:-1<=sg/\sg<=6)(hp:ed p)(hM:∀x,eu M x=(eu L x && eu [jE (wR (fP sg) p)] x)):Has M (kJ (acc++[⟨fP sg,p⟩])):=by
 intro v hv;rw[hM,h v hv,holds_one,O6 (fP sg) (by unfold fP;split<;>omega) p hp v hv,ZN]
theorem acp{p q:Pa}(hp:ed p)(hq:ed q):Has [jE (uS p q)] (kJ [⟨7,p⟩,⟨2,q⟩]):=by
 intro v hv;rw[holds_one,Zl p q hp hq v hv];show _=([⟨7,p⟩,⟨2,q⟩]:List Te).all _;simp
theorem set_any(b:Nat)(s:ByteArray)(i:Nat)(w:World)(hi:i<=s.size)(h:RS b s i w)(hs:s.size<=200) :
  Calls prog 128 #[.pointer (some ⟨b,0,none⟩)] w (Jw b s (aW s.data.toList (s.data.toList.length+1) (aj s.data.toList i) []) w):=by
 obtain⟨l,hl⟩:=zN (s.data.toList);have hll:l.length=s.size:=by rw[<-hl];simp
 have bP:Hd (l.length=s.size/\s.size<=200):=⟨hll,hs⟩;have CL:=ae yA;have CB:Hd (∀i w,i<=s.size->RS b s i w->Calls prog 129 #[.pointer (some ⟨b,0,none⟩)] w fun e w'=>e=.returned (.bool (decide (i<aj l i)))/\RS b s (aj l i) w'/\w.grownBy w' (some b)):=fun i w hi h=>by rw[<-hl];exact Ip b s i w hi h (by omega)
 have CE:=ae (DL b s);have CX:Hd (∀i w,i<=s.size->RS b s i w->Calls prog 151 #[.pointer (some ⟨b,0,none⟩),.string ⟨#[124]⟩] w fun e w'=>e=.returned (.bool (decide (l[i]?=some 124)))/\∃n,w'=w.drewN n):=fun i w hi h=>by
  have:=next_any b s ⟨#[124]⟩ i w hi h;rw[show(ByteArray.mk #[124]).data.toList=[124] from rfl,dB,hl]at this;exact this
 have CT:Hd (∀i w,i<=s.size->RS b s i w->Calls prog 152 #[.pointer (some ⟨b,0,none⟩)] w (QJ b s (ax l i).1 (ay l (ax l i).2) w)):=fun i w hi h=>by rw[<-hl];exact abK b s i w hi h (by omega)
 have TY:=ae (fun i w (hc:l[i]?=some 45) (h:RS b s i w)=>qh b s i 45 w (by rw[hl];exact hc) h (by omega));have TN:Hd (∀i w,i<=s.size->¬l[i]?=some 45->RS b s i w->Calls prog 130 #[.pointer (some ⟨b,0,none⟩),.string ⟨#[45]⟩] w fun e w'=>e=.returned (.bool false)/\RS b s i w'/\w.grownBy w' (some b)):=fun i w hi hc h=>mQ b s i 45 w hi (by rw[hl];exact hc) h (by omega)
 have CBT:Hd (∀(i:Nat) (p:Pa) (y1 y2 y3:Int) (Q:ByteArray) (m:Int) (w:World),uT y1 y2 y3 Q m=jT p->i<=s.size->RS b s i w->Calls prog 153 #[.pointer (some ⟨b,0,none⟩),.agg #[.int .i64 y1,.int .i64 y2,.int .i64 y3,.string Q,.string ⟨#[]⟩,.int .i64 m]] w (Jq b s (zC l i) (zD l i) (uS p (ay l (aj l i)).2.2) w)):=fun i p y1 y2 y3 Q m w hp hi h=>by rw[<-hl];exact abR b s i p y1 y2 y3 Q m hp w hi h hs
 have oG:Hd (∀i,i<=s.size->i<=aj l i/\aj l i<=s.size):=fun i hi=>⟨pz l i,by have:=oC l i (by rw[hll];exact hi);rw[hll]at this;exact this⟩
 have zF:Hd (∀i,i<=s.size->(ay l (ax l i).2).1=0->i<(ay l (ax l i).2).2.1/\(ay l (ax l i).2).2.1<=s.size/\ed (ay l (ax l i).2).2.2):=fun i hi h0=>by
  have sp:=Bz l i (by rw[hll];exact hi);have pp:=Bv l _ sp.2 h0;exact⟨by omega,by rw[<-hll];exact pp.2,Es l _ sp.2 h0⟩
 have iW:Hd (∀i,(ay l i).2.2.pre.length<=200):=fun i=>by have:=Iu l i;omega
 have HI:=ae h;have lm:=ae hi;have qK:Hd (b<w.heap.size):=by obtain⟨t,h⟩:=h;exact(aA h)
 rw[hl];obtain⟨E0,J0,ts0,hR⟩:∃E0 J0 ts0,aW l (l.length+1) (aj l i) []=(E0,J0,ts0):=⟨_,_,_,rfl⟩;have HR0:=ae hR;rw[hR];obtain⟨B,hB⟩:=zN (w.heap.size);have HB:Hd (w.heap.size=B/\b<B):=⟨hB,by rw[<-hB];exact qK.o⟩;clear hl hll hR h hs hi hB;go_enter func128,ntmps128;go_wp2_with (go_at_call 150;refine(CL.o _).mono ?_);rintro e w1 ⟨rfl,hg⟩;have HG:=ae hg;clear hg;go_wp2_with (go_at_call 129;refine(CB.o i _ lm.o ((HI.o.grow HG.o).grow (au (ak w1 none) _))).mono ?_);rintro e w2 ⟨rfl,hr,hg⟩;have cu:Hd (OS w2 B (.slice (some ⟨w1.heap.size,0,none⟩) 1 1) [jE ⟨jy,qH,true⟩]):=by
  refine OS.growb (b:=b) (w:=w1.alloc (.cells #[.int .i64 0,.int .i64 0,.int .i64 0,.string ⟨#[48]⟩,.string ⟨#[]⟩,.int .i64 0,.int .i64 0,.int .i64 0,.string ⟨#[]⟩,.string ⟨#[]⟩,.bool true] 181)) ?_ hg HB.o.2;exact OS.one (s:=jE ⟨jy,qH,true⟩) (by rw[<-HB.o.1];exact HG.o.size) (heap_alloc_new w1 _)
 have HG2:=ae (ah (bH (ah HG.o (au (ak w1 none) _)) _) hg);have HR2:=ae hr;obtain⟨a0,ha0⟩:=zN (w1.heap.size);rw[ha0]at cu
 try rw[ha0]
 clear hr hg ha0 HG;go_wp2;go_loopw [4,5] (fun va vf wr=>∃(f j:Nat) (acc:List Te) (L:List Sp),vf=.bool acc.isEmpty/\j<=s.size/\l.length<f+j/\acc.length<=j/\aW l f j acc=(E0,J0,ts0)/\RS b s j wr/\OS wr B va L/\LOk L (acc.length+1)/\Has L (kJ acc)/\w.grownBy wr (some b)) (fun _ _ wr=>s.size-placeOf b wr)
 case atStart=>exact⟨l.length+1,aj l i,[],_,rfl,(oG.o i lm.o).2,by omega,Nat.zero_le _,HR0.o,HR2.o,cu.o,acn,acm,HG2.o⟩
 case round =>
  obtain⟨f,j,acc,L,rfl,hj,hf,ha,hps,hrs,hos,BQ,hhas,hg⟩:=hrel;clear cu HR2 HG2 HR0;obtain⟨o,n0,c0,rfl⟩:=hos.slice;obtain⟨f,rfl⟩:∃f',f=f'+1:=by
   cases f with
   | zero=>have:=bP.o.1;omega
   | succ f=>exact⟨f,rfl⟩
  have HJ:=ae hj;have HF:=ae hf;have HA:=ae ha;have BR:=ae hps;have az:=ae hrs;have cu:=ae hos;have BU:=ae BQ;have xg:=ae hhas;have HG:=ae hg;clear hj hf ha hps hrs hos BQ hhas hg;have zG:=ae az.o.place;have BV:=ae (CE.o j);have ER:=ae (fun w (h:RS b s j w)=>CX.o j w HJ.o h);have FIN:Hd (∀(W:World),RS b s J0 W->w.grownBy W (some b)->(∃L,OS W B (.slice o n0 c0) L/\LOk L 300/\Has L (kJ ts0))->E0=0->Jw b s (E0,J0,ts0) w (.returned (.tuple #[.slice o n0 c0,.int .i64 0])) W):=by
   intro W h1 h2 ⟨L,h3,h4,h5⟩ h6;subst h6;exact⟨o,n0,c0,rfl,h1,h2,fun _=>⟨L,by rw[HB.o.1];exact h3,h4,h5⟩⟩
  by_cases hend:j=s.size
  ·have HST:Hd (l.length<=j\/l[j]?=some 124):=Or.inl (by have:=bP.o.1;omega);rw[decide_eq_true hend]at BV;clear hend;go_wp2_with (go_at_call 108;refine(BV.o _ az.o).mono ?_);rintro e u1 ⟨rfl,n,hn⟩;replace az:Hd (RS b s j u1):=by show RS b s j u1;rw[hn];exact az.o.drew n
   replace cu:Hd (OS u1 B (.slice o n0 c0) L):=by show OS u1 B _ L;rw[hn];exact cu.o
   replace HG:Hd (w.grownBy u1 (some b)):=by show w.grownBy u1 (some b);rw[hn];exact aF HG.o n
   clear hn;go_wp2;obtain⟨rfl,rfl,rfl⟩:E0=0/\J0=j/\ts0=acc:=by have:=BR.o.symm.trans (Ri HST.o);simpa using this
   have hfin:=FIN.o _ az.o HG.o ⟨L,cu.o,BU.o.mono (by have:=HA.o;have:=HJ.o;have:=bP.o.2;omega),xg.o⟩ rfl;exact bodyPost_ret (results_tmp2 (t:=2) (u:=3) rfl _ _ _) rfl hfin
  ·rw[decide_eq_false hend]at BV;have lY:Hd (¬l.length<=j):=by show ¬_;have:=bP.o.1;have:=HJ.o;omega
   clear hend
   by_cases hbar:l[j]?=some 124
   ·have HST:Hd (l.length<=j\/l[j]?=some 124):=Or.inr hbar;rw[decide_eq_true hbar]at ER;clear hbar;go_wp2_with (go_at_call 108;refine(BV.o _ az.o).mono ?_);rintro e u1 ⟨rfl,n,hn⟩;replace az:Hd (RS b s j u1):=by show RS b s j u1;rw[hn];exact az.o.drew n
    replace cu:Hd (OS u1 B (.slice o n0 c0) L):=by show OS u1 B _ L;rw[hn];exact cu.o
    replace HG:Hd (w.grownBy u1 (some b)):=by show w.grownBy u1 (some b);rw[hn];exact aF HG.o n
    clear hn;go_wp2_with (go_at_call 151;refine(ER.o _ az.o).mono ?_);rintro e u2 ⟨rfl,n,hn⟩;replace az:Hd (RS b s j u2):=by show RS b s j u2;rw[hn];exact az.o.drew n
    replace cu:Hd (OS u2 B (.slice o n0 c0) L):=by show OS u2 B _ L;rw[hn];exact cu.o
    replace HG:Hd (w.grownBy u2 (some b)):=by show w.grownBy u2 (some b);rw[hn];exact aF HG.o n
    clear hn;go_wp2;obtain⟨rfl,rfl,rfl⟩:E0=0/\J0=j/\ts0=acc:=by have:=BR.o.symm.trans (Ri HST.o);simpa using this
    have hfin:=FIN.o _ az.o HG.o ⟨L,cu.o,BU.o.mono (by have:=HA.o;have:=HJ.o;have:=bP.o.2;omega),xg.o⟩ rfl;exact bodyPost_ret (results_tmp2 (t:=2) (u:=3) rfl _ _ _) rfl hfin
   ·have HST:Hd (¬(l.length<=j\/l[j]?=some 124)):=fun h=>h.elim lY.o hbar
    rw[decide_eq_false hbar]at ER;clear hbar lY;have wU:=ae (fun w (h:RS b s j w)=>CT.o j w HJ.o h);have dW:=ae (PD l j);have tV:=ae (zF.o j HJ.o);have qN:Hd ((ay l (ax l j).2).2.2.pre.length<=200):=iW.o _;have BAD:Hd (¬(ay l (ax l j).2).1=0->aW l (f+1) j acc=((ay l (ax l j).2).1,(ay l (ax l j).2).2.1,acc)):=fun h=>ach HST.o h
    have LAST:Hd ((ay l (ax l j).2).1=0->¬(ay l (ax l j).2).2.1<aj l (ay l (ax l j).2).2.1->aW l (f+1) j acc=(0,aj l (ay l (ax l j).2).2.1,acc++[⟨fP (ax l j).1,(ay l (ax l j).2).2.2⟩])):=fun h1 h2=>acj HST.o h1 h2
    have MORE:Hd ((ay l (ax l j).2).1=0->(ay l (ax l j).2).2.1<aj l (ay l (ax l j).2).2.1->¬(((ax l j).1<0/\acc=[])/\l[aj l (ay l (ax l j).2).2.1]?=some 45)->aW l (f+1) j acc=aW l f (aj l (ay l (ax l j).2).2.1) (acc++[⟨fP (ax l j).1,(ay l (ax l j).2).2.2⟩])):=fun h1 h2 h3=>ack HST.o h1 h2 h3
    have BTW:Hd ((ay l (ax l j).2).1=0->((ax l j).1<0/\acc=[])/\(ay l (ax l j).2).2.1<aj l (ay l (ax l j).2).2.1/\l[aj l (ay l (ax l j).2).2.1]?=some 45->(aW l (f+1) j acc).1=zC l (aj l (ay l (ax l j).2).2.1+1)/\(aW l (f+1) j acc).2.1=zD l (aj l (ay l (ax l j).2).2.1+1)/\((aW l (f+1) j acc).1=0->(aW l (f+1) j acc).2.2=[⟨7,(ay l (ax l j).2).2.2⟩,⟨2,(ay l (aj l (aj l (ay l (ax l j).2).2.1+1))).2.2⟩]/\(ay l (aj l (aj l (ay l (ax l j).2).2.1+1))).1=0)):=fun h1 h2=>aci HST.o h1 h2
    obtain⟨sg,j1,hsg⟩:∃sg j1,ax l j=(sg,j1):=⟨_,_,rfl⟩;rw[hsg]at wU dW tV qN BAD LAST MORE BTW;simp only[]at wU dW tV qN BAD LAST MORE BTW;obtain⟨E,J,p,hR⟩:∃E J p,ay l j1=(E,J,p):=⟨_,_,_,rfl⟩;rw[hR]at wU tV qN BAD LAST MORE BTW;simp only[]at tV qN BAD LAST MORE BTW;rw[BR.o]at BAD LAST MORE BTW;simp only[]at BTW;clear hsg hR HST;go_wp2_with (go_at_call 108;refine(BV.o _ az.o).mono ?_);rintro e u1 ⟨rfl,n,hn⟩;replace az:Hd (RS b s j u1):=by show RS b s j u1;rw[hn];exact az.o.drew n
    replace cu:Hd (OS u1 B (.slice o n0 c0) L):=by show OS u1 B _ L;rw[hn];exact cu.o
    replace HG:Hd (w.grownBy u1 (some b)):=by show w.grownBy u1 (some b);rw[hn];exact aF HG.o n
    clear hn;go_wp2_with (go_at_call 151;refine(ER.o _ az.o).mono ?_);rintro e u2 ⟨rfl,n,hn⟩;replace az:Hd (RS b s j u2):=by show RS b s j u2;rw[hn];exact az.o.drew n
    replace cu:Hd (OS u2 B (.slice o n0 c0) L):=by show OS u2 B _ L;rw[hn];exact cu.o
    replace HG:Hd (w.grownBy u2 (some b)):=by show w.grownBy u2 (some b);rw[hn];exact aF HG.o n
    clear hn;go_wp2_with (first|(go_at_call 152;refine(wU.o _ az.o).mono ?_));rintro e u3 ⟨T,x1,x2,x3,P,n,rfl,hT,hr,hg,hok⟩;replace az:Hd (RS b s J u3):=hr;have dH:Hd (E=0->uT x1 x2 x3 P n=jT p):=hok;replace cu:=ae (cu.o.growb hg HB.o.2);replace HG:=ae (ah HG.o hg);have HT:=ae hT;obtain⟨F,hF⟩:=zN (nH sg);have qU:=ae hF;rw[hF];obtain⟨D,hD⟩:=zN (u3.heap.size);obtain⟨W0,hW0⟩:=zN (u3.alloc (.cells #[.string ⟨#[]⟩,.nilFunc,.int .i64 0,.int .i64 0,.int .i64 0,.string ⟨#[]⟩,.string ⟨#[]⟩,.int .i64 0] 229));have HD0:Hd (TB D (.string ⟨#[]⟩) .nilFunc 0 0 0 ⟨#[]⟩ 0 W0):=by
     show TB D _ _ 0 0 0 _ 0 W0;unfold TB;rw[<-hW0,<-hD];exact heap_alloc_new u3 _
    have hgW:u3.grownBy W0 none:=by rw[<-hW0];exact au (ak u3 none) _
    have lF:Hd (B<=D/\b≠D):=by have h1:=HG.o.size;have h2:=HB.o;rw[h2.1,hD]at h1;exact⟨h1,by omega⟩
    have bM:Hd (u3.grownBy W0 none/\u3.heap.size<=D):=⟨hgW,Nat.le_of_eq hD⟩;obtain⟨k0,k1,k2,k3,k4,k5,k6,k7⟩:=HD0.o.cells;have kf:=HD0.o.f;have stf:∀(a:Addr) (m:Mode) (w:World),(store a (.func (.func F) #[] #[]) m).run prog w=stored prog w a (.func (.func F) #[] #[]) m:=fun a m w=>run_store prog w a _ m rfl
    clear hr hg hok hT hF hgW
    cases hz:(E == 0) with
    | false =>
     have hE0:¬E=0:=by simpa using hz
     have HB2:=ae (BAD.o hE0);have jP:=ae hE0;clear hE0;go_wp2;refine bodyPost_ret (results_tmp2 (t:=2) (u:=3) rfl _ _ _) rfl ?_;rw[HB2.o];exact⟨_,_,_,rfl,qR (az.o.grow bM.o.1) lF.o.2 _ _ _ _ _ _ _,ah HG.o (bH (Jv bM.o.1 bM.o.2 _ _ _ _ _ _ _) _),fun h=>absurd h jP.o⟩
    | true =>
     have hE0:E=0:=by simpa using hz
     subst hE0;obtain⟨hp1,hp2,hp3⟩:=tV.o rfl;have HP:Hd (j<J/\J<=s.size/\ed p):=⟨hp1,hp2,hp3⟩;have xh:=ae (fun w (h:RS b s J w)=>CB.o J w HP.o.2.1 h);have Rj:=ae (dH.o rfl);have HKK:=ae (oG.o J HP.o.2.1);obtain⟨K,hK⟩:=zN (aj l J);rw[hK]at xh HKK LAST MORE BTW;have hcs:=ZB sg dW.o p HP.o.2.2 (by have:=qN.o;omega);rw[qU.o,<-Rj.o]at hcs;obtain⟨s1,hs1⟩:=zN (jE (wR (fP sg) p));have CF:Hd (∀w,Calls prog F #[.agg #[.int .i64 x1,.int .i64 x2,.int .i64 x3,.string P,.string ⟨#[]⟩,.int .i64 n]] w fun e w'=>e=.returned (.agg #[.int .i64 s1.f1,.int .i64 s1.f2,.int .i64 s1.f3,.string s1.f4,.string s1.f5,.int .i64 s1.t1,.int .i64 s1.t2,.int .i64 s1.t3,.string s1.t4,.string s1.t5,.bool s1.o])/\w.grownBy w' none):=fun w=>by rw[<-hs1];exact hcs w
     have hent:∀(args:Array Value) (w:World),(callFunc F args).run prog w=.ok (.enter F args) w:=by rw[<-qU.o];exact acl sg dW.o
     have vG:=ae hs1;have bI:Hd (GOk (wR (fP sg) p) 1000):=ZR _ p HP.o.2.2 1000 (by omega) (by have:=qN.o;omega);have HM1:Hd (LOk [s1] 1):=by show LOk [s1] 1;rw[<-hs1];exact LOk.one bI.o (by omega)
     have CM:=ae (fun w sl sm (h1:SpS w sl L) (h2:SpS w sm [s1])=>abQ sl sm L [s1] (acc.length+1) 1 w h1 h2 BU.o HM1.o (by have:=HA.o;have:=HJ.o;have:=bP.o.2;omega) (by omega));have zH:=ae (fun(M:List Sp) (h:(∀x,eu M x=(eu L x && eu [s1] x)))=>aco xg.o dW.o HP.o.2.2 (by rw[vG.o];exact h));clear hp1 hp2 hp3 hK hcs hs1 hz;obtain⟨ap,hap⟩:=zN (decide (J<K));rw[hap]at xh;have kN:=ae hap;clear hap;go_wp2_with (first|(go_at_call 129;refine(xh.o _ (qR (az.o.grow bM.o.1) lF.o.2 _ _ _ _ _ _ _)).mono ?_));rintro e u4 ⟨rfl,hr,hg⟩;replace az:=ae hr;have sK:=ae ((tC (T:=.string T) (F:=.func (.func F) #[] #[]) HD0.o x1 x2 x3 P n).growb hg (Ne.symm lF.o.2));replace cu:=ae ((cu.o.grow (Jv bM.o.1 bM.o.2 _ _ _ _ _ _ _)).growb hg HB.o.2);replace HG:=ae (ah (ah HG.o (bH (Jv bM.o.1 bM.o.2 _ _ _ _ _ _ _) _)) hg)
     clear hr hg k0 k1 k2 k3 k4 k5 k6 k7 kf stf hW0 hD HD0 bM;obtain⟨k0,k1,k2,k3,k4,k5,k6,k7⟩:=sK.o.cells
     cases hfb:acc.isEmpty with
     | false =>
      have AO:Hd (¬acc=[]):=by show ¬_;intro h;rw[h]at hfb;cases hfb
      cases ap with
      | false =>
       go_wp2_with (first|(refine(CF.o _).mono ?_));rintro e u5 ⟨rfl,hg⟩;replace az:=ae (az.o.grow hg);replace cu:=ae (cu.o.grow hg);replace HG:=ae (ah HG.o (bH hg _));clear hg k0 k1 k2 k3 k4 k5 k6 k7;go_wp2_with (first|(go_at_call 154;refine(CM.o _ _ _ (cu.o.grow (au (ak u5 none) _)).sps (OS.one (base:=0) (s:=s1) (Nat.zero_le _) (heap_alloc_new u5 _)).sps).mono ?_));rintro e u6 ⟨hg,o',n',c',T',rfl,hos,hlk,hnt,hh⟩;have hg':=ah (au (ak u5 none) _) hg;replace az:=ae (az.o.grow hg');have kE:=ae (ah HG.o (bH hg' _));have bG:Hd (OS u6 B (.slice o' n' c') (outs T')):=hos.base (by have h1:=HG.o.size;rw[HB.o.1]at h1;simp;omega);have dA:=ae hlk;have lG:=ae (zH.o _ hh);clear hg hg' hos hlk hnt hh;obtain⟨rfl,rfl,rfl⟩:E0=0/\J0=K/\ts0=acc++[⟨fP sg,p⟩]:=by have:=LAST.o (by first|trivial|rfl) (of_decide_eq_false kN.o);simpa using this
       go_wp2;exact bodyPost_ret (results_tmp2 (t:=2) (u:=3) rfl _ _ _) rfl ⟨_,_,_,rfl,az.o,kE.o,fun _=>⟨outs T',by rw[HB.o.1];exact bG.o,dA.o.mono (by have:=HA.o;have:=HJ.o;have:=bP.o.2;omega),lG.o⟩⟩
      | true =>
       go_wp2_with (first|(refine(CF.o _).mono ?_));rintro e u5 ⟨rfl,hg⟩;replace az:=ae (az.o.grow hg);replace cu:=ae (cu.o.grow hg);replace HG:=ae (ah HG.o (bH hg _));clear hg k0 k1 k2 k3 k4 k5 k6 k7;go_wp2_with (first|(go_at_call 154;refine(CM.o _ _ _ (cu.o.grow (au (ak u5 none) _)).sps (OS.one (base:=0) (s:=s1) (Nat.zero_le _) (heap_alloc_new u5 _)).sps).mono ?_));rintro e u6 ⟨hg,o',n',c',T',rfl,hos,hlk,hnt,hh⟩;have hg':=ah (au (ak u5 none) _) hg;replace az:=ae (az.o.grow hg');have kE:=ae (ah HG.o (bH hg' _));have bG:Hd (OS u6 B (.slice o' n' c') (outs T')):=hos.base (by have h1:=HG.o.size;rw[HB.o.1]at h1;simp;omega);have dA:=ae hlk;have lG:=ae (zH.o _ hh);clear hg hg' hos hlk hnt hh;have bK:=ae (MORE.o (by first|trivial|rfl) (of_decide_eq_true kN.o) (fun h=>AO.o h.1.2))
       go_wp2;go_roundw
       case rel=>exact⟨f,K,acc++[⟨fP sg,p⟩],outs T',by simp,HKK.o.2,by have h1:=HF.o;have h2:=HP.o.1;have h3:=of_decide_eq_true kN.o;omega,by rw[List.length_append];have h1:=HA.o;have h2:=HP.o.1;have h3:=HKK.o.1;simp;omega,bK.o.symm,az.o,bG.o,by rw[List.length_append];exact dA.o,lG.o,kE.o⟩
       case measure =>
        have e1:=zG.o;have e2:=az.o.place;rw[e1];exact Nat.lt_of_le_of_lt (Nat.le_of_eq (congrArg (s.size - ·) e2)) (by have h1:=HP.o.1;have h2:=HKK.o;have h3:=HP.o.2.1;omega)
     | true =>
      cases htb:decide (sg<0) with
      | false =>
       have hte:=HT.o;rw[htb]at hte;have AO:=ae ((of_decide_eq_false htb:¬sg<0));clear htb
       cases ap with
       | false =>
        go_wp2_with (first|(refine(CF.o _).mono ?_));rintro e u5 ⟨rfl,hg⟩;replace az:=ae (az.o.grow hg);replace cu:=ae (cu.o.grow hg);replace HG:=ae (ah HG.o (bH hg _));clear hg k0 k1 k2 k3 k4 k5 k6 k7;go_wp2_with (first|(go_at_call 154;refine(CM.o _ _ _ (cu.o.grow (au (ak u5 none) _)).sps (OS.one (base:=0) (s:=s1) (Nat.zero_le _) (heap_alloc_new u5 _)).sps).mono ?_));rintro e u6 ⟨hg,o',n',c',T',rfl,hos,hlk,hnt,hh⟩;have hg':=ah (au (ak u5 none) _) hg;replace az:=ae (az.o.grow hg');have kE:=ae (ah HG.o (bH hg' _));have bG:Hd (OS u6 B (.slice o' n' c') (outs T')):=hos.base (by have h1:=HG.o.size;rw[HB.o.1]at h1;simp;omega);have dA:=ae hlk;have lG:=ae (zH.o _ hh);clear hg hg' hos hlk hnt hh;obtain⟨rfl,rfl,rfl⟩:E0=0/\J0=K/\ts0=acc++[⟨fP sg,p⟩]:=by have:=LAST.o (by first|trivial|rfl) (of_decide_eq_false kN.o);simpa using this
        go_wp2;exact bodyPost_ret (results_tmp2 (t:=2) (u:=3) rfl _ _ _) rfl ⟨_,_,_,rfl,az.o,kE.o,fun _=>⟨outs T',by rw[HB.o.1];exact bG.o,dA.o.mono (by have:=HA.o;have:=HJ.o;have:=bP.o.2;omega),lG.o⟩⟩
       | true =>
        go_wp2_with (first|(refine(CF.o _).mono ?_));rintro e u5 ⟨rfl,hg⟩;replace az:=ae (az.o.grow hg);replace cu:=ae (cu.o.grow hg);replace HG:=ae (ah HG.o (bH hg _));clear hg k0 k1 k2 k3 k4 k5 k6 k7;go_wp2_with (first|(go_at_call 154;refine(CM.o _ _ _ (cu.o.grow (au (ak u5 none) _)).sps (OS.one (base:=0) (s:=s1) (Nat.zero_le _) (heap_alloc_new u5 _)).sps).mono ?_));rintro e u6 ⟨hg,o',n',c',T',rfl,hos,hlk,hnt,hh⟩;have hg':=ah (au (ak u5 none) _) hg;replace az:=ae (az.o.grow hg');have kE:=ae (ah HG.o (bH hg' _));have bG:Hd (OS u6 B (.slice o' n' c') (outs T')):=hos.base (by have h1:=HG.o.size;rw[HB.o.1]at h1;simp;omega);have dA:=ae hlk;have lG:=ae (zH.o _ hh);clear hg hg' hos hlk hnt hh;have bK:=ae (MORE.o (by first|trivial|rfl) (of_decide_eq_true kN.o) (fun h=>by have h1:=AO.o;have h2:=h.1.1;omega))
        go_wp2;go_roundw
        case rel=>exact⟨f,K,acc++[⟨fP sg,p⟩],outs T',by simp,HKK.o.2,by have h1:=HF.o;have h2:=HP.o.1;have h3:=of_decide_eq_true kN.o;omega,by rw[List.length_append];have h1:=HA.o;have h2:=HP.o.1;have h3:=HKK.o.1;simp;omega,bK.o.symm,az.o,bG.o,by rw[List.length_append];exact dA.o,lG.o,kE.o⟩
        case measure =>
         have e1:=zG.o;have e2:=az.o.place;rw[e1];exact Nat.lt_of_le_of_lt (Nat.le_of_eq (congrArg (s.size - ·) e2)) (by have h1:=HP.o.1;have h2:=HKK.o;have h3:=HP.o.2.1;omega)
      | true =>
       have hte:=HT.o;rw[htb]at hte;have fO:=ae ((of_decide_eq_true htb:sg<0));have HEM:Hd (acc=[]):=by show acc=[];simpa using hfb
       clear htb
       cases ap with
       | false =>
        go_wp2_with (first|(refine(CF.o _).mono ?_));rintro e u5 ⟨rfl,hg⟩;replace az:=ae (az.o.grow hg);replace cu:=ae (cu.o.grow hg);replace HG:=ae (ah HG.o (bH hg _));clear hg k0 k1 k2 k3 k4 k5 k6 k7;go_wp2_with (first|(go_at_call 154;refine(CM.o _ _ _ (cu.o.grow (au (ak u5 none) _)).sps (OS.one (base:=0) (s:=s1) (Nat.zero_le _) (heap_alloc_new u5 _)).sps).mono ?_));rintro e u6 ⟨hg,o',n',c',T',rfl,hos,hlk,hnt,hh⟩;have hg':=ah (au (ak u5 none) _) hg;replace az:=ae (az.o.grow hg');have kE:=ae (ah HG.o (bH hg' _));have bG:Hd (OS u6 B (.slice o' n' c') (outs T')):=hos.base (by have h1:=HG.o.size;rw[HB.o.1]at h1;simp;omega);have dA:=ae hlk;have lG:=ae (zH.o _ hh);clear hg hg' hos hlk hnt hh;obtain⟨rfl,rfl,rfl⟩:E0=0/\J0=K/\ts0=acc++[⟨fP sg,p⟩]:=by have:=LAST.o (by first|trivial|rfl) (of_decide_eq_false kN.o);simpa using this
        go_wp2;exact bodyPost_ret (results_tmp2 (t:=2) (u:=3) rfl _ _ _) rfl ⟨_,_,_,rfl,az.o,kE.o,fun _=>⟨outs T',by rw[HB.o.1];exact bG.o,dA.o.mono (by have:=HA.o;have:=HJ.o;have:=bP.o.2;omega),lG.o⟩⟩
       | true =>
        cases lJ:decide (l[K]?=some 45) with
        | false =>
         have uO:=ae ((of_decide_eq_false lJ:¬l[K]?=some 45));clear lJ;have TNK:=ae (fun w (h:RS b s K w)=>TN.o K w HKK.o.2 uO.o h);go_wp2_with (first|(go_at_call 130;refine(TNK.o _ az.o).mono ?_));rintro e u7 ⟨rfl,hr,hg⟩;replace az:=ae hr;replace sK:=ae (sK.o.growb hg (Ne.symm lF.o.2));replace cu:=ae (cu.o.growb hg HB.o.2);replace HG:=ae (ah HG.o hg);clear hr hg k0 k1 k2 k3 k4 k5 k6 k7;obtain⟨k0,k1,k2,k3,k4,k5,k6,k7⟩:=sK.o.cells;go_wp2_with (first|(refine(CF.o _).mono ?_));rintro e u5 ⟨rfl,hg⟩;replace az:=ae (az.o.grow hg);replace cu:=ae (cu.o.grow hg);replace HG:=ae (ah HG.o (bH hg _));clear hg k0 k1 k2 k3 k4 k5 k6 k7;go_wp2_with (go_at_call 154;refine(CM.o _ _ _ (cu.o.grow (au (ak u5 none) _)).sps (OS.one (base:=0) (s:=s1) (Nat.zero_le _) (heap_alloc_new u5 _)).sps).mono ?_)
         rintro e u6 ⟨hg,o',n',c',T',rfl,hos,hlk,hnt,hh⟩;have hg':=ah (au (ak u5 none) _) hg;replace az:=ae (az.o.grow hg');have kE:=ae (ah HG.o (bH hg' _));have bG:Hd (OS u6 B (.slice o' n' c') (outs T')):=hos.base (by have h1:=HG.o.size;rw[HB.o.1]at h1;simp;omega);have dA:=ae hlk;have lG:=ae (zH.o _ hh);clear hg hg' hos hlk hnt hh;have bK:=ae (MORE.o (by first|trivial|rfl) (of_decide_eq_true kN.o) (fun h=>uO.o h.2));go_wp2;go_roundw
         case rel=>exact⟨f,K,acc++[⟨fP sg,p⟩],outs T',by simp,HKK.o.2,by have h1:=HF.o;have h2:=HP.o.1;have h3:=of_decide_eq_true kN.o;omega,by rw[List.length_append];have h1:=HA.o;have h2:=HP.o.1;have h3:=HKK.o.1;simp;omega,bK.o.symm,az.o,bG.o,by rw[List.length_append];exact dA.o,lG.o,kE.o⟩
         case measure =>
          have e1:=zG.o;have e2:=az.o.place;rw[e1];exact Nat.lt_of_le_of_lt (Nat.le_of_eq (congrArg (s.size - ·) e2)) (by have h1:=HP.o.1;have h2:=HKK.o;have h3:=HP.o.2.1;omega)
        | true =>
         have zI:=ae ((of_decide_eq_true lJ:l[K]?=some 45));clear lJ;have TYK:=ae (fun w (h:RS b s K w)=>TY.o K w zI.o h);have fQ:Hd (K+1<=s.size):=by have:=jS zI.o;rw[bP.o.1]at this;exact this
         go_wp2_with (first|(go_at_call 130;refine(TYK.o _ az.o).mono ?_));rintro e u7 ⟨rfl,hr,hg⟩;replace az:=ae hr;replace sK:=ae (sK.o.growb hg (Ne.symm lF.o.2));replace HG:=ae (ah HG.o hg);clear hr hg k0 k1 k2 k3 k4 k5 k6 k7;obtain⟨k0,k1,k2,k3,k4,k5,k6,k7⟩:=sK.o.cells;obtain⟨hb1,hb2,hb3⟩:=BTW.o (by first|trivial|rfl) ⟨⟨fO.o,HEM.o⟩,of_decide_eq_true kN.o,zI.o⟩;have CBK:Hd (∀w,RS b s (K+1) w->Calls prog 153 #[.pointer (some ⟨b,0,none⟩),.agg #[.int .i64 x1,.int .i64 x2,.int .i64 x3,.string P,.string ⟨#[]⟩,.int .i64 n]] w (Jq b s E0 J0 (uS p (ay l (aj l (K+1))).2.2) w)):=fun w h=>by rw[hb1,hb2];exact CBT.o (K+1) p x1 x2 x3 P n w Rj.o fQ.o h
         have acr:=ae hb3;have Rk:=ae (Es l _ (by rw[bP.o.1];exact(oG.o (K+1) fQ.o).2));clear hb1 hb2 hb3;go_wp2_with (first|(go_at_call 153;refine(CBK.o _ az.o).mono ?_));rintro e u8 ⟨o',n',c',rfl,hr,hg,hok⟩;have HR8:=ae hr;have HG8:=ae (ah HG.o hg);have HO8:=ae (fun(h:E0=0)=>(hok h).base (by have:=HG.o.size;rw[HB.o.1]at this;exact this));clear hr hg hok;go_wp2;refine bodyPost_ret (results_tmp2 (t:=2) (u:=3) rfl _ _ _) rfl ⟨_,_,_,rfl,HR8.o,HG8.o,fun h=>?_⟩;obtain⟨q1,q2⟩:=acr.o h;refine⟨_,by rw[HB.o.1];exact HO8.o h,(LOk.one (ZT p _ HP.o.2.2 (Rk.o q2) 1000 (by omega) (by have:=qN.o;omega) (by have:=iW.o (aj l (K+1));omega)) (by omega)).mono (by omega),?_⟩;show Has _ (kJ ts0);rw[q1];exact acp HP.o.2.2 (Rk.o q2)
open Go.RowKit
theorem acs{l:List UInt8}{f i:Nat}{acc:List (List Te)}(h:¬(aW l (l.length+1) (aj l i) []).1=0):iy l (f+1) i acc=((aW l (l.length+1) (aj l i) []).1,(aW l (l.length+1) (aj l i) []).2.1,acc):=by
 have e:jD l i=aW l (l.length+1) (aj l i) []:=by unfold jD after;rw[if_neg h]
 rw[iy,e,if_neg h]
theorem Jy{l:List UInt8}{i:Nat}(h:(aW l (l.length+1) (aj l i) []).1=0):jD l i=if dD l (aj l (aW l (l.length+1) (aj l i) []).2.1)=true then(0,aj l (aW l (l.length+1) (aj l i) []).2.1,(aW l (l.length+1) (aj l i) []).2.2) else(2,aj l (aW l (l.length+1) (aj l i) []).2.1,(aW l (l.length+1) (aj l i) []).2.2):=by
 unfold jD after;rw[if_pos h]
theorem acu{l:List UInt8}{f i:Nat}{acc:List (List Te)}(h:(aW l (l.length+1) (aj l i) []).1=0)(hl:l.length<=aj l (aW l (l.length+1) (aj l i) []).2.1) :
  iy l (f+1) i acc=(0,aj l (aW l (l.length+1) (aj l i) []).2.1,acc++[(aW l (l.length+1) (aj l i) []).2.2]):=by
 have he:dD l (aj l (aW l (l.length+1) (aj l i) []).2.1)=true:=by unfold dD;rw[decide_eq_true hl];rfl
 have e:=Jy h;rw[if_pos he]at e;rw[iy,e,if_pos rfl];simp only[];rw[if_pos hl]
theorem acv{l:List UInt8}{f i:Nat}{acc:List (List Te)}(h:(aW l (l.length+1) (aj l i) []).1=0)(hl:¬l.length<=aj l (aW l (l.length+1) (aj l i) []).2.1)(hb:¬jC l (aj l (aW l (l.length+1) (aj l i) []).2.1)=true) :
  iy l (f+1) i acc=(2,aj l (aW l (l.length+1) (aj l i) []).2.1,acc):=by
 have he:¬dD l (aj l (aW l (l.length+1) (aj l i) []).2.1)=true:=by
  unfold dD;rw[decide_eq_false hl];simpa using hb
 have e:=Jy h;rw[if_neg he]at e;rw[iy,e,if_neg (by simp)]
theorem acw{l:List UInt8}{f i:Nat}{acc:List (List Te)}(h:(aW l (l.length+1) (aj l i) []).1=0)(hl:¬l.length<=aj l (aW l (l.length+1) (aj l i) []).2.1)(hb:jC l (aj l (aW l (l.length+1) (aj l i) []).2.1)=true) :
  iy l (f+1) i acc=iy l f (aj l (aW l (l.length+1) (aj l i) []).2.1+2) (acc++[(aW l (l.length+1) (aj l i) []).2.2]):=by
 have he:dD l (aj l (aW l (l.length+1) (aj l i) []).2.1)=true:=by unfold dD;rw[hb];simp
 have e:=Jy h;rw[if_pos he]at e;rw[iy,e,if_pos rfl];simp only[];rw[if_neg hl]
theorem Jz{w:World}{base g:Nat}{e:TypeId}{size n cap:Nat}{xs:List Value}(h:w.ownsRow base e size (.slice (some ⟨g,0,none⟩) n cap) n xs):∀j u,xs[j]?=some u->w.cell? ((⟨g,0,none⟩:Addr).add j)=some u:=by
 intro j u hu
 rcases h.2 with⟨h1,_⟩|⟨g',cap',cur,hv,hb,hc,h3,h4,h5,h6⟩
 ·cases h1
 ·simp only[Value.slice.injEq,Option.some.injEq,Addr.mk.injEq]at hv;obtain⟨⟨rfl,_,_⟩,_,_⟩:=hv;rw[AL,cell_of_row w g j cur e (0,0) hc];rw[<-h6,List.getElem?_take]at hu;split at hu
  ·simpa using hu
  ·cases hu
theorem acx(L:List Sp):∀u∈L.flatMap fA,u.oneCell'=true:=by
 intro u hu;obtain⟨s,_,hs⟩:=List.mem_flatMap.1 hu;exact Ns s u hs
theorem vH{w wa wb:World}{row:Option Nat}{b:Nat}(h:w.grownBy wa (some b))(hg:wa.grownBy wb row)(hr:∀q,row=some q->w.heap.size<=q):w.grownBy wb (some b) :=
 ⟨hg.os.trans h.os,hg.tape.trans h.tape,hg.output.trans h.output,Nat.le_trans h.size hg.size,fun k hk hn=>(hg.block k (Nat.lt_of_lt_of_le hk h.size) (fun e=>by have:=hr k e.symm;omega)).trans (h.block k hk hn)⟩
theorem RS.growr{b:Nat}{s:ByteArray}{i:Nat}{w w':World}{row:Option Nat}(h:RS b s i w)(hg:w.grownBy w' row)(hn:some b≠row):RS b s i w':=by
 obtain⟨t,h⟩:=h;exact⟨t,by rw[hg.block b ((aA h)) hn];exact h⟩
theorem OS.far{w:World}{base:Nat}{sl:Value}{L:List Sp}(h:OS w base sl L):∀q,sl.ownBlock=some q->base<=q:=by
 intro q hq
 rcases h.2 with⟨h1,_⟩|⟨g,cap,cur,hv,hb,_⟩
 ·rw[h1]at hq;cases hq
 ·rw[hv]at hq;simp only[Value.ownBlock,Option.some.injEq]at hq;omega
def acy(b:Nat)(s:ByteArray)(R:Int × Nat × List (List Te))(w:World)(e:Ending)(w':World):Prop :=
 ∃(o:Option Addr) (n c:Nat),e=.returned (.tuple #[.slice o n c,.int .i64 R.1])/\RS b s R.2.1 w'/\w.grownBy w' (some b)/\(R.1=0->∃L,OS w' w.heap.size (.slice o n c) L/\LOk L 70000/\Has L (iZ R.2.2))
theorem acz:Has [] (iZ []):=fun v _=>rfl
theorem acA{L M:List Sp}{S:List (List Te)}{ts:List Te}(h:Has L (iZ S))(h':Has M (kJ ts)):Has (L++M) (iZ (S++[ts])):=fun v hv=>by rw[ZV,h v hv,h' v hv,ZO]
theorem acB(b:Nat)(s:ByteArray)(w:World)(h:RS b s 0 w)(hs:s.size<=200) :
  Calls prog 104 #[.pointer (some ⟨b,0,none⟩)] w (acy b s (iy s.data.toList (s.data.toList.length+1) 0 []) w):=by
 obtain⟨l,hl⟩:=zN (s.data.toList);have hll:l.length=s.size:=by rw[<-hl];simp
 have bP:Hd (l.length=s.size/\s.size<=200):=⟨hll,hs⟩;have CS:Hd (∀i w,i<=s.size->RS b s i w->Calls prog 128 #[.pointer (some ⟨b,0,none⟩)] w (Jw b s (aW l (l.length+1) (aj l i) []) w)):=fun i w hi h=>by rw[<-hl];exact set_any b s i w hi h hs
 have CB:Hd (∀i w,i<=s.size->RS b s i w->Calls prog 129 #[.pointer (some ⟨b,0,none⟩)] w fun e w'=>e=.returned (.bool (decide (i<aj l i)))/\RS b s (aj l i) w'/\w.grownBy w' (some b)):=fun i w hi h=>by rw[<-hl];exact Ip b s i w hi h (by omega)
 have CE:=ae (DL b s);have CT:Hd (∀i w,i<=s.size->RS b s i w->Calls prog 130 #[.pointer (some ⟨b,0,none⟩),.string ⟨#[124,124]⟩] w fun e w'=>e=.returned (.bool (jC l i))/\RS b s (if jC l i=true then i+2 else i) w'/\w.grownBy w' (some b)):=fun i w hi h=>by
  have:=take_any b s ⟨#[124,124]⟩ i w hi h (by omega) (by show 2 < _;decide);rw[show(ByteArray.mk #[124,124]).data.toList=[124,124] from rfl,fH,hl]at this;exact this
 have oG:Hd (∀i,i<=s.size->i<=aj l i/\aj l i<=s.size):=fun i hi=>⟨pz l i,by have:=oC l i (by rw[hll];exact hi);rw[hll]at this;exact this⟩
 have jO:Hd (∀i,i<=s.size->(aW l (l.length+1) (aj l i) []).1=0->i<=(aW l (l.length+1) (aj l i) []).2.1/\(aW l (l.length+1) (aj l i) []).2.1<=s.size):=fun i hi h0=>by
  have h1:=oG.o i hi;have h2:=Ir l (l.length+1) (aj l i) [] (by rw[hll];exact h1.2) h0;exact⟨by omega,by rw[<-hll];exact h2.2⟩
 have HI:=ae h;have qK:Hd (b<w.heap.size):=by obtain⟨t,h⟩:=h;exact(aA h)
 rw[hl];obtain⟨E0,J0,S0,hR⟩:∃E0 J0 S0,iy l (l.length+1) 0 []=(E0,J0,S0):=⟨_,_,_,rfl⟩;have HR0:=ae hR;rw[hR];obtain⟨B,hB⟩:=zN (w.heap.size);have HB:Hd (w.heap.size=B/\b<B):=⟨hB,by rw[<-hB];exact qK.o⟩;clear hl hll hR h hs hB;go_enter func104,ntmps104;go_wp2;go_loopw [4] (fun va wr=>∃(f j:Nat) (acc:List (List Te)) (L:List Sp),j<=s.size/\l.length<f+j/\acc.length<=j/\iy l f j acc=(E0,J0,S0)/\RS b s j wr/\OS wr B va L/\LOk L (300*acc.length)/\Has L (iZ acc)/\w.grownBy wr (some b)) (fun _ wr=>s.size-placeOf b wr)
 case atStart=>exact⟨l.length+1,0,[],[],Nat.zero_le _,by omega,Nat.le_refl _,HR0.o,HI.o,OS.emp _ _,⟨rfl,fun s hs=>(by cases hs),Nat.le_refl _⟩,acz,ak _ _⟩
 case round =>
  obtain⟨f,j,acc,L,hj,hf,ha,hps,hrs,hos,BQ,hhas,hg⟩:=hrel;clear HI HR0;obtain⟨o,n0,c0,rfl⟩:=hos.slice;obtain⟨f,rfl⟩:∃f',f=f'+1:=by
   cases f with
   | zero=>have:=bP.o.1;omega
   | succ f=>exact⟨f,rfl⟩
  have HJ:=ae hj;have HF:=ae hf;have HA:=ae ha;have BR:=ae hps;have az:=ae hrs;have zG:=ae hrs.place;have cu:=ae hos;have BU:=ae BQ;have xg:=ae hhas;have HG:=ae hg;clear hj hf ha hps hrs hos BQ hhas hg;have Rl:=ae (fun w (h:RS b s j w)=>CS.o j w HJ.o h);have tV:=ae (jO.o j HJ.o);have BAD:Hd (¬(aW l (l.length+1) (aj l j) []).1=0->iy l (f+1) j acc=((aW l (l.length+1) (aj l j) []).1,(aW l (l.length+1) (aj l j) []).2.1,acc)):=fun h=>acs h
  have LAST:Hd ((aW l (l.length+1) (aj l j) []).1=0->l.length<=aj l (aW l (l.length+1) (aj l j) []).2.1->iy l (f+1) j acc=(0,aj l (aW l (l.length+1) (aj l j) []).2.1,acc++[(aW l (l.length+1) (aj l j) []).2.2])):=fun h h1=>acu h h1
  have TXT:Hd ((aW l (l.length+1) (aj l j) []).1=0->¬l.length<=aj l (aW l (l.length+1) (aj l j) []).2.1->¬jC l (aj l (aW l (l.length+1) (aj l j) []).2.1)=true->iy l (f+1) j acc=(2,aj l (aW l (l.length+1) (aj l j) []).2.1,acc)):=fun h h1 h2=>acv h h1 h2
  have MORE:Hd ((aW l (l.length+1) (aj l j) []).1=0->¬l.length<=aj l (aW l (l.length+1) (aj l j) []).2.1->jC l (aj l (aW l (l.length+1) (aj l j) []).2.1)=true->iy l (f+1) j acc=iy l f (aj l (aW l (l.length+1) (aj l j) []).2.1+2) (acc++[(aW l (l.length+1) (aj l j) []).2.2])):=fun h h1 h2=>acw h h1 h2
  obtain⟨E,J,ts,hR⟩:∃E J ts,aW l (l.length+1) (aj l j) []=(E,J,ts):=⟨_,_,_,rfl⟩;rw[hR]at Rl tV BAD LAST TXT MORE;simp only[]at tV BAD LAST TXT MORE;rw[BR.o]at BAD LAST TXT MORE;clear hR;go_wp2_with (go_at_call 128;refine(Rl.o _ az.o).mono ?_);rintro e u1 ⟨o1,n1,c1,rfl,hr,hg,hok⟩;replace az:Hd (RS b s J u1):=hr;replace cu:=ae (cu.o.growb hg HB.o.2);have Ji:Hd (B<=wr.heap.size):=by have:=HG.o.size;rw[HB.o.1]at this;exact this
  replace HG:=ae (ah HG.o hg);have dH:Hd (E=0->∃L,OS u1 B (.slice o1 n1 c1) L/\LOk L 300/\Has L (kJ ts)):=fun h0=>by
   obtain⟨L1,h1,h2,h3⟩:=hok h0;exact⟨L1,h1.base Ji.o,h2,h3⟩
  clear hr hg hok
  cases hz:(E == 0) with
  | false =>
   have hE0:¬E=0:=by simpa using hz
   have HB2:=ae (BAD.o hE0);have jP:=ae hE0;clear hE0;go_wp2;refine bodyPost_ret (results_tmp2 (t:=2) (u:=3) rfl _ _ _) rfl ?_;rw[HB2.o];exact⟨_,_,_,rfl,az.o,HG.o,fun h=>absurd h jP.o⟩
  | true =>
   have hE0:E=0:=by simpa using hz
   subst hE0;obtain⟨hp1,hp2⟩:=tV.o rfl;have HP:Hd (j<=J/\J<=s.size):=⟨hp1,hp2⟩;obtain⟨L1,ho1,hl1,hh1⟩:=dH.o rfl;have dC:=ae ho1;have jw:Hd (n1=L1.length/\n0=L.length):=by
    constructor
    ·rcases ho1.2 with⟨h1,h2⟩|⟨g,cap,cur,hv,_⟩
     ·cases h1;exact h2.symm
     ·cases hv;rfl
    ·rcases cu.o.2 with⟨h1,h2⟩|⟨g,cap,cur,hv,_⟩
     ·cases h1;exact h2.symm
     ·cases hv;rfl
   have dA:Hd (LOk (L++L1) (300*(acc++[ts]).length)):=by
    have:=BU.o.app hl1;refine this.mono ?_;rw[List.length_append];simp;omega
   have lG:=ae (acA xg.o hh1);have xh:=ae (fun w (h:RS b s J w)=>CB.o J w HP.o.2 h);have HKK:=ae (oG.o J HP.o.2);obtain⟨K,hK⟩:=zN (aj l J);rw[hK]at xh HKK LAST TXT MORE;clear hp1 hp2 hK hz ho1 hl1 hh1 dH;have hinfo:=Nr;obtain⟨i1,hj0,hjj⟩:=Option.map_eq_some_iff.1 hinfo;have hy0:i1.zero=some (.agg #[.int .i64 0,.int .i64 0,.int .i64 0,.string ⟨#[]⟩,.string ⟨#[]⟩,.int .i64 0,.int .i64 0,.int .i64 0,.string ⟨#[]⟩,.string ⟨#[]⟩,.bool false]):=congrArg (·.1) hjj;have hy1:i1.size=11:=congrArg (·.2.1) hjj;have hyb:i1.bytes=120:=congrArg (·.2.2) hjj;clear hjj hinfo;have Rn:Hd (L.length+L1.length<=70000):=by
    have h1:=dA.o.ln;have h2:=HA.o;have h3:=HJ.o;have h4:=bP.o.2;rw[List.length_append,List.length_append]at h1;show _<=_;simp at h1;omega
   have hfm:=dC.o.2
   rcases hfm with⟨h1,h2⟩|⟨g,cap,cur,hv,_⟩
   ·simp only[Value.slice.injEq]at h1;obtain⟨rfl,rfl,rfl⟩:=h1;have hL1:=List.length_eq_zero_iff.1 h2;have bG:Hd (OS u1 B (.slice o n0 c0) (L++L1)):=by show OS u1 B _ _;rw[hL1,List.append_nil];exact cu.o
    clear h2 hL1;go_wp2_with (first|(at_builtin;refine wpList_append_own_none rfl _ _ 142 rfl B 181 i1 11 underlying142 hj0 _ _ _ rfl cu.o rfl ?_));clear hj0 hy0 hy1 hyb;obtain⟨o2,n2,c2,hva⟩:=bG.o.slice;rw[hva]at bG
    try rw[hva]
    clear hva;go_wp2_with (go_at_call 129;refine(xh.o _ az.o).mono ?_);rintro e u3 ⟨rfl,hr,hg⟩;replace az:=ae hr;replace bG:=ae (bG.o.growb hg HB.o.2);replace HG:=ae (ah HG.o hg);clear hr hg;have tX:=ae (CE.o K);have nJ:=ae (fun w (h:RS b s K w)=>CT.o K w HKK.o.2 h)
    cases hend:decide (K=s.size) with
    | true =>
     rw[hend]at tX;have hke:=of_decide_eq_true hend;obtain⟨rfl,rfl,rfl⟩:E0=0/\J0=K/\S0=acc++[ts]:=by have:=LAST.o (by first|trivial|rfl) (by have:=bP.o.1;omega);simpa using this
     clear hend hke;go_wp2_with (go_at_call 108;refine(tX.o _ az.o).mono ?_);rintro e u4 ⟨rfl,n,hn⟩;replace az:Hd (RS b s J0 u4):=by show RS b s J0 u4;rw[hn];exact az.o.drew n
     replace bG:Hd (OS u4 B (.slice o2 n2 c2) (L++L1)):=by show OS u4 B _ _;rw[hn];exact bG.o
     replace HG:Hd (w.grownBy u4 (some b)):=by show w.grownBy u4 (some b);rw[hn];exact aF HG.o n
     clear hn;go_wp2;exact bodyPost_ret (results_tmp2 (t:=2) (u:=3) rfl _ _ _) rfl ⟨_,_,_,rfl,az.o,HG.o,fun _=>⟨L++L1,by rw[HB.o.1];exact bG.o,dA.o.mono (by rw[List.length_append];have h2:=HA.o;have h3:=HJ.o;have h4:=bP.o.2;simp;omega),lG.o⟩⟩
    | false =>
     rw[hend]at tX;have lY:Hd (¬l.length<=K):=by show ¬_;have:=of_decide_eq_false hend;have:=bP.o.1;have:=HKK.o.2;omega
     clear hend;go_wp2_with (go_at_call 108;refine(tX.o _ az.o).mono ?_);rintro e u4 ⟨rfl,n,hn⟩;replace az:Hd (RS b s K u4):=by show RS b s K u4;rw[hn];exact az.o.drew n
     replace bG:Hd (OS u4 B (.slice o2 n2 c2) (L++L1)):=by show OS u4 B _ _;rw[hn];exact bG.o
     replace HG:Hd (w.grownBy u4 (some b)):=by show w.grownBy u4 (some b);rw[hn];exact aF HG.o n
     clear hn
     cases hbar:jC l K with
     | true =>
      rw[hbar]at nJ;have JA:Hd (∀w,RS b s K w->Calls prog 130 #[.pointer (some ⟨b,0,none⟩),.string ⟨#[124,124]⟩] w fun e w'=>e=.returned (.bool true)/\RS b s (K+2) w'/\w.grownBy w' (some b)):=nJ.o;have bK:=ae (MORE.o (by first|trivial|rfl) lY.o hbar);have fZ:Hd (K+2<=s.size):=by have:=Eu l K hbar;rw[bP.o.1]at this;exact this
      clear hbar nJ;go_wp2_with (go_at_call 130;refine(JA.o _ az.o).mono ?_);rintro e u5 ⟨rfl,hr,hg⟩;replace az:=ae hr;replace bG:=ae (bG.o.growb hg HB.o.2);replace HG:=ae (ah HG.o hg);clear hr hg;go_wp2;go_roundw
      case rel=>exact⟨f,K+2,acc++[ts],L++L1,fZ.o,by have h1:=HF.o;have h2:=HP.o.1;have h3:=HKK.o.1;omega,by rw[List.length_append];have h1:=HA.o;have h2:=HP.o.1;have h3:=HKK.o.1;simp;omega,bK.o.symm,az.o,bG.o,dA.o,lG.o,HG.o⟩
      case measure =>
       have e1:=zG.o;have e2:=az.o.place;rw[e1];exact Nat.lt_of_le_of_lt (Nat.le_of_eq (congrArg (s.size - ·) e2)) (by have h1:=HP.o;have h2:=HKK.o;have h3:=fZ.o;omega)
     | false =>
      rw[hbar]at nJ;have JB:Hd (∀w,RS b s K w->Calls prog 130 #[.pointer (some ⟨b,0,none⟩),.string ⟨#[124,124]⟩] w fun e w'=>e=.returned (.bool false)/\RS b s K w'/\w.grownBy w' (some b)):=nJ.o;have bK:=ae (TXT.o (by first|trivial|rfl) lY.o (by rw[hbar];decide));clear hbar nJ;go_wp2_with (go_at_call 130;refine(JB.o _ az.o).mono ?_);rintro e u5 ⟨rfl,hr,hg⟩;replace az:=ae hr;replace HG:=ae (ah HG.o hg);clear hr hg;go_wp2;refine bodyPost_ret (results_tmp2 (t:=2) (u:=3) rfl _ _ _) rfl ?_;rw[bK.o];exact⟨_,_,_,rfl,az.o,HG.o,fun h=>absurd h (by simp)⟩
   ·simp only[Value.slice.injEq]at hv;obtain⟨rfl,hn1,rfl⟩:=hv;subst hn1;go_wp2_with (first|(at_builtin;refine wpList_append_own _ rfl _ _ 142 rfl B 181 i1 _ 11 120 underlying142 hj0 hy0 hy1 hyb rfl (by decide) _ _ _ rfl cu.o _ _ _ (L1.flatMap fA) rfl dC.o.1 (Jz dC.o) (acx L1) (by unfold maxLen;have:=Rn.o;omega) (by have:=Rn.o;omega) (by have h1:=HG.o.size;rw[HB.o.1]at h1;exact h1) ?_;intro v' u2 hown hgrow _));have bG:Hd (OS u2 B v' (L++L1)):=by show OS u2 B v' _;unfold OS;rw[List.length_append,List.flatMap_append];exact hown
    have bW:=cu.o.far;replace az:=ae (az.o.growr hgrow (fun e=>by have:=bW b e.symm;have:=HB.o.2;omega));replace HG:=ae (vH HG.o hgrow (fun q hq=>by rw[HB.o.1];exact bW q hq));clear hown hgrow bW hj0 hy0 hy1 hyb;obtain⟨o2,n2,c2,hva⟩:=bG.o.slice;rw[hva]at bG
    try rw[hva]
    clear hva;go_wp2_with (go_at_call 129;refine(xh.o _ az.o).mono ?_);rintro e u3 ⟨rfl,hr,hg⟩;replace az:=ae hr;replace bG:=ae (bG.o.growb hg HB.o.2);replace HG:=ae (ah HG.o hg);clear hr hg;have tX:=ae (CE.o K);have nJ:=ae (fun w (h:RS b s K w)=>CT.o K w HKK.o.2 h)
    cases hend:decide (K=s.size) with
    | true =>
     rw[hend]at tX;have hke:=of_decide_eq_true hend;obtain⟨rfl,rfl,rfl⟩:E0=0/\J0=K/\S0=acc++[ts]:=by have:=LAST.o (by first|trivial|rfl) (by have:=bP.o.1;omega);simpa using this
     clear hend hke;go_wp2_with (go_at_call 108;refine(tX.o _ az.o).mono ?_);rintro e u4 ⟨rfl,n,hn⟩;replace az:Hd (RS b s J0 u4):=by show RS b s J0 u4;rw[hn];exact az.o.drew n
     replace bG:Hd (OS u4 B (.slice o2 n2 c2) (L++L1)):=by show OS u4 B _ _;rw[hn];exact bG.o
     replace HG:Hd (w.grownBy u4 (some b)):=by show w.grownBy u4 (some b);rw[hn];exact aF HG.o n
     clear hn;go_wp2;exact bodyPost_ret (results_tmp2 (t:=2) (u:=3) rfl _ _ _) rfl ⟨_,_,_,rfl,az.o,HG.o,fun _=>⟨L++L1,by rw[HB.o.1];exact bG.o,dA.o.mono (by rw[List.length_append];have h2:=HA.o;have h3:=HJ.o;have h4:=bP.o.2;simp;omega),lG.o⟩⟩
    | false =>
     rw[hend]at tX;have lY:Hd (¬l.length<=K):=by show ¬_;have:=of_decide_eq_false hend;have:=bP.o.1;have:=HKK.o.2;omega
     clear hend;go_wp2_with (go_at_call 108;refine(tX.o _ az.o).mono ?_);rintro e u4 ⟨rfl,n,hn⟩;replace az:Hd (RS b s K u4):=by show RS b s K u4;rw[hn];exact az.o.drew n
     replace bG:Hd (OS u4 B (.slice o2 n2 c2) (L++L1)):=by show OS u4 B _ _;rw[hn];exact bG.o
     replace HG:Hd (w.grownBy u4 (some b)):=by show w.grownBy u4 (some b);rw[hn];exact aF HG.o n
     clear hn
     cases hbar:jC l K with
     | true =>
      rw[hbar]at nJ;have JA:Hd (∀w,RS b s K w->Calls prog 130 #[.pointer (some ⟨b,0,none⟩),.string ⟨#[124,124]⟩] w fun e w'=>e=.returned (.bool true)/\RS b s (K+2) w'/\w.grownBy w' (some b)):=nJ.o;have bK:=ae (MORE.o (by first|trivial|rfl) lY.o hbar);have fZ:Hd (K+2<=s.size):=by have:=Eu l K hbar;rw[bP.o.1]at this;exact this
      clear hbar nJ;go_wp2_with (go_at_call 130;refine(JA.o _ az.o).mono ?_);rintro e u5 ⟨rfl,hr,hg⟩;replace az:=ae hr;replace bG:=ae (bG.o.growb hg HB.o.2);replace HG:=ae (ah HG.o hg);clear hr hg;go_wp2;go_roundw
      case rel=>exact⟨f,K+2,acc++[ts],L++L1,fZ.o,by have h1:=HF.o;have h2:=HP.o.1;have h3:=HKK.o.1;omega,by rw[List.length_append];have h1:=HA.o;have h2:=HP.o.1;have h3:=HKK.o.1;simp;omega,bK.o.symm,az.o,bG.o,dA.o,lG.o,HG.o⟩
      case measure =>
       have e1:=zG.o;have e2:=az.o.place;rw[e1];exact Nat.lt_of_le_of_lt (Nat.le_of_eq (congrArg (s.size - ·) e2)) (by have h1:=HP.o;have h2:=HKK.o;have h3:=fZ.o;omega)
     | false =>
      rw[hbar]at nJ;have JB:Hd (∀w,RS b s K w->Calls prog 130 #[.pointer (some ⟨b,0,none⟩),.string ⟨#[124,124]⟩] w fun e w'=>e=.returned (.bool false)/\RS b s K w'/\w.grownBy w' (some b)):=nJ.o;have bK:=ae (TXT.o (by first|trivial|rfl) lY.o (by rw[hbar];decide));clear hbar nJ;go_wp2_with (go_at_call 130;refine(JB.o _ az.o).mono ?_);rintro e u5 ⟨rfl,hr,hg⟩;replace az:=ae hr;replace HG:=ae (ah HG.o hg);clear hr hg;go_wp2;refine bodyPost_ret (results_tmp2 (t:=2) (u:=3) rfl _ _ _) rfl ?_;rw[bK.o];exact⟨_,_,_,rfl,az.o,HG.o,fun h=>absurd h (by simp)⟩
open Go.RowKit
def acC(R:Int × Nat × List (List Te))(w:World)(e:Ending)(w':World):Prop :=
 ∃(o:Option Addr) (n c:Nat),e=.returned (.tuple #[.slice o n c,.int .i64 R.1,.int .i64 (R.2.1:Int)])/\w.grownBy w' none/\(¬R.1=0->Value.slice o n c=.slice none 0 0) ∧
  (R.1=0->∃T,OS w' w.heap.size (.slice o n c) (outs T)/\LOk (outs T) 70000/\NT T 2/\Has (outs T) (iZ R.2.2))
theorem acD(l:List UInt8)(h:¬200<l.length):((iy l (l.length+1) 0 []).1=0->fF l=(0,0,(iy l (l.length+1) 0 []).2.2))/\(¬(iy l (l.length+1) 0 []).1=0->fF l=((iy l (l.length+1) 0 []).1,(iy l (l.length+1) 0 []).2.1,[])):=by
 obtain⟨h1,h2,h3⟩:=Pz l (l.length+1) 0 [] (Nat.zero_le _);unfold fF;rw[if_neg h];constructor
 ·intro h0;rw[if_pos (h1.symm.trans h0),h3 h0]
 ·intro h0;rw[if_neg (fun e=>h0 (h1.trans e)),h1,h2]
theorem Rq(s:ByteArray)(w:World)(hs:s.size<2 ^ 62) :
  Calls prog 81 #[.string s] w (acC (fF s.data.toList) w):=by
 by_cases h200:200<s.size
 ·have hR:fF s.data.toList=(1,0,[]):=by unfold fF;rw[if_pos (by simpa using h200)]
  rw[hR];clear hR;go_enter func81,ntmps81;go_wp2;exact bodyPost_ret (results_tmp3 (t:=2) (u:=3) (v:=4) rfl _ _ _) rfl ⟨_,_,_,rfl,ak _ _,fun _=>rfl,fun h=>absurd h (by simp)⟩
 ·have hR:=acD s.data.toList (by simpa using h200);have CS:=ae (fun b w (h:RS b s 0 w)=>acB b s w h (by omega));have CN:=ae (fun(sl:Value) (L:List Sp) (w:World) (h1:SpS w sl L) (h2:LOk L 70000)=>abP sl L 70000 w h1 h2 (by omega));obtain⟨E,J,S,hP⟩:∃E J S,iy s.data.toList (s.data.toList.length+1) 0 []=(E,J,S):=⟨_,_,_,rfl⟩;rw[hP]at CS hR;have HR:Hd ((E=0->fF s.data.toList=(0,0,S))/\(¬E=0->fF s.data.toList=(E,J,[]))):=hR;obtain⟨R,hRR⟩:=zN (fF s.data.toList);rw[hRR]at HR ⊢;clear hR hP hRR hs;go_enter func81,ntmps81;go_wp2_with (go_at_call 104;refine(CS.o _ _ ⟨_,heap_alloc_new w _⟩).mono ?_);rintro e w1 ⟨o,n,c,rfl,hr,hg,hok⟩;obtain⟨A,hA⟩:=zN (w.heap.size);have HG:=ae (MZ hg);have hsz:w.heap.size<=(w.alloc (.cells #[.string s,.int .i64 0] 172)).heap.size:=by simp
  have dH:Hd (E=0->∃L,OS w1 w.heap.size (.slice o n c) L/\LOk L 70000/\Has L (iZ S)):=fun h=>by
   obtain⟨L,h1,h2,h3⟩:=hok h;exact⟨L,h1.base hsz,h2,h3⟩
  rw[hA]at hr;have HR1:Hd (RS A s J w1):=hr;have HA:=ae hA
  try rw[hA]
  clear hA hr hg hok hsz
  cases hz:(E == 0) with
  | false =>
   have hE0:¬E=0:=by simpa using hz
   have jP:=ae hE0;have e1:=HR1.o.c1;clear hE0;go_wp2;go_quiet (fail);go_wp2;refine bodyPost_ret (results_tmp3 (t:=2) (u:=3) (v:=4) rfl _ _ _) rfl ?_;rw[HR.o.2 jP.o];exact⟨_,_,_,rfl,aF HG.o _,fun _=>rfl,fun h=>absurd h jP.o⟩
  | true =>
   have hE0:E=0:=by simpa using hz
   subst hE0;obtain⟨L,ho,hl,hh⟩:=dH.o rfl;have CNL:=ae (CN.o _ L w1 ho.sps hl);have HH:=ae hh;have HRR:=ae (HR.o.1 rfl);clear ho hl hh hz dH HR;go_wp2_with (go_at_call 105;refine CNL.o.mono ?_);rintro e w2 ⟨hg,o',n',c',T,rfl,hos,hlk,hnt,hh⟩;have HF:Hd (w.grownBy w2 none/\OS w2 w.heap.size (.slice o' n' c') (outs T)/\LOk (outs T) 70000/\NT T 2/\Has (outs T) (iZ S)) :=
    ⟨ah HG.o hg,hos.base HG.o.size,hlk,hnt,fun v hv=>by rw[hh];exact HH.o v hv⟩
   clear hg hos hlk hnt hh;go_wp2;refine bodyPost_ret (results_tmp3 (t:=2) (u:=3) (v:=4) rfl _ _ _) rfl ?_;rw[HRR.o];exact⟨_,_,_,rfl,HF.o.1,fun h=>absurd rfl h,fun _=>⟨T,HF.o.2.1,HF.o.2.2.1,HF.o.2.2.2.1,HF.o.2.2.2.2⟩⟩
open Go.RowKit Go.Maps
def gu(r v:ByteArray):Bool:=iZ (fF r.data.toList).2.2 (cutV (aZ v))
def gV(L:List Re)(k:Nat):ByteArray:=match L[k]? with|some x=>x.ve|none=>⟨#[]⟩
theorem Rt(L:List Re)(k:Nat)(h:k<L.length):gV L k=L[k].ve:=by simp[gV,List.getElem?_eq_getElem h]
def jV(N:List Nd)(L:List Re)(j q:Nat):Bool:=decide (q<L.length) && (match N[j]? with|some y=>decide (y.n=aQ L q) && gu y.r (gV L q)|none=>false)
theorem xm(N:List Nd)(L:List Re)(j q:Nat)(hj:j<N.length)(hq:q<L.length):jV N L j q=(decide (N[j].n=aQ L q) && gu N[j].r (gV L q)):=by simp[jV,List.getElem?_eq_getElem hj,hq]
theorem Ru{N:List Nd}{L:List Re}{j q:Nat}(h:jV N L j q=true):q<L.length:=by
 unfold jV at h;rw[Bool.and_eq_true]at h;exact of_decide_eq_true h.1
def nK(N:List Nd)(L:List Re)(q:Nat):Bool:=decide (q<L.length) && N.any fun y=>decide (y.n=aQ L q)
def xq(N:List Nd)(L:List Re)(i q:Nat):Bool:=match N[i]? with|some y=>decide (y.n=aQ L q)|none=>false
theorem ES(N:List Nd)(L:List Re)(i q:Nat)(hi:i<N.length):xq N L i q=decide (N[i].n=aQ L q):=by simp[xq,List.getElem?_eq_getElem hi]
def pU(N:List Nd)(L:List Re)(i k q:Nat):Bool:=decide (q<L.length) && ((N.take i).any (fun y=>decide (y.n=aQ L q)) || (decide (q<k) && xq N L i q))
def pV(N:List Nd)(L:List Re)(i k j q:Nat):Bool:=(decide (j<i) || (decide (j=i) && decide (q<k))) && jV N L j q
theorem acE(N:List Nd)(L:List Re)(q:Nat):pU N L 0 0 q=false:=by simp[pU]
theorem acF(N:List Nd)(L:List Re)(j q:Nat):pV N L 0 0 j q=false:=by simp[pV]
theorem Rw(q k:Nat):decide (q<k+1)=(decide (q<k) || decide (k=q)):=by
 rw[Bool.eq_iff_iff];simp;omega
theorem JC(N:List Nd)(L:List Re)(i k q:Nat)(hk:k<L.length):pU N L i (k+1) q=(pU N L i k q || (decide (k=q) && xq N L i k)):=by
 unfold pU;rw[Rw]
 by_cases h:k=q
 ·subst h;simp[hk]
 ·simp[h]
theorem JD(N:List Nd)(L:List Re)(i k j q:Nat):pV N L i (k+1) j q=(pV N L i k j q || (decide (j=i) && (decide (k=q) && jV N L i k))):=by
 unfold pV;rw[Rw]
 by_cases h:k=q
 ·subst h
  by_cases hj:j=i
  ·subst hj;simp
  ·simp[hj]
 ·simp[h]
theorem acG(N:List Nd)(L:List Re)(i q:Nat)(hi:i<N.length):pU N L i L.length q=pU N L (i+1) 0 q:=by
 unfold pU;rw[List.take_succ_eq_append_getElem hi,List.any_append,ES N L i q hi]
 by_cases h:q<L.length
 ·simp[h]
 ·simp[h]
theorem acH(N:List Nd)(L:List Re)(i j q:Nat):pV N L i L.length j q=pV N L (i+1) 0 j q:=by
 unfold pV
 cases hm:jV N L j q with
 | false=>simp
 | true =>
  have:=Ru hm;simp[this];rw[Bool.eq_iff_iff];simp;omega
theorem acI(N:List Nd)(L:List Re)(q:Nat):pU N L N.length 0 q=nK N L q:=by
 unfold pU nK;rw[List.take_length];simp
theorem acJ(N:List Nd)(L:List Re)(j q:Nat)(hj:j<N.length):pV N L N.length 0 j q=jV N L j q:=by
 unfold pV;simp[hj]
theorem acK{s:ByteArray}(h:okV s=true):sN (cutV (aZ s)):=by
 unfold okV at h;have h0:=of_decide_eq_true h;have h1:jM (gG s.data.toList).2.2=true:=by
  unfold gG at h0 ⊢;split at h0
  ·exact absurd h0 (by decide)
  ·rename_i hn;rw[if_neg hn];exact(UZ _ h0).2
 unfold jM at h1;simp only[Bool.and_eq_true,nV]at h1;exact⟨h1.1.1,h1.2.1.1,h1.2.2.1.1,h1.2.2.2.1⟩
def VrS(w:World)(a:Addr)(L:List Re):Prop:=∀j (hj:j<L.length),w.cell? (a.add (j*5))=some (.int .i64 (aZ L[j].ve).major)/\w.cell? ⟨(a.add (j*5)).block,(a.add (j*5)).off+1,none⟩=some (.int .i64 (aZ L[j].ve).minor)/\w.cell? ⟨(a.add (j*5)).block,(a.add (j*5)).off+2,none⟩=some (.int .i64 (aZ L[j].ve).patch)/\w.cell? ⟨(a.add (j*5)).block,(a.add (j*5)).off+3,none⟩=some (.string ⟨(aZ L[j].ve).pre.toArray⟩)/\w.cell? ⟨(a.add (j*5)).block,(a.add (j*5)).off+4,none⟩=some (.string ⟨(aZ L[j].ve).build.toArray⟩)
theorem VrS.grow{w w':World}{a:Addr}{L:List Re}(h:VrS w a L)(hg:w.grownBy w' none):VrS w' a L:=fun j hj=>by
 obtain⟨h0,h1,h2,h3,h4⟩:=h j hj;exact⟨hg.cell h0 (by simp),hg.cell h1 (by simp),hg.cell h2 (by simp),hg.cell h3 (by simp),hg.cell h4 (by simp)⟩
structure E2(b g:Nat)(w w':World):Prop where
 os:w'.os=w.os
 tape:w'.tape=w.tape
 output:w'.output=w.output
 size:w.heap.size<=w'.heap.size
 block:∀k,k<w.heap.size->¬k=b->¬k=g->w'.heap[k]?=w.heap[k]?
theorem E2.refl(b g:Nat)(w:World):E2 b g w w:=⟨rfl,rfl,rfl,Nat.le_refl _,fun _ _ _ _=>rfl⟩
theorem E2.then{b g:Nat}{w w' w'':World}(h:E2 b g w w')(hg:w'.grownBy w'' none):E2 b g w w'' :=
 ⟨hg.os.trans h.os,hg.tape.trans h.tape,hg.output.trans h.output,Nat.le_trans h.size hg.size,fun k hk h1 h2=>(hg.block k (Nat.lt_of_lt_of_le hk h.size) (by simp)).trans (h.block k hk h1 h2)⟩
theorem E2.set{b g:Nat}{w w':World}(h:E2 b g w w'){q:Nat}(hq:q=b\/q=g)(o:Nat)(v:Value):E2 b g w (w'.setCell ⟨q,o,none⟩ v) :=
 ⟨h.os,h.tape,h.output,by simpa [World.setCell] using h.size,fun k hk h1 h2=>(heap_setCell_other w' _ k _ (by rcases hq with rfl|rfl<;>assumption)).trans (h.block k hk h1 h2)⟩
theorem E2.gb{b g:Nat}{w0 w w':World}(h:E2 b g w w')(hg:w0.grownBy w none)(hb:w0.heap.size<=b)(hgg:w0.heap.size<=g):w0.grownBy w' none :=
 ⟨h.os.trans hg.os,h.tape.trans hg.tape,h.output.trans hg.output,Nat.le_trans hg.size h.size,fun k hk hn=>(h.block k (Nat.lt_of_lt_of_le hk hg.size) (by omega) (by omega)).trans (hg.block k hk hn)⟩
theorem E2.own{b g:Nat}{w w':World}(h:E2 b g w w'){base:Nat}{sl:Value}{L:List Sp}(ho:OS w base sl L)(hb:b<base)(hg:g<base):OS w' base sl L:=by
 refine⟨ho.1,?_⟩
 rcases ho.2 with h0|⟨q,cap,cur,h1,h2,h3,h4⟩
 ·exact Or.inl h0
 ·exact Or.inr ⟨q,cap,cur,h1,h2,(h.block q (aA h3) (by omega) (by omega)).trans h3,h4⟩
def iG(M:List Nat):Array Value:=(M.map fun(m:Nat)=>Value.int .u64 (m:Int)).toArray
def PSt(w:World)(b g n nam bar:Nat)(M:List Nat):Prop:=w.heap[b]?=some (.cells #[.int .u64 (nam:Nat),.int .u64 (bar:Nat),.slice (some ⟨g,0,none⟩) n n] 73 (0,0))/\w.heap[g]?=some (.cells (iG M) 70 (0,0))/\M.length=n
theorem PSt.grow{w w':World}{b g n nam bar:Nat}{M:List Nat}(h:PSt w b g n nam bar M)(hg:w.grownBy w' none):PSt w' b g n nam bar M :=
 ⟨(hg.block b (aA h.1) (by simp)).trans h.1,(hg.block g (aA h.2.1) (by simp)).trans h.2.1,h.2.2⟩
theorem PSt.nam{w:World}{b g n nam bar:Nat}{M:List Nat}(h:PSt w b g n nam bar M)(hbg:¬g=b)(x:Nat):PSt (w.setCell ⟨b,0,none⟩ (.int .u64 (x:Nat))) b g n x bar M:=by
 refine⟨?_,(heap_setCell_other w _ g _ (by simpa using hbg)).trans h.2.1,h.2.2⟩;rw[World.setCell,Array.getElem?_modify,if_pos rfl,h.1];rfl
theorem PSt.bar{w:World}{b g n nam bar:Nat}{M:List Nat}(h:PSt w b g n nam bar M)(hbg:¬g=b)(x:Nat):PSt (w.setCell ⟨b,1,none⟩ (.int .u64 (x:Nat))) b g n nam x M:=by
 refine⟨?_,(heap_setCell_other w _ g _ (by simpa using hbg)).trans h.2.1,h.2.2⟩;rw[World.setCell,Array.getElem?_modify,if_pos rfl,h.1];rfl
theorem PSt.met{w:World}{b g n nam bar:Nat}{M:List Nat}(h:PSt w b g n nam bar M)(hbg:¬g=b)(i x:Nat):PSt (w.setCell ⟨g,i,none⟩ (.int .u64 (x:Nat))) b g n nam bar (M.set i x):=by
 refine⟨(heap_setCell_other w _ b _ (by simpa using fun e=>hbg e.symm)).trans h.1,?_,by simpa using h.2.2⟩;rw[World.setCell,Array.getElem?_modify,if_pos rfl,h.2.1];simp only[Option.map_some];congr 2;unfold iG;rw[List.map_set];simp
theorem PSt.cells{w:World}{b g n nam bar:Nat}{M:List Nat}(h:PSt w b g n nam bar M):w.cell? ⟨b,0,none⟩=some (.int .u64 (nam:Nat))/\w.cell? ⟨b,1,none⟩=some (.int .u64 (bar:Nat))/\w.cell? ⟨b,2,none⟩=some (.slice (some ⟨g,0,none⟩) n n)/\(∀i,w.frozen? ⟨b,i,none⟩=false) :=
 ⟨by rw[ag h.1];rfl,by rw[ag h.1];rfl,by rw[ag h.1];rfl,fun i=>Lib.frozen_of_heap h.1 i⟩
theorem PSt.cell{w:World}{b g n nam bar:Nat}{M:List Nat}(h:PSt w b g n nam bar M)(i:Nat)(hi:i<M.length):w.cell? ⟨g,i,none⟩=some (.int .u64 (M[i]:Nat))/\w.frozen? ⟨g,i,none⟩=false:=by
 refine⟨?_,Lib.frozen_of_heap h.2.1 i⟩;rw[ag h.2.1];unfold iG;simp[hi]
end Go.Proofs.YtapodndfpecglaaGreatDoor
